import PyProof.Rows.All
import Wide.All
import OpenK.AllK
import Wide.FinOn
import HandS.ForMost
import HandS.Flow
import HandS.TupAny
import HandS.TupMul
import HandS.Conv
import HandS.IsInst
import HandS.Strs
import HandS.SetFor
import HandS.ExcInit
import HandS.ExcValue
import HandS.ExcIs
import HandS.ExcField
import KE.KExcIs
import PySem.Challenge.RW_cutscribe_k92_errors_made
set_option Elab.async false
set_option linter.all false
set_option maxRecDepth 100000
set_option maxHeartbeats 4000000
/-! What every law of this place leans on: callees by name, readings step by step, the heap beside the source of draws. -/
namespace Cs
open PySem L2
open PyProof.Rows (envOfC)

/-! ### callees -/
structure At (K : PySem.W.Frag) (mg : Str → Option Value) (x : Str) (st : Stmt) (ps : List Str) : Prop where
  ex : ∃ f fd, Fun K x x st f fd ∧ mg x = some (.ref f) ∧ Binds K fd ps []
structure Cal (P : Program) (w : World) (K : PySem.W.Frag) (mg : Str → Option Value) (base : Heap) (k : Nat) (x : Str) (ps : List Str) (sp : Sp) : Prop where
  ex : ∃ f fd, mg x = some (.ref f) ∧ PySem.W.keepIn K (.ref f) = true ∧ Binds K fd ps [] ∧ FnOk P w K mg base CX0 k f fd ps sp
section
variable {P : Program} {w : World} {K : PySem.W.Frag} {mg : Str → Option Value} {base : Heap}
theorem Cal.mono {j k : Nat} {x : Str} {ps : List Str} {sp : Sp} (C : Cal P w K mg base j x ps sp) (h : j ≤ k) : Cal P w K mg base k x ps sp := by
  obtain ⟨f, fd, a, b, c, d⟩ := C.ex
  exact ⟨f, fd, a, b, c, d.mono h⟩
theorem Cal.imp {k : Nat} {x : Str} {ps : List Str} {sp sp' : Sp} (C : Cal P w K mg base k x ps sp) (h : ∀ vs H Q E, sp' vs H Q E → sp vs H Q E) : Cal P w K mg base k x ps sp' := by
  obtain ⟨f, fd, a, b, c, d⟩ := C.ex
  exact ⟨f, fd, a, b, c, d.imp h⟩
theorem At.ok {x : Str} {st : Stmt} {N ps : List Str} {k : Nat} {sp : Sp} (F : At K mg x st ps) (S : FnScope N ps (defScope st)) (len : ∀ vs H Q E, sp vs H Q E → vs.length = ps.length)
    (hbody : ∀ (f : Addr) (cdv : Value) (A : Around) (outer : List Env) (s : Shared) (H : Hp) (vs : List V) (Q : VK) (E : XK), Room k (A.deeper (envOfC x (defScope st) s.heap.objs.size f cdv)) → sp vs H Q E →
      ∃ t, PSs (cxOf CX0 P w K mg base N x (defScope st) f cdv A outer s H E).nox (defBody st) t ∧ t { nx := fun _ H' => Q .non H', rt := Q } (start N vs) H) : Cal P w K mg base (k + 1) x ps sp := by
  obtain ⟨f, fd, F, m, b⟩ := F.ex
  exact ⟨f, fd, m, F.kp, b, F.ok S len (hbody f)⟩
end
section
variable {X : Cx} {k : Nat} {x : Str} {ps : List Str} {sp : Sp} {p pos : Pos} {e : Expr} {es : List Expr} {t : TA}
theorem pe_c (C : Cal X.prog X.w X.K X.mg X.base k x ps sp) (hr : Room k X.A) (ha : PA X (e :: es) t) (hg : Gl X x := by rfl) (hdb : (x == ("__debug__" : Str)) = false := by decide) (he : starEach (e :: es) X.env = (false, eval e X.env) :: starEach es X.env := by rfl)
    (hpl : (backTo pos (starEach es X.env)).any (·.1) = false := by rfl) : PE X (.Call (.Name x p) (e :: es) [] pos) (tCall sp [] E0 t) := by
  obtain ⟨f, fd, hm, hk, hb, F⟩ := C.ex
  exact pe_call F hr hg hm hk hb .nil pass0 ha hdb he hpl
end

/-- a built-in class as a value -/
theorem pe_ty {X : Cx} {x : Str} {T : String} {pos : Pos} (hm : X.mg x = none) (hv : bootBuiltins x = some (.type T)) (hg : Gl X x := by rfl) (hn : x ≠ "__name__" := by decide) (hd : (x == ("__debug__" : Str)) = false := by decide) : PE X (.Name x pos) (tC (.ty T)) := pe_bltn hg hm hv rfl hn hd
/-- a module's constant -/
theorem pe_k {X : Cx} {x : Str} {v : V} {pos : Pos} (h : ∃ u, X.mg x = some u ∧ RelV v u) (hg : Gl X x := by rfl) (hd : (x == ("__debug__" : Str)) = false := by decide) : PE X (.Name x pos) (tC v) := by
  obtain ⟨u, hm, r⟩ := h
  exact pe_glob hg hm r hd

/-! ### the rules whose reading names the written part, with that part given: within a comprehension's block it must not lean on the block -/
section
variable {X : Cx} {K : PySem.W.Frag} {tg : Expr}
def rLenQ (K : PySem.W.Frag) : List V → Hp → VK → Prop := fun xs H Q => ∃ p ys, xs = [.ref p] ∧ (SqL K H p ys ∨ SqT K H p ys) ∧ Q (.int ys.length) H
def rTupOf (K : PySem.W.Frag) : List V → Hp → VK → Prop := fun xs H Q => ∃ p ys, xs = [.ref p] ∧ ((SqL K H p ys ∧ ∀ l, H l = none → Q (.ref l) (upd H l (.tup ys))) ∨ (SqT K H p ys ∧ Q (.ref p) H))
def rLstOf (K : PySem.W.Frag) : List V → Hp → VK → Prop := fun xs H Q => ∃ p ys, xs = [.ref p] ∧ (SqL K H p ys ∨ SqT K H p ys) ∧ ∀ l, H l = none → Q (.ref l) (upd H l (.lst ys))
theorem call_len_seqK (h : X.K = K) : CallR X (.builtin "len") (rLenQ K) := by subst h; exact call_len_seq
theorem call_tuple_ofK (h : X.K = K) : CallR X (.type "tuple") (rTupOf K) := by subst h; exact call_tuple_of
theorem call_list_ofK (h : X.K = K) : CallR X (.type "list") (rLstOf K) := by subst h; exact call_list_of
theorem call_isiK' (h : X.K = K) : CallR X (.builtin "isinstance") (rIsi K) := by subst h; exact call_isi
theorem ix_listK (h : X.K = K) : IxR X (rIxL K) := by subst h; exact ix_list
theorem ix_tupK (h : X.K = K) : IxR X (rIxT K) := by subst h; exact ix_tup
theorem op_in_seqK (h : X.K = K) : OpR X (compareOp .In) (rIn K false) := by subst h; exact op_in_seq
theorem op_notIn_seqK (h : X.K = K) : OpR X (compareOp .NotIn) (rIn K true) := by subst h; exact op_notIn_seq
theorem op_eqDK (h : X.K = K) (hu : X.A.units + 64 < cLine) : OpR X (compareOp .Eq) (rEqD K) := by subst h; exact op_eqD hu
theorem op_neDK (h : X.K = K) (hu : X.A.units + 64 < cLine) : OpR X (compareOp .NotEq) (rNeD K) := by subst h; exact op_neD hu
theorem op_catTK (h : X.K = K) : OpR X (binaryOp .Add) (rCatT K) := by subst h; exact op_catT
theorem sl_listK (h : X.K = K) : SlR X (rSlL K) := by subst h; exact sl_list
theorem sl_tupAK (h : X.K = K) : SlR X (rSlA K) := by subst h; exact sl_tupA
theorem cr_sumK (h : X.K = K) (hc : X.calm = true) : CallR X (.builtin "sum") (rSum K) := by subst h; exact cr_sum hc
theorem cr_allK (h : X.K = K) (hc : X.calm = true) : CallR X (.builtin "all") (rAll K) := by subst h; exact cr_all hc
theorem cr_anyK (h : X.K = K) (hc : X.calm = true) : CallR X (.builtin "any") (rAny K) := by subst h; exact cr_any hc
theorem mt_indexK (h : X.K = K) : MtR X "list.index" (rIndex K) := by subst h; exact mt_index
theorem pi_listK {l : Expr} {tl : TE} (h : X.K = K) (hl : PE X l tl) : PI X tg l (iList K tl) := by subst h; exact pi_list hl
theorem pi_tupK {l : Expr} {tl : TE} (h : X.K = K) (hl : PE X l tl) : PI X tg l (iTup K tl) := by subst h; exact pi_tup hl
theorem pg_tupK {es : List Expr} {k : Nat} {t : TGs} {n : Nat} {pos : Pos} (hK : X.K = K) (hc : X.calm = true) (h : PGs X es t)
    (hn : (assignEach es X.env).length = n := by rfl) (hst : (assignEach es X.env).findIdx? (·.1) = none := by rfl) : PG X (.Tuple es k pos) (gTup K n t) := by subst hK; exact pg_tup hc h hn hst
def tTruth (K : PySem.W.Frag) (ta : TE) : TT := fun σ H Q => ta σ H fun x H' => ∃ k, TruV K x H' k ∧ Q k H'
theorem pt_truthK {a : Expr} {ta : TE} (h : X.K = K) (ha : PE X a ta) (he : ∀ whole, isTrue a X.env whole = (do let v ← whole; standAt a.pos; holding [v] (truthy v)) := by intro _; rfl) : PT X a (tTruth K ta) := by subst h; exact pt_truth ha he
variable {o e : Expr} {es : List Expr} {to te : TE} {t : TA} {name : Str} {apos cpos pos : Pos} {T id : String} {r : V → List V → Hp → VK → Prop}
theorem pe_bm0K (h : X.K = K) (pa : PlainAttrs T) (slot : Slot T name id) (hty : typeOf (.builtin id) = pure (.type "method_descriptor")) (hm : MtR X id r) (ho : PE X o to)
    (hbase : attributeBase o name X.env (eval o X.env) = eval o X.env := by rfl) (hline : (apos.endLine == cpos.line) = true := by rfl) : PE X (.Call (.Attribute o name apos) [] [] cpos) (tBM0 K T r to) := by subst h; exact pe_bm0 pa slot hty hm ho hbase hline
theorem pe_bmK (h : X.K = K) (pa : PlainAttrs T) (slot : Slot T name id) (hty : typeOf (.builtin id) = pure (.type "method_descriptor")) (hm : MtR X id r) (ho : PE X o to) (ha : PA X (e :: es) t)
    (hbase : attributeBase o name X.env (eval o X.env) = eval o X.env := by rfl)
    (hfew : ((backTo cpos (starEach (e :: es) X.env)).all (fun x => !x.1) && (backToKw cpos (keywordEach [] X.env)).all (fun x => x.1.isSome)
      && decide ((e :: es).length + ([] : List Keyword).length + (if ([] : List Keyword).isEmpty then 0 else 1) < 30)) = true := by rfl)
    (hline : (apos.endLine == cpos.line) = true := by rfl) (hs : starEach (e :: es) X.env = (false, eval e X.env) :: starEach es X.env := by rfl) (hplain : (backTo cpos (starEach es X.env)).any (·.1) = false := by rfl) :
    PE X (.Call (.Attribute o name apos) (e :: es) [] cpos) (tBM K T r to t) := by subst h; exact pe_bm pa slot hty hm ho ha hbase hfew hline hs hplain
def rJoin (K : PySem.W.Frag) : V → List V → Hp → VK → Prop := fun x xs H Q => ∃ a p, ∃ ys : List Str, x = .str a ∧ xs = [.ref p] ∧ (SqL K H p (ys.map V.str) ∨ SqT K H p (ys.map V.str)) ∧ (ys.map (·.length)).sum + ys.length * a.length ≤ 16777216 ∧ Q (.str (Txt.join a ys)) H
theorem pe_joinK (h : X.K = K) (ho : PE X o to) (he : PE X e te) (hs : starEach [e] X.env = [(false, eval e X.env)] := by rfl) (hbase : attributeBase o "join" X.env (eval o X.env) = eval o X.env := by rfl) (hline : (apos.endLine == pos.line) = true := by rfl) :
    PE X (.Call (.Attribute o "join" apos) [e] [] pos) (tM1 (rJoin K) to te) := by subst h; exact pe_join ho he hs hbase hline
end

/-! ### readings, step by step -/
section
variable {σ : St} {H : Hp} {D : Ends} {Q : VK} {t u : TS} {te ta tb tc : TE} {v x y : V} {i : Nat} {tt c c2 : TT} {tas : TA} {K : PySem.W.Frag}
theorem rd_seq (h : t { D with nx := u D } σ H) : tSeq t u D σ H := h
theorem rd_next (h : D.nx σ H) : tNext D σ H := h
theorem rd_asg {g : TG} (h : te σ H fun x H1 => g x σ H1 D.nx) : tAsg te g D σ H := h
theorem rd_gname {R : St → Hp → Prop} (h : R (σ.set i (some v)) H) : gName i v σ H R := h
theorem rd_var (e : σ[i]? = some (some v)) (q : Q v H) : tVar i σ H Q := ⟨v, e, q⟩
theorem rd_c (q : Q v H) : tC v σ H Q := q
theorem rd_op {r : R2} (h : ta σ H fun x H1 => tb σ H1 fun y H2 => r x y H2 Q) : tOp r ta tb σ H Q := h
theorem rd_un {r : V → Hp → VK → Prop} (h : ta σ H fun x H1 => r x H1 Q) : tUn r ta σ H Q := h
theorem rd_test {R : Bool → Hp → Prop} (h : te σ H fun x H' => ∃ k, x = .bl k ∧ R k H') : tTest te σ H R := h
theorem rd_tB {R : Bool → Hp → Prop} (h : te σ H fun x H' => ∃ k, x = .bl k ∧ R k H') : tB te σ H R := h
theorem rd_bl {b : Bool} {R : Bool → Prop} (q : R b) : ∃ k, V.bl b = .bl k ∧ R k := ⟨b, rfl, q⟩
theorem rd_ifs (h : c σ H fun b H1 => if b = true then t D σ H1 else u D σ H1) : tIfS c t u D σ H := h
theorem rd_ret (h : te σ H D.rt) : tRet te D σ H := h
theorem rd_retN (h : D.rt .non H) : tRetN D σ H := h
theorem rd_drop (h : te σ H fun _ H1 => D.nx σ H1) : tDrop te D σ H := h
theorem rd_nil {R : List V → Hp → Prop} (h : R [] H) : tNil σ H R := h
theorem rd_cons {R : List V → Hp → Prop} (h : te σ H fun x H1 => tas σ H1 fun xs H2 => R (x :: xs) H2) : tCons te tas σ H R := h
/-- a new object at any free place -/
def New (H : Hp) (o : HO) (R : Addr → Hp → Prop) : Prop := ∀ p, H p = none → R p (upd H p o)
theorem rd_tup (h : tas σ H fun xs H1 => xs.length ≤ sizeLine ∧ New H1 (.tup xs) fun p H2 => Q (.ref p) H2) : tTup tas σ H Q := h
theorem rd_lst (h : tas σ H fun xs H1 => xs.length ≤ sizeLine ∧ New H1 (.lst xs) fun p H2 => Q (.ref p) H2) : tLst tas σ H Q := h
theorem rd_catT {a b : Addr} {xs ys : List V} (h1 : SqT K H a xs) (h2 : SqT K H b ys) (h3 : xs ≠ []) (h4 : xs.length + ys.length ≤ sizeLine) (q1 : ys = [] → Q (.ref a) H) (q2 : ys ≠ [] → New H (.tup (xs ++ ys)) fun p H2 => Q (.ref p) H2) : rCatT K (.ref a) (.ref b) H Q := ⟨a, b, xs, ys, rfl, rfl, h1, h2, h3, h4, q1, q2⟩
theorem rd_tupl {a : Addr} {xs : List V} (h : SqL K H a xs) (q : New H (.tup xs) fun p H2 => Q (.ref p) H2) : rTupOf K [V.ref a] H Q := ⟨a, xs, rfl, .inl ⟨h, q⟩⟩
theorem rd_tupt {a : Addr} {xs : List V} (h : SqT K H a xs) (q : Q (.ref a) H) : rTupOf K [V.ref a] H Q := ⟨a, xs, rfl, .inr ⟨h, q⟩⟩
theorem rd_lstof {a : Addr} {xs : List V} (h : SqL K H a xs ∨ SqT K H a xs) (q : New H (.lst xs) fun p H2 => Q (.ref p) H2) : rLstOf K [V.ref a] H Q := ⟨a, xs, rfl, h, q⟩
theorem rd_cb {r : List V → Hp → VK → Prop} (h : tas σ H fun vs H1 => r vs H1 Q) : tCB r tas σ H Q := h
theorem rd_call {sp : Sp} {E : XK} (h : tas σ H fun vs H1 => sp (vs ++ []) H1 Q E) : tCall sp [] E tas σ H Q := h
theorem rd_and {R : Bool → Hp → Prop} (h : c σ H fun b H1 => if b = true then c2 σ H1 R else R false H1) : tAnd c c2 σ H R := h
theorem rd_or {R : Bool → Hp → Prop} (h : c σ H fun b H1 => if b = true then R true H1 else c2 σ H1 R) : tOr c c2 σ H R := h
theorem rd_not {R : Bool → Hp → Prop} (h : c σ H fun b H1 => R (!b) H1) : tNot c σ H R := h
theorem rd_andV (h : ta σ H fun x H1 => ∃ c, x = .bl c ∧ if c = true then tb σ H1 Q else Q (.bl false) H1) : tAndV ta tb σ H Q := h
theorem rd_orV (h : ta σ H fun x H1 => ∃ c, x = .bl c ∧ if c = true then Q (.bl true) H1 else tb σ H1 Q) : tOrV ta tb σ H Q := h
theorem rd_notV (h : ta σ H fun x H1 => ∃ c, x = .bl c ∧ Q (.bl (!c)) H1) : tNotV ta σ H Q := h
theorem rd_ife (h : c σ H fun b H1 => if b = true then ta σ H1 Q else tb σ H1 Q) : tIf c ta tb σ H Q := h
theorem rd_bm0 {T : String} {r : V → List V → Hp → VK → Prop} (h : te σ H fun x H1 => tyV K T x H1 ∧ r x [] H1 Q) : tBM0 K T r te σ H Q := h
theorem rd_bm {T : String} {r : V → List V → Hp → VK → Prop} (h : te σ H fun x H1 => tyV K T x H1 ∧ tas σ H1 fun xs H2 => r x xs H2 Q) : tBM K T r te tas σ H Q := h
theorem rd_gsub {to ti : TE} {s : TSet} {R : St → Hp → Prop} (h : to σ H fun o H1 => ti σ H1 fun i H2 => s o i v H2 fun H3 => R σ H3) : gSub to ti s v σ H R := h
theorem rd_i0 {g : Int → Int → V} {a b : Int} (q : Q (g a b) H) : rI0 g (.int a) (.int b) H Q := ⟨a, b, rfl, rfl, q⟩
theorem rd_i {C : Int → Int → Prop} {g : Int → Int → V} {a b : Int} (h : C a b) (q : Q (g a b) H) : rI C g (.int a) (.int b) H Q := ⟨a, b, rfl, rfl, h, q⟩
theorem rd_eq (h : scal x y = true) (q : Q (.bl (decide (x = y))) H) : rEq x y H Q := ⟨h, q⟩
theorem rd_ne (h : scal x y = true) (q : Q (.bl (!decide (x = y))) H) : rNe x y H Q := ⟨h, q⟩
theorem rd_ixl {a : Addr} {xs : List V} {n : Int} (h : SqL K H a xs) (e : atI xs n = some v) (q : Q v H) : rIxL K (.ref a) (.int n) H Q := ⟨a, xs, n, v, rfl, rfl, h, e, q⟩
theorem rd_ixt {a : Addr} {xs : List V} {n : Int} (h : SqT K H a xs) (e : atI xs n = some v) (q : Q v H) : rIxT K (.ref a) (.int n) H Q := ⟨a, xs, n, v, rfl, rfl, h, e, q⟩
theorem rd_setl {a : Addr} {xs : List V} {n : Int} {j : Nat} {R : Hp → Prop} (h : H a = some (.lst xs)) (e : ixN xs.length n = some j) (q : R (upd H a (.lst (xs.set j v)))) : rSetL (.ref a) (.int n) v H R := ⟨a, xs, n, j, rfl, rfl, h, e, q⟩
theorem rd_m1 {r : V → List V → Hp → VK → Prop} (h : ta σ H fun x H1 => (∃ a, x = .str a) ∧ tb σ H1 fun y H2 => r x [y] H2 Q) : tM1 r ta tb σ H Q := h
theorem rd_gtup {n : Nat} {a : Addr} {xs : List V} {ts : TGs} {R : St → Hp → Prop} (h : SqT K H a xs) (e : xs.length = n) (q : ts xs σ H R) : gTup K n ts (.ref a) σ H R := ⟨a, xs, rfl, h, e, q⟩
theorem rd_gcons {g : TG} {ts : TGs} {vs : List V} {R : St → Hp → Prop} (q : g v σ H fun σ' H' => ts vs σ' H' R) : gCons g ts (v :: vs) σ H R := ⟨v, vs, rfl, q⟩
theorem rd_gnil {R : St → Hp → Prop} (q : R σ H) : gNil [] σ H R := ⟨rfl, q⟩
theorem rd_truth {R : Bool → Hp → Prop} (h : te σ H fun x H' => ∃ k, TruV K x H' k ∧ R k H') : tTruth K te σ H R := h
theorem rd_yes {R : Bool → Hp → Prop} (h : R true H) : tYes σ H R := h
theorem rd_sl {r : V → Option Int → Option Int → Hp → VK → Prop} {tl th : TO} (h : te σ H fun x H1 => tl σ H1 fun l H2 => th σ H2 fun u H3 => r x l u H3 Q) : tSl r te tl th σ H Q := h
theorem rd_nopart {R : Option Int → Hp → Prop} (h : R none H) : tNoPart σ H R := h
theorem rd_part {R : Option Int → Hp → Prop} (h : te σ H fun x H1 => ∃ i, x = .int i ∧ R (some i) H1) : tPart te σ H R := h
theorem rd_int {n : Int} {R : Int → Prop} (q : R n) : ∃ k, V.int n = .int k ∧ R k := ⟨n, rfl, q⟩
theorem rd_strx {z : Str} {R : Prop} (q : R) : (∃ a, V.str z = .str a) ∧ R := ⟨⟨z, rfl⟩, q⟩
theorem rd_len {a : Addr} {xs : List V} (h : SqL K H a xs ∨ SqT K H a xs) (q : Q (.int xs.length) H) : rLenQ K [V.ref a] H Q := ⟨a, xs, rfl, h, q⟩
theorem rd_isi {v c : V} {tv u : Value} {b : Bool} (h1 : ClsV c u) (h2 : TyX K H v tv) (h3 : PySem.W.kitOne K tv u = some b) (q : Q (.bl b) H) : rIsi K [v, c] H Q := ⟨v, c, tv, u, b, rfl, h1, h2, h3, q⟩
theorem rd_in {x : V} {p : Addr} {xs : List V} {neg : Bool} (h : SqL K H p xs ∨ SqT K H p xs) (fx : flatV x = true) (fs : xs.all flatV = true) (q : Q (.bl (if neg then !inV x xs else inV x xs)) H) : rIn K neg x (.ref p) H Q := ⟨p, xs, rfl, h, fx, fs, q⟩
theorem rd_sla {a : Addr} {xs : List V} {lo hi : Option Int} (h : SqT K H a xs) (q1 : HT.sIx xs.length 0 lo = 0 ∧ HT.sIx xs.length xs.length hi = xs.length → Q (.ref a) H) (q2 : ¬ (HT.sIx xs.length 0 lo = 0 ∧ HT.sIx xs.length xs.length hi = xs.length) → New H (.tup (cutV xs lo hi)) fun p H2 => Q (.ref p) H2) : rSlA K (.ref a) lo hi H Q := ⟨a, xs, rfl, h, q1, q2⟩
theorem rd_sum {a : Addr} {ns : List Int} (h : SqL K H a (ns.map V.int)) (q : Q (.int ns.sum) H) : rSum K [V.ref a] H Q := ⟨a, ns, rfl, h, q⟩
theorem rd_all {a : Addr} {ns : List Bool} (h : SqL K H a (ns.map V.bl)) (q : Q (.bl (ns.all id)) H) : rAll K [V.ref a] H Q := ⟨a, ns, rfl, h, q⟩
theorem rd_any {a : Addr} {ns : List Bool} (h : SqL K H a (ns.map V.bl)) (q : Q (.bl (ns.any id)) H) : rAny K [V.ref a] H Q := ⟨a, ns, rfl, h, q⟩
theorem rd_chain {r r' : R2} (h : ta σ H fun x H1 => tb σ H1 fun y H2 => r x y H2 fun z H3 => ∃ k, z = .bl k ∧ (if k = true then tc σ H3 fun w' H4 => r' y w' H4 Q else Q (.bl false) H3)) : tChain r r' ta tb tc σ H Q := h
theorem rd_rng1 {R : It → Hp → Prop} (h : tas σ H fun vs H1 => ∃ j : Int, vs = [.int j] ∧ -(2 ^ 62) ≤ j ∧ j < 2 ^ 62 ∧ R (Itr 0 j.toNat) H1) : iRng1 tas σ H R := h
theorem rd_rng1j {n : Int} {R : Int → Prop} (h1 : -(2 ^ 62) ≤ n) (h2 : n < 2 ^ 62) (q : R n) : ∃ j : Int, ([V.int n] : List V) = [.int j] ∧ -(2 ^ 62) ≤ j ∧ j < 2 ^ 62 ∧ R j := ⟨n, rfl, h1, h2, q⟩
theorem rd_ilist {R : It → Hp → Prop} (h : te σ H fun x H1 => ∃ a, x = .ref a ∧ (∃ xs, SqL K H1 a xs) ∧ R (Itl K a) H1) : iList K te σ H R := h
theorem rd_itup {R : It → Hp → Prop} (h : te σ H fun x H1 => ∃ a, x = .ref a ∧ (∃ xs, SqT K H1 a xs) ∧ R (Itt K a) H1) : iTup K te σ H R := h
theorem rd_istr {R : It → Hp → Prop} (h : te σ H fun v H1 => ∃ x, v = .str x ∧ R (Its x) H1) : iStr te σ H R := h
theorem rd_strj {z : Str} {R : Str → Prop} (q : R z) : ∃ x, V.str z = .str x ∧ R x := ⟨z, rfl, q⟩
theorem rd_lc {wi : TI} {g : TG} {vs : List Nat} (h : wi σ H fun J H1 => ∀ D, H1 D = none → ∃ W : Nat → Nat → Hp → Prop, (∃ m, W 0 m (upd H1 D (.lst []))) ∧ ∀ i m H, W i m H →
  (J.stop i H ∧ Q (.ref D) H) ∨ (J.go i H ∧ ∃ Nx : Hp → Prop, (∀ H', Nx H' → ∃ m', m' < m ∧ W (i + 1) m' H') ∧ ∀ x H', J.yld i H x H' → g x (wipe σ vs) H' fun σ2 H2 => wipe σ2 vs = wipe σ vs ∧ tt σ2 H2 fun b H3 =>
    if b = true then te σ2 H3 fun y H4 => ∃ acc, H4 D = some (.lst acc) ∧ acc.length < sizeLine ∧ Nx (upd H4 D (.lst (acc ++ [y]))) else Nx H3)) : tLc wi g tt te vs σ H Q := h
theorem rd_for {wi : TI} {g : TG} (h : wi σ H fun J H1 => ∃ W : Nat → Nat → St → Hp → Prop, (∃ m, W 0 m σ H1) ∧ ∀ i m σ H, W i m σ H →
  (J.stop i H ∧ D.nx σ H) ∨ (J.go i H ∧ ∃ N : St → Hp → Prop, (∀ σ' H', N σ' H' → ∃ m', m' < m ∧ W (i + 1) m' σ' H') ∧ ∀ x H', J.yld i H x H' → g x σ H' fun σ2 H2 => t { D with nx := N, ct := N, bk := D.nx } σ2 H2)) : tFor wi g t D σ H := h
theorem rd_par {i j : Nat} (h : tas σ H fun vs H1 => ∃ v w, vs = [v, w] ∧ D.nx ((σ.set i (some v)).set j (some w)) H1) : tPar i j tas D σ H := h
theorem rd_parj {a b : V} {R : V → V → Prop} (q : R a b) : ∃ v w, ([a, b] : List V) = [v, w] ∧ R v w := ⟨a, b, rfl, q⟩
theorem rd_aug {ti : TIp} (e : σ[i]? = some (some x)) (h : te σ H fun y H1 => ti x y H1 fun z H2 => D.nx (σ.set i (some z)) H2) : tAug i te ti D σ H := ⟨x, e, h⟩
theorem rd_ipi {g : Int → Int → Int} {a b : Int} (q : Q (.int (g a b)) H) : ipI g (.int a) (.int b) H Q := ⟨a, b, rfl, rfl, q⟩
/-- while, by an invariant that bears a measure -/
theorem rd_while {m0 : Nat} (W : Nat → St → Hp → Prop) (w0 : W m0 σ H) (hs : ∀ m σ H, W m σ H → c σ H fun b H1 => if b = true then t { D with nx := fun σ' H' => ∃ m', m' < m ∧ W m' σ' H', ct := fun σ' H' => ∃ m', m' < m ∧ W m' σ' H', bk := D.nx } σ H1 else D.nx σ H1)
    (mono : ∀ σ H Q Q', (∀ b H1, Q b H1 → Q' b H1) → c σ H Q → c σ H Q') : tWhile c t D σ H := by
  refine ⟨W, ⟨m0, w0⟩, fun m σ H h => ?_⟩
  refine mono σ H _ _ (fun b H1 q => ?_) (hs m σ H h)
  cases b with
  | true => exact ⟨_, fun σ' H' z => z, q⟩
  | false => exact q
/-- a new object: what is said of the heap behind it -/
theorem rd_new {o : HO} {R : Addr → Hp → Prop} (k : ∀ p H', H p = none → H' p = some o → Same H H' → R p H') : New H o R := fun p hp =>
  k p _ hp upd_same fun b ob e => by rw [upd_ne (ne_of_none e hp)]; exact e
end
/-! ### the heap beside one list -/
def hid (a : Addr) (H : Hp) : Hp := fun b => if b = a then none else H b
theorem hid_ne {a b : Addr} {H : Hp} (h : b ≠ a) : hid a H b = H b := by unfold hid; rw [if_neg h]
theorem hid_sub {a b : Addr} {H : Hp} {o : HO} (h : hid a H b = some o) : b ≠ a ∧ H b = some o := by
  unfold hid at h
  by_cases e : b = a
  · rw [if_pos e] at h; cases h
  · rw [if_neg e] at h; exact ⟨e, h⟩
theorem hid_le {a : Addr} {H : Hp} : Same (hid a H) H := fun _ _ h => (hid_sub h).2
/-- all but a is kept -/
def Kp (a : Addr) (H H' : Hp) : Prop := Same (hid a H) (hid a H')
theorem Kp.refl {a : Addr} {H : Hp} : Kp a H H := Same.refl _
theorem Kp.trans {a : Addr} {H H1 H2 : Hp} (x : Kp a H H1) (y : Kp a H1 H2) : Kp a H H2 := Same.trans x y
theorem Kp.of {a : Addr} {H H' : Hp} (s : Same H H') : Kp a H H' := fun b o e => by
  obtain ⟨n, e⟩ := hid_sub e
  rw [hid_ne n]; exact s b o e
theorem Kp.set {a : Addr} {H : Hp} {o : HO} : Kp a H (upd H a o) := fun b u e => by
  obtain ⟨n, e⟩ := hid_sub e
  rw [hid_ne n, upd_ne n]; exact e
theorem Kp.at {a b : Addr} {H H' : Hp} {o : HO} (k : Kp a H H') (n : b ≠ a) (e : H b = some o) : H' b = some o := by
  have q : hid a H b = some o := by rw [hid_ne n]; exact e
  exact (hid_sub (k b o q)).2
theorem Same.seqT {K : PySem.W.Frag} {H H' : Hp} {a : Addr} {xs : List V} (e : Same H H') (h : SqT K H a xs) : SqT K H' a xs := by
  rcases h with (h | ⟨o, h⟩) | h
  · exact .inl (.inl (e _ _ h))
  · exact .inl (.inr ⟨o, e _ _ h⟩)
  · exact .inr h

/-! ### data that a heap bears -/
mutual
theorem Dp.mono {K : PySem.W.Frag} {H H' : Hp} (s : Same H H') : ∀ {v : V} {d : PyData}, Dp K H v d → Dp K H' v d
  | _, _, .non => .non
  | _, _, .bl b => .bl b
  | _, _, .int i => .int i
  | _, _, .str x => .str x
  | _, _, .lst h t => .lst (L2.Same.seq s h) (DpAll.mono s t)
  | _, _, .tup h t => .tup (Same.seqT s h) (DpAll.mono s t)
theorem DpAll.mono {K : PySem.W.Frag} {H H' : Hp} (s : Same H H') : ∀ {vs : List V} {ds : List PyData}, DpAll K H vs ds → DpAll K H' vs ds
  | _, _, .nil => .nil
  | _, _, .cons h t => .cons (Dp.mono s h) (DpAll.mono s t)
end
theorem DpAll.length {K : PySem.W.Frag} {H : Hp} : ∀ {vs : List V} {ds : List PyData}, DpAll K H vs ds → vs.length = ds.length
  | _, _, .nil => rfl
  | _, _, .cons _ t => by rw [List.length_cons, List.length_cons, DpAll.length t]
theorem DpAll.get {K : PySem.W.Frag} {H : Hp} : ∀ {vs : List V} {ds : List PyData} {i : Nat} {v : V}, DpAll K H vs ds → vs[i]? = some v → ∃ d, ds[i]? = some d ∧ Dp K H v d
  | _, _, _, _, .nil, e => by simp at e
  | _, _, 0, _, .cons h _, e => by
    simp at e; subst e; exact ⟨_, rfl, h⟩
  | _, _, i + 1, v, .cons _ t, e => by
    obtain ⟨d, a, b⟩ := DpAll.get (i := i) (v := v) t (by simpa using e)
    exact ⟨d, by simpa using a, b⟩
theorem DpAll.get' {K : PySem.W.Frag} {H : Hp} : ∀ {vs : List V} {ds : List PyData} {i : Nat} {d : PyData}, DpAll K H vs ds → ds[i]? = some d → ∃ v, vs[i]? = some v ∧ Dp K H v d
  | _, _, _, _, .nil, e => by simp at e
  | _, _, 0, _, .cons h _, e => by
    simp at e; subst e; exact ⟨_, rfl, h⟩
  | _, _, i + 1, v, .cons _ t, e => by
    obtain ⟨d, a, b⟩ := DpAll.get' (i := i) (d := v) t (by simpa using e)
    exact ⟨d, by simpa using a, b⟩
theorem DpAll.app {K : PySem.W.Frag} {H : Hp} : ∀ {vs ws : List V} {ds es : List PyData}, DpAll K H vs ds → DpAll K H ws es → DpAll K H (vs ++ ws) (ds ++ es)
  | _, _, _, _, .nil, t => t
  | _, _, _, _, .cons h t, u => .cons h (DpAll.app t u)
theorem DpAll.take {K : PySem.W.Frag} {H : Hp} : ∀ {vs : List V} {ds : List PyData} (n : Nat), DpAll K H vs ds → DpAll K H (vs.take n) (ds.take n)
  | _, _, 0, _ => .nil
  | _, _, _ + 1, .nil => .nil
  | _, _, n + 1, .cons h t => .cons h (DpAll.take n t)
theorem DpAll.drop {K : PySem.W.Frag} {H : Hp} : ∀ {vs : List V} {ds : List PyData} (n : Nat), DpAll K H vs ds → DpAll K H (vs.drop n) (ds.drop n)
  | _, _, 0, t => t
  | _, _, _ + 1, .nil => .nil
  | _, _, n + 1, .cons _ t => DpAll.drop n t

/-! ### the source of draws: a list of three ints at a; n draws may still be made -/
def Src (a : Addr) (n : Nat) (H : Hp) : Prop := ∃ d s c : Int, H a = some (.lst [.int d, .int s, .int c]) ∧ 0 ≤ s ∧ s < 2 ^ 40 ∧ 0 ≤ c ∧ c + (n : Int) ≤ 2 ^ 40
theorem Src.mono {a : Addr} {n m : Nat} {H : Hp} (h : Src a m H) (l : n ≤ m) : Src a n H := by
  obtain ⟨d, s, c, e, h1, h2, h3, h4⟩ := h
  exact ⟨d, s, c, e, h1, h2, h3, by omega⟩
theorem Src.same {a : Addr} {n : Nat} {H H' : Hp} (h : Src a n H) (s : Same H H') : Src a n H' := by
  obtain ⟨d, s', c, e, r⟩ := h
  exact ⟨d, s', c, s _ _ e, r⟩
theorem Src.ne {a p : Addr} {n : Nat} {H : Hp} (h : Src a n H) (e : H p = none) : p ≠ a := by
  obtain ⟨_, _, _, q, _⟩ := h
  rintro rfl
  rw [e] at q; cases q
end Cs
local macro_rules | `(tactic| walk_at "go") => `(tactic| repeat (first
  | with_reducible refine Cs.rd_seq ?_ | with_reducible refine Cs.rd_asg ?_ | with_reducible refine Cs.rd_gname ?_ | with_reducible refine Cs.rd_var rfl ?_ | with_reducible refine Cs.rd_c ?_ | with_reducible refine Cs.rd_op ?_
  | with_reducible refine Cs.rd_i0 ?_ | with_reducible refine Cs.rd_cons ?_ | with_reducible refine Cs.rd_nil ?_ | with_reducible refine Cs.rd_call ?_ | with_reducible refine Cs.rd_cb ?_ | with_reducible refine Cs.rd_ret ?_ | with_reducible refine Cs.rd_ifs ?_
  | with_reducible refine Cs.rd_test ?_ | with_reducible refine Cs.rd_tB ?_ | with_reducible refine Cs.rd_bl ?_ | with_reducible refine Cs.rd_eq rfl ?_ | with_reducible refine Cs.rd_ne rfl ?_ | with_reducible refine Cs.rd_tup ?_ | with_reducible refine Cs.rd_lst ?_
  | with_reducible refine Cs.rd_bm0 ?_ | with_reducible refine Cs.rd_bm ?_ | with_reducible refine Cs.rd_gsub ?_ | with_reducible refine Cs.rd_and ?_ | with_reducible refine Cs.rd_or ?_ | with_reducible refine Cs.rd_not ?_ | with_reducible refine Cs.rd_andV ?_
  | with_reducible refine Cs.rd_orV ?_ | with_reducible refine Cs.rd_notV ?_ | with_reducible refine Cs.rd_ife ?_ | with_reducible refine Cs.rd_drop ?_ | with_reducible refine Cs.rd_next ?_ | with_reducible refine Cs.rd_un ?_ | with_reducible refine L2.iteT ?_ | with_reducible refine L2.iteF ?_
  | with_reducible refine Cs.rd_m1 ?_ | with_reducible refine Cs.rd_gcons ?_ | with_reducible refine Cs.rd_gnil ?_ | with_reducible refine Cs.rd_truth ?_ | with_reducible refine Cs.rd_yes ?_ | with_reducible refine Cs.rd_sl ?_ | with_reducible refine Cs.rd_nopart ?_ | with_reducible refine Cs.rd_part ?_ | with_reducible refine Cs.rd_int ?_ | with_reducible refine Cs.rd_strx ?_
  | with_reducible refine Cs.rd_rng1 ?_ | with_reducible refine Cs.rd_ilist ?_ | with_reducible refine Cs.rd_itup ?_ | with_reducible refine Cs.rd_istr ?_ | with_reducible refine Cs.rd_strj ?_ | with_reducible refine Cs.rd_lc ?_ | with_reducible refine Cs.rd_for ?_
  | with_reducible refine Cs.rd_chain ?_
  | with_reducible refine Cs.rd_par ?_ | with_reducible refine Cs.rd_parj ?_ | with_reducible refine Cs.rd_aug rfl ?_ | with_reducible refine Cs.rd_ipi ?_))
namespace Cs
open PySem L2
open PyProof.Rows (envOfC)
def topS (i : Nat) : Stmt := PySem.Challenge.pw_cutscribe_k92_errors_made.main.body.getD i (.Pass ⟨0, 0, 0, 0⟩)
abbrev s__law_source : Stmt := topS 22
theorem sc__law_source : FnScope ["_law_script", "_law_k", "_law_cell", "_law_deep"] ["_law_script", "_law_k"] (defScope s__law_source) := ⟨rfl, rfl, rfl, by decide +kernel, rfl, by decide +kernel, by decide +kernel⟩
abbrev s__law_draw : Stmt := topS 23
theorem sc__law_draw : FnScope ["_law_source_here", "_law_many", "_law_digit", "_law_seed"] ["_law_source_here", "_law_many"] (defScope s__law_draw) := ⟨rfl, rfl, rfl, by decide +kernel, rfl, by decide +kernel, by decide +kernel⟩
abbrev s__law_value : Stmt := topS 24
theorem sc__law_value : FnScope ["_law_source_here", "_law_some"] ["_law_source_here"] (defScope s__law_value) := ⟨rfl, rfl, rfl, by decide +kernel, rfl, by decide +kernel, by decide +kernel⟩
abbrev s__law_classes : Stmt := topS 25
theorem sc__law_classes : FnScope ["_law_e", "_law_found", "_law_k"] ["_law_e"] (defScope s__law_classes) := ⟨rfl, rfl, rfl, by decide +kernel, rfl, by decide +kernel, by decide +kernel⟩
abbrev s__law_made : Stmt := topS 26
theorem sc__law_made : FnScope ["_law_way", "_law_a", "_law_b", "_law_c", "_law_e", "_law_one"] ["_law_way", "_law_a", "_law_b", "_law_c"] (defScope s__law_made) := ⟨rfl, rfl, rfl, by decide +kernel, rfl, by decide +kernel, by decide +kernel⟩
abbrev s_law : Stmt := topS 27
theorem sc_law : FnScope ["_law_script", "_law_k", "_law_source_here", "_law_way", "_law_e", "_law_fields", "_law_found", "_law_due"] ["_law_script"] (defScope s_law) := ⟨rfl, rfl, rfl, by decide +kernel, rfl, by decide +kernel, by decide +kernel⟩
end Cs
namespace Cs
open PySem L2
open PyProof.Rows (envOfC)
/-! the built-in names, which no law's text binds anew -/
structure Blt (mg : Str → Option Value) : Prop where
  len : mg "len" = none
  range : mg "range" = none
  isinstance : mg "isinstance" = none
  max : mg "max" = none
  min : mg "min" = none
  sum : mg "sum" = none
  all : mg "all" = none
  any : mg "any" = none
  list : mg "list" = none
  tuple : mg "tuple" = none
  int : mg "int" = none
  str : mg "str" = none
  bool : mg "bool" = none
  sorted : mg "sorted" = none
  set : mg "set" = none
  enumerate : mg "enumerate" = none
  zip : mg "zip" = none

end Cs
namespace Cs
open PySem L2
open PyProof.Rows (envOfC)
/-! what the top has left, def by def -/
theorem at_mk {K : PySem.W.Frag} {h : Heap} {mg : Str → Option Value} (X : K.In h) (G : h.Ns mainGlobals mg) {x : Str} {st : Stmt} {ps : List Str} {f : Addr} {oc : Value} {od an : Option Addr} {osl : Array (Option Value)} {kV dc pm cd ct : Value}
    (a : PySem.W.nsIn K mainGlobals x = some (some (.ref f))) (l : K.lookup f = some ⟨oc, od, .func (PySem.W.fnOf x x (defArgs st) (defBody st) (defScope st) .none kV dc pm an cd ct), osl⟩) (c : PySem.W.codeIn K cd x = true) (k : PySem.W.keepIn K (.ref f) = true)
    (b : ∀ (kV dc pm : Value) (an : Option Addr) (cd ct : Value) (us : List Value), us.length = ps.length → bindArgs (PySem.W.fnOf x x (defArgs st) (defBody st) (defScope st) .none kV dc pm an cd ct) ⟨us, []⟩ = pure (ps.zip us)) : At K mg x st ps :=
  ⟨⟨f, _, fun_mk l c k, PySem.W.mg_of X G a, (fun_mk l c k).binds b⟩⟩
def spLaw (K : PySem.W.Frag) : Sp := fun vs H Q _ => ∃ (a : Addr) (ns : List Int), vs = [.ref a] ∧ SqL K H a (ns.map V.int) ∧ ns.length ≤ 63 ∧ ∀ H', Q (.bl true) H'
theorem walk_c {l : PySem.W.OpenLaw} {q : Program} {loose : List Str} {XP : (Str → Option Value) → Heap → Prop} {YP : World → Heap → Prop} {d : DefRec} {K : Params → PySem.W.Frag} {st : Stmt} (hn : l.most = some 63) (hdf : d.params.defaults = []) (hnm : d.name = "law")
    (hY : ∀ (w : World) (h : Heap), YP w h → (K w.params).In h)
    (F : ∀ (w : World) (mg : Str → Option Value) (h : Heap), (K w.params).In h → h.Ns mainGlobals mg →
      ∃ (f : Addr) (oc : Value) (od an : Option Addr) (osl : Array (Option Value)) (kV dc pm cd ct : Value), PySem.W.nsIn (K w.params) mainGlobals "law" = some (some (.ref f)) ∧ (K w.params).lookup f = some ⟨oc, od, .func (PySem.W.fnOf "law" "law" (defArgs st) (defBody st) (defScope st) .none kV dc pm an cd ct), osl⟩ ∧
        PySem.W.codeIn (K w.params) cd "law" = true ∧ PySem.W.keepIn (K w.params) (.ref f) = true ∧
        (∀ (kV dc pm : Value) (an : Option Addr) (cd ct u : Value), bindArgs (PySem.W.fnOf "law" "law" (defArgs st) (defBody st) (defScope st) .none kV dc pm an cd ct) ⟨[u], []⟩ = pure [(("_law_script" : Str), u)]) ∧
        ∀ (base : Heap) (f : Addr) (fd : FuncData), Fun (K w.params) "law" "law" st f fd → FnOk l.prog w (K w.params) mg base CX0 200 f fd ["_law_script"] (spLaw (K w.params))) :
    PySem.W.WalkO q loose XP YP l.row.toRowW d [] (fun f vs => PySem.call f vs) := by
  refine L2.walk_of (n := 63) (k := 200) (x := "_law_script") (CX := fun _ => CX0) (sp := fun w => spLaw (K w.params)) hn (by decide) hdf ⟨rfl, by decide, by decide⟩ hY (fun w mg fa h X G hfa => ?_) (fun _ _ a ns hl _ hS => ⟨a, ns, rfl, hS, hl, fun _ => rfl⟩) fun _ _ _ _ _ z => z
  obtain ⟨f, oc, od, an, osl, kV, dc, pm, cd, ct, a, lk, c, k, hb, G2⟩ := F w mg h X G
  rw [hnm] at hfa
  have e := hfa.symm.trans (PySem.W.mg_of X G a)
  cases e
  exact ⟨_, fun s v => .of_eq (hb _ _ _ _ _ _ _), fun base _ _ => G2 base _ _ (fun_mk lk c k)⟩
theorem blt_mk {K : PySem.W.Frag} {h : Heap} {mg : Str → Option Value} (X : K.In h) (G : h.Ns mainGlobals mg) (z0 : PySem.W.nsIn K mainGlobals "len" = some none) (z1 : PySem.W.nsIn K mainGlobals "range" = some none) (z2 : PySem.W.nsIn K mainGlobals "isinstance" = some none) (z3 : PySem.W.nsIn K mainGlobals "max" = some none) (z4 : PySem.W.nsIn K mainGlobals "min" = some none) (z5 : PySem.W.nsIn K mainGlobals "sum" = some none) (z6 : PySem.W.nsIn K mainGlobals "all" = some none) (z7 : PySem.W.nsIn K mainGlobals "any" = some none) (z8 : PySem.W.nsIn K mainGlobals "list" = some none) (z9 : PySem.W.nsIn K mainGlobals "tuple" = some none) (z10 : PySem.W.nsIn K mainGlobals "int" = some none) (z11 : PySem.W.nsIn K mainGlobals "str" = some none) (z12 : PySem.W.nsIn K mainGlobals "bool" = some none) (z13 : PySem.W.nsIn K mainGlobals "sorted" = some none) (z14 : PySem.W.nsIn K mainGlobals "set" = some none) (z15 : PySem.W.nsIn K mainGlobals "enumerate" = some none) (z16 : PySem.W.nsIn K mainGlobals "zip" = some none) : Blt mg :=
  ⟨PySem.W.mg_none_of X G z0, PySem.W.mg_none_of X G z1, PySem.W.mg_none_of X G z2, PySem.W.mg_none_of X G z3, PySem.W.mg_none_of X G z4, PySem.W.mg_none_of X G z5, PySem.W.mg_none_of X G z6, PySem.W.mg_none_of X G z7, PySem.W.mg_none_of X G z8, PySem.W.mg_none_of X G z9, PySem.W.mg_none_of X G z10, PySem.W.mg_none_of X G z11, PySem.W.mg_none_of X G z12, PySem.W.mg_none_of X G z13, PySem.W.mg_none_of X G z14, PySem.W.mg_none_of X G z15, PySem.W.mg_none_of X G z16⟩
theorem const_mk {K : PySem.W.Frag} {h : Heap} {mg : Str → Option Value} (X : K.In h) (G : h.Ns mainGlobals mg) {x : Str} {u : Value} {v : V} (a : PySem.W.nsIn K mainGlobals x = some (some u)) (r : RelV v u) : ∃ u, mg x = some u ∧ RelV v u := ⟨u, PySem.W.mg_of X G a, r⟩
theorem law_mk {P : Program} {w : World} {K : PySem.W.Frag} {mg : Str → Option Value} {st : Stmt} {f : Addr} {oc : Value} {od an : Option Addr} {osl : Array (Option Value)} {kV dc pm cd ct : Value}
    (a : PySem.W.nsIn K mainGlobals "law" = some (some (.ref f))) (l : K.lookup f = some ⟨oc, od, .func (PySem.W.fnOf "law" "law" (defArgs st) (defBody st) (defScope st) .none kV dc pm an cd ct), osl⟩) (c : PySem.W.codeIn K cd "law" = true) (k : PySem.W.keepIn K (.ref f) = true)
    (b : ∀ (kV dc pm : Value) (an : Option Addr) (cd ct u : Value), bindArgs (PySem.W.fnOf "law" "law" (defArgs st) (defBody st) (defScope st) .none kV dc pm an cd ct) ⟨[u], []⟩ = pure [(("_law_script" : Str), u)])
    (G2 : ∀ (base : Heap) (f : Addr) (fd : FuncData), Fun K "law" "law" st f fd → FnOk P w K mg base CX0 200 f fd ["_law_script"] (spLaw K)) :
    ∃ (f : Addr) (oc : Value) (od an : Option Addr) (osl : Array (Option Value)) (kV dc pm cd ct : Value), PySem.W.nsIn K mainGlobals "law" = some (some (.ref f)) ∧ K.lookup f = some ⟨oc, od, .func (PySem.W.fnOf "law" "law" (defArgs st) (defBody st) (defScope st) .none kV dc pm an cd ct), osl⟩ ∧
      PySem.W.codeIn K cd "law" = true ∧ PySem.W.keepIn K (.ref f) = true ∧
      (∀ (kV dc pm : Value) (an : Option Addr) (cd ct u : Value), bindArgs (PySem.W.fnOf "law" "law" (defArgs st) (defBody st) (defScope st) .none kV dc pm an cd ct) ⟨[u], []⟩ = pure [(("_law_script" : Str), u)]) ∧
      ∀ (base : Heap) (f : Addr) (fd : FuncData), Fun K "law" "law" st f fd → FnOk P w K mg base CX0 200 f fd ["_law_script"] (spLaw K) :=
  ⟨f, oc, od, an, osl, kV, dc, pm, cd, ct, a, l, c, k, b, G2⟩

end Cs
namespace Cs
open PySem L2
open PyProof.Rows (envOfC)
/-! an exception of an own class as a value -/
def ExV (cls : Value) (d : Option Addr) (a : Addr) : HO := .ext fun h => ∃ (oe : Obj) (vs : Array Value), h.get? a = some oe ∧ Zc cls d oe ∧ oe.data = .fields vs
theorem exV_ok {P : Program} {w : World} {H : Hp} {h : Heap} {a : Addr} {cls : Value} {d : Option Addr} {oe : Obj} {vs : Array Value} (e : h.get? a = some oe) (z : Zc cls d oe) (dt : oe.data = .fields vs) : ObjOk P w H h a (ExV cls d a) :=
  ⟨⟨oe, vs, e, z, dt⟩, ⟨oe, e⟩, fun _ _ ⟨o, v, q, r⟩ k => ⟨o, v, k o q, r⟩⟩
/-- what may be raised may be a value -/
theorem pe_made {X : Cx} {e : Expr} {t : St → Hp → XK → Prop} (he : PMk X e t) : PE X e (fun σ H Q => t σ H fun cls d H' => ∀ a, H' a = none → Q (.ref a) (upd H' a (ExV cls d a))) := by
  constructor
  intro pins s σ H Q I h
  refine wpAny_mono (he pins s σ H _ I h) (fun u s1 hu => ?_) fun _ _ x => x
  obtain ⟨a, oe, vs, sI, H', cls, d, rfl, J, k, hne, ha, hz, hd, _, na, os, ag, _, q⟩ := hu
  have L := J.laidN (t' := s1.toks) k hne na (exV_ok ha hz hd)
  exact ⟨.ref a, _, ⟨L.ok, by rw [os]; exact L.os, ag, L.base, L.loc, L.cell, L.free, L.freeC, L.pin, L.hok, L.len⟩, rfl, q a na⟩
/-- its field -/
def tFieldV (K : PySem.W.Frag) (f : Str) (te : TE) : TE := fun σ H Q => te σ H fun x H1 => ∃ (a C dd : Addr) (fs : List (Str × V)) (v : V), x = .ref a ∧ H1 a = some (ExV (.ref C) (some dd) a) ∧ H1 dd = some (.xd fs) ∧ XfC K C ∧ PySem.W.findIn K (.ref C) f = some none ∧ fs.lookup f = some v ∧ Q v H1
theorem pe_fieldV {X : Cx} {e : Expr} {te : TE} {pos : Pos} {n : Str} (he : PE X e te) (hb : attributeBase e n X.env (eval e X.env) = eval e X.env := by rfl) : PE X (.Attribute e n pos) (tFieldV X.K n te) := by
  constructor
  intro pins s σ H Q I h
  refine attr_of hb (thn (he.run pins s σ H _ I h) fun u s1 hh => ?_)
  obtain ⟨x, H1, I1, rx, a, C, dd, fs, v, rfl, ea, ed, T, hno, l, q⟩ := hh
  cases rx
  obtain ⟨⟨oe, vs, hget, hz, hd⟩, _⟩ := I1.hok a _ ea
  have hx : ObjOk X.prog X.w H1 s1.heap dd (.xd fs) := I1.hok dd _ ed
  obtain ⟨mA, hns, hr⟩ := hx
  obtain ⟨od, ho, hl⟩ := lookIn_ns hns
  obtain ⟨u, hu, ru⟩ := RelO.some_of (v := v) (o := mA n) (by rw [← l]; exact hr n)
  have J : PySem.W.InstAt s1.heap a oe C (some od) := ⟨hget, hz.1, by unfold PySem.W.notCls; rw [hd] <;> rfl, by rw [hz.2]; exact ho⟩
  exact HandSPX.exc_get I1.kIn J T.ga T.gg T.exC (PySem.W.findObj_own T.hdC hno rfl (by rw [hl, hu])) (handed_of ru) ⟨v, H1, I1.tok _, ru, q⟩
/-- isinstance(e, c), with fields or without -/
def rIsV (K : PySem.W.Frag) : List V → Hp → VK → Prop := fun xs H Q => ∃ (a D : Addr) (d : Option Addr) (c : V) (cv : Value) (b : Bool), xs = [.ref a, c] ∧ H a = some (ExV (.ref D) d a) ∧ (d = none ∨ ∃ dd fs, d = some dd ∧ H dd = some (.xd fs)) ∧ ExcC K D ∧ (∀ u, RelV c u → u = cv) ∧ PySem.W.kitOne K (.ref D) cv = some b ∧ Q (.bl b) H
theorem call_isV {X : Cx} {K : PySem.W.Frag} (hK : X.K = K) : CallR X (.builtin "isinstance") (rIsV K) := by
  subst hK
  rintro pins s σ H xs us Q I r ⟨a, D, d, c, cv, b, rfl, ea, dct, C, hcv, e, q⟩
  cases r with
  | cons rx rr =>
    cases rr with
    | cons rt rr =>
      cases rr
      cases rx
      have ec := hcv _ rt
      subst ec
      obtain ⟨⟨oe, vs, hget, hz, hd⟩, _⟩ := I.hok a _ ea
      obtain ⟨od, J⟩ : ∃ od, PySem.W.InstAt s.heap a oe D od := by
        rcases dct with rfl | ⟨dd, fs, rfl, ed⟩
        · exact ⟨none, hget, hz.1, by unfold PySem.W.notCls; rw [hd] <;> rfl, by rw [hz.2]; trivial⟩
        · have hx : ObjOk X.prog X.w H s.heap dd (.xd fs) := I.hok dd _ ed
          obtain ⟨mA, hns, hr⟩ := hx
          obtain ⟨od, ho, hl⟩ := lookIn_ns hns
          exact ⟨some od, hget, hz.1, by unfold PySem.W.notCls; rw [hd] <;> rfl, by rw [hz.2]; exact ho⟩
      have cls : (PySem.W.clsIn X.K D).isSome = true := by
        obtain ⟨cd, hc, _⟩ := PySem.W.any_some C.hd
        rw [hc]; rfl
      exact PySem.W.kia_one (PySem.W.kitx_exc cls C.hg C.hk C.hs C.ha C.hn C.ht C.hm) I.kIn J e (fun z => nomatch z) fun tk => ⟨.bl b, H, I.kept (t' := tk) fun _ _ z => z, rfl, q⟩
def tExv0 (C : Addr) : TE := fun _ H Q => ∀ a, H a = none → Q (.ref a) (upd H a (ExV (.ref C) none a))
/-- C(), C an own class without own __init__ -/
theorem pe_exv0 {X : Cx} {C : Addr} {bmB : List Value} {B newId initId : String} {x : Str} {p pos : Pos} (F : ExcBaseFacts B newId initId bmB) (q : PySem.W.excIn X.K C bmB newId = true) (gC : X.mg x = some (.ref C)) (kC : PySem.W.keepIn X.K (.ref C) = true) (hg : Gl X x := by rfl) (hdb : (x == ("__debug__" : Str)) = false := by decide) :
    PE X (.Call (.Name x p) [] [] pos) (tExv0 C) := by
  constructor
  intro pins s σ H Q I h
  refine wpAny_Call_Name_kw (ld_glob I hg gC ?_ hdb)
  refine PySem.W.callWith_K0 I.kIn kC ?_
  show wpAny _ _ (call (.ref C) []) _ _ _
  obtain ⟨bm, N, nm, qn, bs, hdct, sn, sub, ab, col, dd, k0, k1, k2, k3, k5, mN, hC, hN, hni, T⟩ := exc_obj I.kIn q
  refine wpAny_call_exc_subT F T hC hN hni (fun h' a made => ?_) (by show 0 ≤ sizeLine; decide)
  have free : H a = none := I.hok.gone made.new
  obtain ⟨t, there, _, _⟩ := made.there
  exact ⟨.ref a, _, I.laidN made.keeps made.new free (exV_ok there ⟨rfl, rfl⟩ rfl), rfl, h a free⟩

end Cs
namespace Cs
open PySem L2
open PyProof.Rows (envOfC)
/-! list(text): a new list of its signs -/
section
open PySem.Calls PyProof.Rows PyProof.V PySem.Spec PySem.W
variable {prog : Program} {w : World} {A : Around} {E : Value → Shared → Prop} {s : Shared} {x : Str} {t : Tok}
theorem hint_str {Q : Bool → Shared → Prop} (h : Q false s) : wpAny (model prog w) A (Builtin.List.listLengthHint (.str x t)) Q E s := by
  have hT : s.TypeIs (.str x t) "str" := typeIs_str s x t
  unfold Builtin.List.listLengthHint
  refine wpAny_bind (wpAny_specialOf hT PySem.F.slot_str_len.lookup ?_)
  generalize hid : ("str.__len__" : String) = id0
  wp_delta
  rw [show splitId id0 = some ("str", "__len__") from by subst hid; decide +kernel]
  subst hid
  refine wpAny_bind (wpAny_isInstance (T := "str") (b := true) hT (by rw [isSubtype_type]; kernel_rfl) ?_)
  refine wpAny_ite_split (fun hab => absurd hab (by decide)) (fun _ => ?_)
  refine wpAny_ite_split (fun _ => ?_) (fun hab => absurd (by decide +kernel) hab)
  refine wpAny_bind (wpAny_typeOf hT ?_)
  exact wpAny_pure h
theorem extend_str {R : Result → Shared → Prop} (hh : A.handled = none) (S : Addr) (res : Value) (c₀ : Nat) (hS : s.heap.get? S = some { cls := .type "list", data := .seq #[] c₀ })
    (hR : ∀ h' tk acc' c', (∀ b o, b ≠ S → s.heap.get? b = some o → h'.get? b = some o) → h'.get? S = some { cls := .type "list", dict := none, data := .seq acc' c', slots := #[] } → ItemsOf (SignAt x) acc' x.cps.size → R (.ok (.ret res)) { s with heap := h', toks := tk }) (hn : x.cps.size ≤ sizeLine) :
    wpAny (model prog w) A.in1 (Builtin.List.listExtendWith (.ref S) (.str x t) res)
      (fun fin s' => match fin with | .done f => R (.ok f) s' | .again c' => c'.quiet = true ∧ codeAny (model prog w) A c' R s') (fun e s' => R (.error e) s') s := by
  have hSI : S ≠ s.heap.objs.size := Nat.ne_of_lt (Heap.lt_size hS)
  have hSf : S ∉ [s.heap.objs.size] := by simp only [List.mem_cons, List.not_mem_nil, or_false]; exact hSI
  obtain ⟨oI, St, hit, W, st⟩ : ∃ (oI : Obj) (St : Nat → Heap → Prop),
      (∀ (E : Value → Shared → Prop) (Q : Value → Shared → Prop), Q (.ref s.heap.objs.size) { s with heap := s.heap.push oI } → wpAny (model prog w) A.in1 (pyIter (.str x t)) Q E s) ∧
      Walks prog w A.in1 s.heap.objs.size [s.heap.objs.size] [s.heap.objs.size] x.cps.size (SignAt x) St ∧ St 0 (s.heap.push oI) := by
    cases ha : x.cps.all (· < 128)
    · exact ⟨_, _, fun _ _ hq => wpAny_pyIter_wide ha hq, Walks.strWide (A := A.in1) hh _ x t, ⟨_, Heap.get?_push_size _ rfl, rfl, rfl⟩⟩
    · exact ⟨_, _, fun _ _ hq => wpAny_pyIter_ascii ha hq, Walks.strAscii (A := A.in1) hh _ x t, ⟨_, Heap.get?_push_size _ rfl, rfl, rfl⟩⟩
  have key : ∀ (h : Heap) (c₁ tk : Nat), St 0 h → (∀ b o, b ≠ S → s.heap.get? b = some o → h.get? b = some o) →
      h.get? S = some { cls := .type "list", data := .seq #[] c₁ } → codeAny (model prog w) A (.builtin "list.extend.loop" ⟨[.ref S, .ref s.heap.objs.size, res], []⟩) R { s with heap := h, toks := tk } := by
    intro h c₁ tk hst hk hS₁
    refine codeAny_extend_loopS W.toS hn S hSf res x.cps.size 0 _ #[] c₁ rfl (Nat.zero_le _) hst hS₁ (ItemsOf.nil _) fun s' acc' c' hm hS' hacc => ?_
    rw [Moved.eq_with hm]
    refine hR s'.heap s'.toks acc' c' (fun b o hb e => hm.heap b o (fun hmem => ?_) (hk b o hb e)) hS' hacc
    rcases List.mem_cons.mp hmem with e' | hmem
    · exact hb e'
    · exact absurd (Heap.lt_size e) (by rw [List.mem_singleton.mp hmem]; exact Nat.lt_irrefl _)
  unfold Builtin.List.listExtendWith
  refine wpAny_bind (wpAny_typeOf (T := "str") (typeIs_str s x t) ?_)
  have h1 : Builtin.List.listSameRef (.ref S) (.str x t) = false := rfl
  have h2 : (Value.type "str" == Value.type "list") = false := by decide
  have h3 : (Value.type "str" == Value.type "tuple") = false := by decide
  simp only [h1, h2, h3, Bool.or_false, Bool.false_eq_true, if_false]
  refine wpAny_bind (hit _ _ ?_)
  have hS₁ := Heap.get?_push_of_some oI hS
  refine wpAny_bind (wpAny_holding (hint_str ?_))
  refine wpAny_ite_split (fun _ => ?_) (fun _ => wpAny_pure ⟨plainId_quiet PySem.F.plain_extend_loop _, key _ c₀ _ st (fun b o _ e => Heap.get?_push_of_some _ e) hS₁⟩)
  refine wpAny_bind (wpAny_rule ?_)
  refine wpAny_bind ?_
  show wpAny _ _ (updateSeq S (·.push .none) >>= fun _ => updateSeq S (·.pop)) _ _ _
  refine wpAny_bind (wpAny_updateSeq hS₁ rfl ?_)
  have hS₂ := Heap.get?_update_self (Obj.mapSeq (·.push Value.none)) hS₁ rfl
  refine wpAny_updateSeq (hz := by seq_fits) hS₂ rfl ?_
  have hS₃ := Heap.get?_update_self (Obj.mapSeq (·.pop)) hS₂ rfl
  refine wpAny_pure ⟨plainId_quiet PySem.F.plain_extend_loop _, key _ _ _ ?_ (fun b o hb e => ?_) hS₃⟩
  · refine W.frame 0 _ _ st fun b hb o e => ?_
    have hbS : b ≠ S := fun h => hSf (h ▸ hb)
    exact (Heap.get?_update_other _ _ (Ne.symm hbS)).trans ((Heap.get?_update_other _ _ (Ne.symm hbS)).trans e)
  · exact (Heap.get?_update_other _ _ (Ne.symm hb)).trans ((Heap.get?_update_other _ _ (Ne.symm hb)).trans (Heap.get?_push_of_some _ e))
theorem init_str {R : Result → Shared → Prop} (hh : A.handled = none) (S : Addr) (hS : s.heap.get? S = some { cls := .type "list", data := .seq #[] })
    (hR : ∀ h' tk acc' c', (∀ b o, b ≠ S → s.heap.get? b = some o → h'.get? b = some o) → h'.get? S = some { cls := .type "list", dict := none, data := .seq acc' c', slots := #[] } → ItemsOf (SignAt x) acc' x.cps.size → R (.ok (.ret .none)) { s with heap := h', toks := tk }) (hn : x.cps.size ≤ sizeLine) :
    wpAny (model prog w) A.in1 (Builtin.«list.__init__» ⟨[.ref S, .str x t], []⟩)
      (fun fin s' => match fin with | .done f => R (.ok f) s' | .again c' => c'.quiet = true ∧ codeAny (model prog w) A c' R s') (fun e s' => R (.error e) s') s := by
  show wpAny _ _ (do let old ← Builtin.List.listItems (.ref S); Builtin.List.listUpdate (.ref S) (fun _ => #[]); letGo old.toList.reverse; Builtin.List.listExtendWith (.ref S) (.str x t) .none) _ _ s
  refine wpAny_bind ?_
  unfold Builtin.List.listItems
  refine wpAny_bind (wpAny_seqItems hS rfl (wpAny_pure ?_))
  show wpAny _ _ (updateSeq S (fun _ => #[]) >>= fun _ => letGo (#[] : Array Value).toList.reverse >>= fun _ => Builtin.List.listExtendWith (.ref S) (.str x t) .none) _ _ s
  refine wpAny_bind (wpAny_updateSeq hS rfl ?_)
  have hS₂ := Heap.get?_update_self (Obj.mapSeq (fun _ => (#[] : Array Value))) hS rfl
  have oth : ∀ b o, b ≠ S → s.heap.get? b = some o → (s.heap.update S (Obj.mapSeq (fun _ => (#[] : Array Value)))).get? b = some o :=
    fun b o hb e => (Heap.get?_update_other _ _ (Ne.symm hb)).trans e
  refine wpAny_bind (wpAny_letGo ?_)
  refine extend_str hh S .none _ hS₂ (fun h' tk acc' c' hk hS' hacc => ?_) hn
  exact hR h' tk acc' c' (fun b o hb e => hk b o hb (oth b o hb e)) hS' hacc
theorem list_of_str {Q : Value → Shared → Prop} (hh : A.handled = none) (hn : x.cps.size ≤ sizeLine)
    (hQ : ∀ h' tk acc' c', (∀ b o, s.heap.get? b = some o → h'.get? b = some o) → h'.get? s.heap.objs.size = some { cls := .type "list", dict := none, data := .seq acc' c', slots := #[] } → ItemsOf (SignAt x) acc' x.cps.size → Q (.ref s.heap.objs.size) { s with heap := h', toks := tk }) :
    wpAny (model prog w) A (call (.type "list") [.str x t]) Q E s := by
  refine callType_codes (Q₁ := fun obj s₁ => obj = .ref s.heap.objs.size ∧ s₁ = { s with heap := s.heap.push { cls := .type "list", data := .seq #[] } }) PySem.F.called_list (PySem.F.typeCall_list_1 _) PySem.F.entry_list_init
    (code_list_new _ ⟨rfl, rfl⟩) fun obj s₁ h₁ => ?_
  obtain ⟨rfl, rfl⟩ := h₁
  have hS : (s.heap.push { cls := .type "list", data := .seq #[] }).get? s.heap.objs.size = some { cls := .type "list", data := .seq #[] } := Heap.get?_push_size _ rfl
  refine ⟨⟨_, hS, rfl⟩, PySem.F.args_list_init_2 _ _, init_str (A := A.in1) hh _ hS (fun h' tk acc' c' hk hS' hacc => ?_) hn⟩
  exact ⟨rfl, hQ h' tk acc' c' (fun b o e => hk b o (Nat.ne_of_lt (Heap.lt_size e)) (Heap.get?_push_of_some _ e)) hS' hacc⟩
end
def signs (z : Str) : List Str := z.cps.toList.map fun c => ⟨#[c]⟩
theorem vals_signs : ∀ (zs : List Nat) (us : List Value), us.length = zs.length → (∀ (i : Nat) (v : Value), us[i]? = some v → ∃ c u, zs[i]? = some c ∧ v = .str ⟨#[c]⟩ u) → Vals ((zs.map fun c => (⟨#[c]⟩ : Str)).map V.str) us
  | [], [], _, _ => .nil
  | [], _ :: _, e, _ => by simp at e
  | _ :: _, [], e, _ => by simp at e
  | z :: zs, u :: us, e, h => by
    obtain ⟨c, t, h1, h2⟩ := h 0 u rfl
    have h1 : z = c := by simpa using h1
    subst h1
    refine .cons ⟨t, h2⟩ (vals_signs zs us (by simpa using e) fun i v hv => ?_)
    obtain ⟨c, t', a, b⟩ := h (i + 1) v (by simpa using hv)
    exact ⟨c, t', by simpa using a, b⟩
theorem call_list_str {X : Cx} (hc : X.calm = true) : CallR X (.type "list") (fun xs H Q => ∃ z : Str, xs = [.str z] ∧ z.cps.size ≤ sizeLine ∧ ∀ l, H l = none → Q (.ref l) (upd H l (.lst ((signs z).map V.str)))) := by
  intro pins s σ H xs us Q I r h
  obtain ⟨z, rfl, hz, q⟩ := h
  obtain ⟨u, rfl, t, rfl⟩ := vals1 r
  refine list_of_str (I.ok.hd hc) hz fun h' tk acc' c' kp e it => ?_
  have vs : Vals ((signs z).map V.str) acc'.toList := by
    refine vals_signs z.cps.toList acc'.toList (by rw [Array.length_toList, Array.length_toList]; exact it.1) fun i v hv => ?_
    obtain ⟨c, u, a, b⟩ := it.2 i v (by rw [← Array.getElem?_toList]; exact hv)
    exact ⟨c, u, by rw [Array.getElem?_toList]; exact a, b⟩
  have hl : ((signs z).map V.str).length ≤ sizeLine := by
    rw [List.length_map, signs, List.length_map, Array.length_toList]; exact hz
  refine ⟨.ref s.heap.objs.size, _, I.laid (t' := tk) kp (Nat.le_refl _) (show ObjOk X.prog X.w _ h' _ (.lst _) from ⟨hl, acc'.toList, c', vs, by rw [e]⟩), rfl, q _ (I.hok.fresh (Nat.le_refl _))⟩

end Cs
namespace Cs
open PySem L2
open PyProof.Rows (envOfC)
/-! texts as lists of codes -/
abbrev S (l : List Nat) : Str := ⟨l.toArray⟩
theorem S_len (a : List Nat) : (S a).length = a.length := by simp [S, Str.length]
theorem S_cps (x : Str) : S x.cps.toList = x := by cases x; rfl
theorem S_inj {a b : List Nat} (h : S a = S b) : a = b := congrArg (fun x : Str => x.cps.toList) h
theorem signs_S (l : List Nat) : signs (S l) = l.map fun c => S [c] := rfl
theorem joinL_nil : ∀ ys : List (List Nat), TL.joinL [] ys = ys.flatten
  | [] => rfl
  | [p] => by show p = [p].flatten; simp
  | p :: q :: r => by
    show p ++ ([] ++ TL.joinL [] (q :: r)) = (p :: q :: r).flatten
    rw [joinL_nil (q :: r)]; simp
theorem map_tl_S : ∀ l : List (List Nat), (l.map S).map TL.tl = l
  | [] => rfl
  | x :: l => congrArg (fun z => x :: z) (map_tl_S l)
theorem join_nil (ys : List (List Nat)) : Txt.join (S []) (ys.map S) = S ys.flatten := by
  have e := TL.tl_join (S []) (ys.map S)
  rw [map_tl_S] at e
  have e2 : TL.tl (Txt.join (S []) (ys.map S)) = TL.tl (S (TL.joinL [] ys)) := (congrArg TL.tl (TL.join_eq (S []) (ys.map S))).trans e
  exact (TL.ext_tl e2).trans (by rw [joinL_nil])
theorem flat1 : ∀ cs : List Nat, (cs.map fun c => [c]).flatten = cs
  | [] => rfl
  | c :: cs => by
    show [c] ++ (cs.map fun c => [c]).flatten = c :: cs
    rw [flat1 cs]; rfl
theorem join_signs (cs : List Nat) : Txt.join (S []) (cs.map fun c => S [c]) = S cs := by
  have e := join_nil (cs.map fun c => [c])
  rw [flat1, List.map_map] at e
  exact e
theorem sum_signs (cs : List Nat) : ((cs.map fun c => S [c]).map (·.length)).sum = cs.length := by
  induction cs with
  | nil => rfl
  | cons c cs ih =>
    show 1 + ((cs.map fun c => S [c]).map (·.length)).sum = cs.length + 1
    omega
theorem empty_S : Str.ofString "" = S [] := by decide +kernel
/-- a heap that keeps all but a, and lays what was not there -/
theorem Kp.lay {a p : Addr} {H0 H : Hp} {o : HO} (k : Kp a H0 H) (n : H0 p = none) : Kp a H0 (upd H p o) := fun b u e => by
  obtain ⟨nb, e0⟩ := hid_sub e
  have q : b ≠ p := fun z => by rw [z, n] at e0; cases e0
  have z := k b u e
  obtain ⟨_, z⟩ := hid_sub z
  rw [hid_ne nb, upd_ne q]; exact z
theorem Kp.none {a b : Addr} {H H' : Hp} (k : Kp a H H') (n : b ≠ a) (h : H' b = none) : H b = none := by
  cases e : H b with
  | none => rfl
  | some o => rw [k.at n e] at h; cases h
theorem Src.lay {a p : Addr} {n : Nat} {H : Hp} {o : HO} (h : Src a n H) (e : p ≠ a) : Src a n (upd H p o) := by
  obtain ⟨d, s, c, q, r⟩ := h
  exact ⟨d, s, c, by rw [upd_ne (Ne.symm e)]; exact q, r⟩
theorem Same.lay {p : Addr} {H : Hp} {o : HO} (n : H p = none) : Same H (upd H p o) := fun b u e => by rw [upd_ne (ne_of_none e n)]; exact e
theorem Same.lay2 {p : Addr} {H0 H : Hp} {o : HO} (k : Same H0 H) (n : H0 p = none) : Same H0 (upd H p o) := fun b u e => by rw [upd_ne (ne_of_none e n)]; exact k b u e
/-- an alphabet: distinct small codes -/
structure Alp (al : List Nat) : Prop where
  nd : al.Nodup
  lo : 1 ≤ al.length
  hi : al.length ≤ 6
  asc : ∀ c ∈ al, c ∈ [97, 98, 99, 100, 101, 102, 103, 104, 105, 106, 107, 108, 109, 110, 111, 112, 113, 114, 115, 116, 117, 118, 119, 120, 121, 122, 48, 49, 50, 51, 52, 53, 54, 55, 56, 57, 32, 45, 46, 95]
theorem seqIx {j n : Nat} (h : j < n) : seqIndex? (j : Int) n = some j := by
  unfold seqIndex?
  have a : ¬ ((j : Int) < 0) := by omega
  simp only [a, if_false]
  have b : (decide (0 ≤ (j : Int)) && decide ((j : Int) < (n : Int))) = true := by simp; omega
  rw [if_pos b]; simp
theorem map_erase {α β : Type} (f : α → β) : ∀ (l : List α) (j : Nat), (l.map f).eraseIdx j = (l.eraseIdx j).map f
  | [], _ => rfl
  | _ :: _, 0 => rfl
  | a :: l, j + 1 => congrArg (fun z => f a :: z) (map_erase f l j)

end Cs
namespace Cs
open PySem L2
open PyProof.Rows (envOfC)
/-! a draw: some number below m, one draw less -/
def sp_draw : Sp := fun vs H Q _ => ∃ (a : Addr) (m : Int) (n : Nat), vs = [.ref a, .int m] ∧ Src a (n + 1) H ∧ 0 < m ∧ m < 2 ^ 30 ∧ ∀ (i : Int) (H' : Hp), 0 ≤ i → i < m → Src a n H' → Kp a H H' → Q (.int i) H'
theorem use_draw {a : Addr} {m : Int} {n : Nat} {H : Hp} {Q : VK} {E : XK} (h : Src a (n + 1) H) (h0 : 0 < m) (h1 : m < 2 ^ 30) (k : ∀ (i : Int) (H' : Hp), 0 ≤ i → i < m → Src a n H' → Kp a H H' → Q (.int i) H') : sp_draw [.ref a, .int m] H Q E :=
  ⟨a, m, n, rfl, h, h0, h1, k⟩
theorem cpow5 {s c : Int} (h1 : 0 ≤ s) (h2 : s < 2 ^ 40) (h3 : 0 ≤ c) (h4 : c ≤ 2 ^ 40) : CPow (s + 7919 * c) 5 := by
  refine ⟨by decide, by decide, ?_⟩
  omega
section
variable {P : Program} {w : World} {K : PySem.W.Frag} {mg : Str → Option Value} {base : Heap}
theorem ok_draw (F : At K mg "_law_draw" s__law_draw ["_law_source_here", "_law_many"]) : Cal P w K mg base 1 "_law_draw" ["_law_source_here", "_law_many"] sp_draw := by
  refine F.ok sc__law_draw (fun vs H Q E h => ?_) (fun f cdv A outer s H vs Q E hr h => ?_)
  · obtain ⟨a, m, n, rfl, _⟩ := h
    rfl
  · obtain ⟨a, m, n, rfl, ⟨d, s', c, e, h1, h2, h3, h4⟩, m0, m1, k⟩ := h
    refine ⟨_, (pss_cons (ps_asg (pe_op op_add (pe_ix (ix_listK (K := K) (by rfl)) (pv 0) pe_int (fun _ _ => rfl)) pe_int) (pg_sub (pv 0) pe_int set_list))
    (pss_cons (ps_if (pt_cmpR op_gt (pe_ix (ix_listK (K := K) (by rfl)) (pv 0) pe_int (fun _ _ => rfl)) pe_int (nomark _))
    (pss_cons (ps_set (i := 2) sc__law_draw.nd rfl (Or.inl rfl) (pe_op op_mod (pe_ix (ix_listK (K := K) (by rfl)) (pv 0) pe_int (fun _ _ => rfl)) (pv 1)))
    (pss_cons (ps_asg (pe_op op_fdiv (pe_ix (ix_listK (K := K) (by rfl)) (pv 0) pe_int (fun _ _ => rfl)) (pv 1)) (pg_sub (pv 0) pe_int set_list))
    (pss_one (ps_ret (pv 2)))))
    pss_nil)
    (pss_cons (ps_set (i := 3) sc__law_draw.nd rfl (Or.inl rfl) (pe_op op_mod (pe_op op_pow (pe_op op_add (pe_ix (ix_listK (K := K) (by rfl)) (pv 0) pe_int (fun _ _ => rfl)) (pe_op op_mul pe_int (pe_ix (ix_listK (K := K) (by rfl)) (pv 0) pe_int (fun _ _ => rfl)))) pe_int) pe_int))
    (pss_one (ps_ret (pe_op op_mod (pe_op op_fdiv (pe_op op_mod (pe_op op_mul (pe_op op_add (pv 3) (pe_ix (ix_listK (K := K) (by rfl)) (pv 0) pe_int (fun _ _ => rfl))) pe_int) pe_int) pe_int) (pv 1))))))), ?_⟩
    walk_at "go"
    refine rd_ixl (SqL.of e) (at_of (j := 2) rfl rfl) ?_
    walk_at "go"
    refine rd_setl e (j := 2) rfl ?_
    have e1 : upd H a (.lst ([V.int d, .int s', .int c].set 2 (.int (c + 1)))) a = some (.lst [.int d, .int s', .int (c + 1)]) := upd_same
    have k1 : Kp a H (upd H a (.lst ([V.int d, .int s', .int c].set 2 (.int (c + 1))))) := Kp.set
    generalize upd H a (.lst ([V.int d, .int s', .int c].set 2 (.int (c + 1)))) = H1 at e1 k1
    walk_at "go"
    refine rd_ixl (SqL.of e1) (at_of (j := 0) rfl rfl) ?_
    walk_at "go"
    refine ite2 (fun hd => ?_) (fun hd => ?_)
    · walk_at "go"
      refine rd_ixl (SqL.of e1) (at_of (j := 0) rfl rfl) ?_
      walk_at "go"
      refine rd_i m0 ?_
      walk_at "go"
      refine rd_ixl (SqL.of e1) (at_of (j := 0) rfl rfl) ?_
      walk_at "go"
      refine rd_i ⟨m0, by omega⟩ ?_
      walk_at "go"
      refine rd_setl e1 (j := 0) rfl ?_
      walk_at "go"
      refine k _ _ (Int.emod_nonneg _ (by omega)) (Int.emod_lt_of_pos _ m0) ⟨d / m, s', c + 1, upd_same, h1, h2, by omega, by omega⟩ (k1.trans Kp.set)
    · walk_at "go"
      refine rd_ixl (SqL.of e1) (at_of (j := 1) rfl rfl) ?_
      walk_at "go"
      refine rd_ixl (SqL.of e1) (at_of (j := 2) rfl rfl) ?_
      refine rd_i (.inl ⟨by decide, by decide⟩) ?_
      walk_at "go"
      refine rd_i (cpow5 h1 h2 (by omega) (by omega)) ?_
      walk_at "go"
      refine rd_i (by decide) ?_
      walk_at "go"
      refine rd_ixl (SqL.of e1) (at_of (j := 2) rfl rfl) ?_
      walk_at "go"
      refine rd_i (.inr ⟨by decide, by decide⟩) ?_
      walk_at "go"
      refine rd_i (by decide) ?_
      walk_at "go"
      refine rd_i ⟨by decide, by decide⟩ ?_
      walk_at "go"
      refine rd_i m0 ?_
      exact k _ _ (Int.emod_nonneg _ (by omega)) (Int.emod_lt_of_pos _ m0) ⟨d, s', c + 1, e1, h1, h2, by omega, by omega⟩ k1
end

end Cs
namespace Cs
open PySem L2
open PyProof.Rows (envOfC)
/-! which of the classes an exception has -/
abbrev eNames : List Str := ["InvalidText", "InvalidLexer", "TooLarge", "UnknownMode", "UnknownRule", "Finished", "InvalidRange", "TooLong", "NotFlat", "AlphabetMismatch", "InvalidWord", "InvalidNotation", "InvalidName", "Incompatible", "UnknownName", "InUse", "NameInUse", "NothingToUndo", "NothingToRedo"].map Str.ofString
structure Errs (K : PySem.W.Frag) (mg : Str → Option Value) (cl : Nat → Addr) (root : Addr) : Prop where
  c_InvalidText : ∃ u, mg "InvalidText" = some u ∧ RelV (.ref (cl 0)) u
  c_InvalidLexer : ∃ u, mg "InvalidLexer" = some u ∧ RelV (.ref (cl 1)) u
  c_TooLarge : ∃ u, mg "TooLarge" = some u ∧ RelV (.ref (cl 2)) u
  c_UnknownMode : ∃ u, mg "UnknownMode" = some u ∧ RelV (.ref (cl 3)) u
  c_UnknownRule : ∃ u, mg "UnknownRule" = some u ∧ RelV (.ref (cl 4)) u
  c_Finished : ∃ u, mg "Finished" = some u ∧ RelV (.ref (cl 5)) u
  c_InvalidRange : ∃ u, mg "InvalidRange" = some u ∧ RelV (.ref (cl 6)) u
  c_TooLong : ∃ u, mg "TooLong" = some u ∧ RelV (.ref (cl 7)) u
  c_NotFlat : ∃ u, mg "NotFlat" = some u ∧ RelV (.ref (cl 8)) u
  c_AlphabetMismatch : ∃ u, mg "AlphabetMismatch" = some u ∧ RelV (.ref (cl 9)) u
  c_InvalidWord : ∃ u, mg "InvalidWord" = some u ∧ RelV (.ref (cl 10)) u
  c_InvalidNotation : ∃ u, mg "InvalidNotation" = some u ∧ RelV (.ref (cl 11)) u
  c_InvalidName : ∃ u, mg "InvalidName" = some u ∧ RelV (.ref (cl 12)) u
  c_Incompatible : ∃ u, mg "Incompatible" = some u ∧ RelV (.ref (cl 13)) u
  c_UnknownName : ∃ u, mg "UnknownName" = some u ∧ RelV (.ref (cl 14)) u
  c_InUse : ∃ u, mg "InUse" = some u ∧ RelV (.ref (cl 15)) u
  c_NameInUse : ∃ u, mg "NameInUse" = some u ∧ RelV (.ref (cl 16)) u
  c_NothingToUndo : ∃ u, mg "NothingToUndo" = some u ∧ RelV (.ref (cl 17)) u
  c_NothingToRedo : ∃ u, mg "NothingToRedo" = some u ∧ RelV (.ref (cl 18)) u
  c_CutError : ∃ u, mg "CutError" = some u ∧ RelV (.ref root) u
  exc : ∀ i, i < 19 → ExcC K (cl i)
  xf : ∀ i, i < 19 → XfC K (cl i)
  keep : ∀ i, i < 19 → PySem.W.keepIn K (.ref (cl i)) = true
  kit : ∀ i j, i < 19 → j < 19 → PySem.W.kitOne K (.ref (cl i)) (.ref (cl j)) = some (decide (i = j))
  kitR : ∀ i, i < 19 → PySem.W.kitOne K (.ref (cl i)) (.ref root) = some true
  kitV : ∀ i, i < 19 → PySem.W.kitOne K (.ref (cl i)) (.type "ValueError") = some true
/-- an exception of the class i -/
def IsErr (cl : Nat → Addr) (i : Nat) (d : Option Addr) (e : Addr) (H : Hp) : Prop := H e = some (ExV (.ref (cl i)) d e) ∧ (d = none ∨ ∃ dd fs, d = some dd ∧ H dd = some (.xd fs))
theorem IsErr.same {cl : Nat → Addr} {i : Nat} {d : Option Addr} {e : Addr} {H H' : Hp} (h : IsErr cl i d e H) (s : Same H H') : IsErr cl i d e H' := by
  obtain ⟨a, b⟩ := h
  refine ⟨s _ _ a, ?_⟩
  rcases b with b | ⟨dd, fs, x, y⟩
  · exact .inl b
  · exact .inr ⟨dd, fs, x, s _ _ y⟩
theorem rd_isV {K : PySem.W.Frag} {mg : Str → Option Value} {cl : Nat → Addr} {root : Addr} {i j : Nat} {d : Option Addr} {e : Addr} {H : Hp} {Q : VK} (T : Errs K mg cl root) (h : IsErr cl i d e H) (hi : i < 19) (hj : j < 19) (q : Q (.bl (decide (i = j))) H) : rIsV K [.ref e, .ref (cl j)] H Q :=
  ⟨e, cl i, d, .ref (cl j), .ref (cl j), _, rfl, h.1, h.2, T.exc i hi, fun _ r => r, T.kit i j hi hj, q⟩
def sp_classes (cl : Nat → Addr) : Sp := fun vs H Q _ => ∃ (e : Addr) (i : Nat) (d : Option Addr), vs = [.ref e] ∧ i < 19 ∧ IsErr cl i d e H ∧ ∀ (p : Addr) (H' : Hp), Same H H' → H' p = some (.lst [.int (i : Nat)]) → Q (.ref p) H'
theorem rd_cat' {a b : Addr} {xs ys : List V} {H : Hp} {Q : VK} (h1 : H a = some (.lst xs)) (h2 : H b = some (.lst ys)) (h3 : xs.length + ys.length ≤ sizeLine) (k : New H (.lst (xs ++ ys)) fun p H2 => Q (.ref p) H2) : rCat (.ref a) (.ref b) H Q := ⟨a, b, xs, ys, rfl, rfl, h1, h2, h3, k⟩
section
variable {P : Program} {w : World} {K : PySem.W.Frag} {mg : Str → Option Value} {base : Heap}
theorem ok_classes (B : Blt mg) {cl : Nat → Addr} {root : Addr} (T : Errs K mg cl root) (F : At K mg "_law_classes" s__law_classes ["_law_e"]) : Cal P w K mg base 1 "_law_classes" ["_law_e"] (sp_classes cl) := by
  refine F.ok sc__law_classes (fun vs H Q E h => ?_) (fun f cdv A outer s H vs Q E hr h => ?_)
  · obtain ⟨e, i, d, rfl, _⟩ := h
    rfl
  · obtain ⟨e, i, d, rfl, hi, he, k⟩ := h
    refine ⟨_, (pss_cons (ps_set (i := 1) sc__law_classes.nd rfl (Or.inr rfl) (pe_lst (pa_cons (pe_callB (call_isV (K := K) (by rfl)) (by rfl) B.isinstance (by decide +kernel) (pa_cons (pv 0) (pa_cons (pe_k T.c_InvalidText) pa_nil))) (pa_cons (pe_callB (call_isV (K := K) (by rfl)) (by rfl) B.isinstance (by decide +kernel) (pa_cons (pv 0) (pa_cons (pe_k T.c_InvalidLexer) pa_nil))) (pa_cons (pe_callB (call_isV (K := K) (by rfl)) (by rfl) B.isinstance (by decide +kernel) (pa_cons (pv 0) (pa_cons (pe_k T.c_TooLarge) pa_nil))) pa_nil)))))
    (pss_cons (ps_set (i := 1) sc__law_classes.nd rfl (Or.inr rfl) (pe_op op_cat (pv 1) (pe_lst (pa_cons (pe_callB (call_isV (K := K) (by rfl)) (by rfl) B.isinstance (by decide +kernel) (pa_cons (pv 0) (pa_cons (pe_k T.c_UnknownMode) pa_nil))) (pa_cons (pe_callB (call_isV (K := K) (by rfl)) (by rfl) B.isinstance (by decide +kernel) (pa_cons (pv 0) (pa_cons (pe_k T.c_UnknownRule) pa_nil))) (pa_cons (pe_callB (call_isV (K := K) (by rfl)) (by rfl) B.isinstance (by decide +kernel) (pa_cons (pv 0) (pa_cons (pe_k T.c_Finished) pa_nil))) pa_nil))))))
    (pss_cons (ps_set (i := 1) sc__law_classes.nd rfl (Or.inr rfl) (pe_op op_cat (pv 1) (pe_lst (pa_cons (pe_callB (call_isV (K := K) (by rfl)) (by rfl) B.isinstance (by decide +kernel) (pa_cons (pv 0) (pa_cons (pe_k T.c_InvalidRange) pa_nil))) (pa_cons (pe_callB (call_isV (K := K) (by rfl)) (by rfl) B.isinstance (by decide +kernel) (pa_cons (pv 0) (pa_cons (pe_k T.c_TooLong) pa_nil))) (pa_cons (pe_callB (call_isV (K := K) (by rfl)) (by rfl) B.isinstance (by decide +kernel) (pa_cons (pv 0) (pa_cons (pe_k T.c_NotFlat) pa_nil))) pa_nil))))))
    (pss_cons (ps_set (i := 1) sc__law_classes.nd rfl (Or.inr rfl) (pe_op op_cat (pv 1) (pe_lst (pa_cons (pe_callB (call_isV (K := K) (by rfl)) (by rfl) B.isinstance (by decide +kernel) (pa_cons (pv 0) (pa_cons (pe_k T.c_AlphabetMismatch) pa_nil))) (pa_cons (pe_callB (call_isV (K := K) (by rfl)) (by rfl) B.isinstance (by decide +kernel) (pa_cons (pv 0) (pa_cons (pe_k T.c_InvalidWord) pa_nil))) (pa_cons (pe_callB (call_isV (K := K) (by rfl)) (by rfl) B.isinstance (by decide +kernel) (pa_cons (pv 0) (pa_cons (pe_k T.c_InvalidNotation) pa_nil))) pa_nil))))))
    (pss_cons (ps_set (i := 1) sc__law_classes.nd rfl (Or.inr rfl) (pe_op op_cat (pv 1) (pe_lst (pa_cons (pe_callB (call_isV (K := K) (by rfl)) (by rfl) B.isinstance (by decide +kernel) (pa_cons (pv 0) (pa_cons (pe_k T.c_InvalidName) pa_nil))) (pa_cons (pe_callB (call_isV (K := K) (by rfl)) (by rfl) B.isinstance (by decide +kernel) (pa_cons (pv 0) (pa_cons (pe_k T.c_Incompatible) pa_nil))) (pa_cons (pe_callB (call_isV (K := K) (by rfl)) (by rfl) B.isinstance (by decide +kernel) (pa_cons (pv 0) (pa_cons (pe_k T.c_UnknownName) pa_nil))) pa_nil))))))
    (pss_cons (ps_set (i := 1) sc__law_classes.nd rfl (Or.inr rfl) (pe_op op_cat (pv 1) (pe_lst (pa_cons (pe_callB (call_isV (K := K) (by rfl)) (by rfl) B.isinstance (by decide +kernel) (pa_cons (pv 0) (pa_cons (pe_k T.c_InUse) pa_nil))) (pa_cons (pe_callB (call_isV (K := K) (by rfl)) (by rfl) B.isinstance (by decide +kernel) (pa_cons (pv 0) (pa_cons (pe_k T.c_NameInUse) pa_nil))) (pa_cons (pe_callB (call_isV (K := K) (by rfl)) (by rfl) B.isinstance (by decide +kernel) (pa_cons (pv 0) (pa_cons (pe_k T.c_NothingToUndo) pa_nil))) pa_nil))))))
    (pss_cons (ps_set (i := 1) sc__law_classes.nd rfl (Or.inr rfl) (pe_op op_cat (pv 1) (pe_lst (pa_cons (pe_callB (call_isV (K := K) (by rfl)) (by rfl) B.isinstance (by decide +kernel) (pa_cons (pv 0) (pa_cons (pe_k T.c_NothingToRedo) pa_nil))) pa_nil))))
    (pss_one (ps_ret (pe_lc (own := [("_law_k", 2)]) rfl sc__law_classes.nd (pi_range1 (by rfl) B.range (pa_cons pe_int pa_nil)) (blkOk_by (N := ["_law_e", "_law_found", "_law_k"]) (sc := defScope s__law_classes) (by decide +kernel)) (fun _ _ _ _ _ => (pg_name (i := 2) sc__law_classes.nd rfl (Or.inl rfl))) (fun _ _ _ _ _ => (pts_one (pt_truthK (K := K) (by rfl) (pe_ix (ix_listK (K := K) (by rfl)) (pv 1) (pv 2) (fun _ _ => rfl))))) (fun _ _ _ _ _ => (pv 2)))))))))))), ?_⟩
    walk_at "go"
    refine rd_isV T he hi (j := 0) (by decide) ?_
    walk_at "go"
    refine rd_isV T he hi (j := 1) (by decide) ?_
    walk_at "go"
    refine rd_isV T he hi (j := 2) (by decide) ?_
    walk_at "go"
    refine ⟨by show 3 ≤ sizeLine; decide, rd_new fun p1 H1 hp1 eP1 sm1 => ?_⟩
    have he1 := IsErr.same he sm1
    have sA1 : Same H H1 := L2.Same.trans (Same.refl H) sm1
    walk_at "go"
    refine rd_isV T he1 hi (j := 3) (by decide) ?_
    walk_at "go"
    refine rd_isV T he1 hi (j := 4) (by decide) ?_
    walk_at "go"
    refine rd_isV T he1 hi (j := 5) (by decide) ?_
    walk_at "go"
    refine ⟨by show 3 ≤ sizeLine; decide, rd_new fun p2 H2 hp2 eP2 sm2 => ?_⟩
    have he2 := IsErr.same he1 sm2
    have sA2 : Same H H2 := L2.Same.trans sA1 sm2
    walk_at "go"
    refine rd_cat' (sm2 _ _ eP1) eP2 (by show 6 ≤ sizeLine; decide) (rd_new fun p3 H3 hp3 eP3 sm3 => ?_)
    have he3 := IsErr.same he2 sm3
    have sA3 : Same H H3 := L2.Same.trans sA2 sm3
    walk_at "go"
    refine rd_isV T he3 hi (j := 6) (by decide) ?_
    walk_at "go"
    refine rd_isV T he3 hi (j := 7) (by decide) ?_
    walk_at "go"
    refine rd_isV T he3 hi (j := 8) (by decide) ?_
    walk_at "go"
    refine ⟨by show 3 ≤ sizeLine; decide, rd_new fun p4 H4 hp4 eP4 sm4 => ?_⟩
    have he4 := IsErr.same he3 sm4
    have sA4 : Same H H4 := L2.Same.trans sA3 sm4
    walk_at "go"
    refine rd_cat' (sm4 _ _ eP3) eP4 (by show 9 ≤ sizeLine; decide) (rd_new fun p5 H5 hp5 eP5 sm5 => ?_)
    have he5 := IsErr.same he4 sm5
    have sA5 : Same H H5 := L2.Same.trans sA4 sm5
    walk_at "go"
    refine rd_isV T he5 hi (j := 9) (by decide) ?_
    walk_at "go"
    refine rd_isV T he5 hi (j := 10) (by decide) ?_
    walk_at "go"
    refine rd_isV T he5 hi (j := 11) (by decide) ?_
    walk_at "go"
    refine ⟨by show 3 ≤ sizeLine; decide, rd_new fun p6 H6 hp6 eP6 sm6 => ?_⟩
    have he6 := IsErr.same he5 sm6
    have sA6 : Same H H6 := L2.Same.trans sA5 sm6
    walk_at "go"
    refine rd_cat' (sm6 _ _ eP5) eP6 (by show 12 ≤ sizeLine; decide) (rd_new fun p7 H7 hp7 eP7 sm7 => ?_)
    have he7 := IsErr.same he6 sm7
    have sA7 : Same H H7 := L2.Same.trans sA6 sm7
    walk_at "go"
    refine rd_isV T he7 hi (j := 12) (by decide) ?_
    walk_at "go"
    refine rd_isV T he7 hi (j := 13) (by decide) ?_
    walk_at "go"
    refine rd_isV T he7 hi (j := 14) (by decide) ?_
    walk_at "go"
    refine ⟨by show 3 ≤ sizeLine; decide, rd_new fun p8 H8 hp8 eP8 sm8 => ?_⟩
    have he8 := IsErr.same he7 sm8
    have sA8 : Same H H8 := L2.Same.trans sA7 sm8
    walk_at "go"
    refine rd_cat' (sm8 _ _ eP7) eP8 (by show 15 ≤ sizeLine; decide) (rd_new fun p9 H9 hp9 eP9 sm9 => ?_)
    have he9 := IsErr.same he8 sm9
    have sA9 : Same H H9 := L2.Same.trans sA8 sm9
    walk_at "go"
    refine rd_isV T he9 hi (j := 15) (by decide) ?_
    walk_at "go"
    refine rd_isV T he9 hi (j := 16) (by decide) ?_
    walk_at "go"
    refine rd_isV T he9 hi (j := 17) (by decide) ?_
    walk_at "go"
    refine ⟨by show 3 ≤ sizeLine; decide, rd_new fun p10 H10 hp10 eP10 sm10 => ?_⟩
    have he10 := IsErr.same he9 sm10
    have sA10 : Same H H10 := L2.Same.trans sA9 sm10
    walk_at "go"
    refine rd_cat' (sm10 _ _ eP9) eP10 (by show 18 ≤ sizeLine; decide) (rd_new fun p11 H11 hp11 eP11 sm11 => ?_)
    have he11 := IsErr.same he10 sm11
    have sA11 : Same H H11 := L2.Same.trans sA10 sm11
    walk_at "go"
    refine rd_isV T he11 hi (j := 18) (by decide) ?_
    walk_at "go"
    refine ⟨by show 1 ≤ sizeLine; decide, rd_new fun p12 H12 hp12 eP12 sm12 => ?_⟩
    have he12 := IsErr.same he11 sm12
    have sA12 : Same H H12 := L2.Same.trans sA11 sm12
    walk_at "go"
    refine rd_cat' (sm12 _ _ eP11) eP12 (by show 19 ≤ sizeLine; decide) (rd_new fun p13 H13 hp13 eP13 sm13 => ?_)
    have he13 := IsErr.same he12 sm13
    have sA13 : Same H H13 := L2.Same.trans sA12 sm13
    walk_at "go"
    refine rd_rng1j (by decide) (by decide) ?_
    intro D hD
    have all19 : H13 p13 = some (.lst ((List.range 19).map fun j => V.bl (decide (i = j)))) := eP13
    refine lc_range (lo := 0) (n := 19) (fun m H' => H' D = some (.lst (if i < m then [V.int (i : Nat)] else [])) ∧ Same H13 H') ⟨upd_same, Cs.Same.lay hD⟩ ?_ ?_
    · rintro m H' hm ⟨eD, sm⟩
      walk_at "go"
      refine ⟨rfl, ?_⟩
      walk_at "go"
      have ev : ((List.range 19).map fun j => V.bl (decide (i = j)))[m]? = some (V.bl (decide (i = m))) := by
        rw [List.getElem?_map, List.getElem?_range hm]; rfl
      have em : (0 : Int) + (m : Int) = (m : Nat) := by omega
      rw [em]
      refine rd_ixl (SqL.of (sm _ _ all19)) (atI_nat ev) ?_
      refine ⟨_, rfl, ?_⟩
      refine ite2 (fun z => ?_) (fun z => ?_)
      · have zi : i = m := by simpa using z
        walk_at "go"
        refine ⟨_, eD, by rw [if_neg (by omega)]; show 0 < sizeLine; decide, ?_, Cs.Same.lay2 sm hD⟩
        rw [upd_same, if_neg (by omega), if_pos (by omega), zi]; rfl
      · have zi : i ≠ m := by simpa using z
        refine ⟨?_, sm⟩
        rw [eD]
        by_cases h : i < m
        · rw [if_pos h, if_pos (by omega)]
        · rw [if_neg h, if_neg (by omega)]
    · rintro H' ⟨eD, sm⟩
      walk_at "go"
      rw [if_pos (by omega)] at eD
      exact k D H' (L2.Same.trans sA13 sm) eD
end

end Cs
namespace Cs
open PySem L2
open PyProof.Rows (envOfC)
/-! the own __init__ of the classes, and what is made by it -/
def inS (i : Nat) : Stmt := match topS i with
  | .ClassDef _ _ _ (s :: _) _ _ _ _ _ _ _ => s
  | s => s
def sp_init (C : Addr) (names : List Str) : Sp := fun vs H Q _ => ∃ (a : Addr) (ys : List V), vs = .ref a :: ys ∧ ys.length = names.length ∧ H a = some (exo a C none) ∧
  ∀ (dx : Addr) (H' : Hp), H dx = none → dx ≠ a → H' a = some (exo a C (some dx)) → H' dx = some (exd dx (names.zip ys).reverse) → (∀ b, b ≠ a → b ≠ dx → H' b = H b) → Q .non H'
theorem rd_ost {K : PySem.W.Frag} {f : Str} {to te : TE} {D : Ends} {σ : St} {H : Hp} (h : te σ H fun y H1 => to σ H1 fun x H2 => ∃ a C : Addr, x = .ref a ∧ OexC K C ∧ PySem.W.findIn K (.ref C) f = some none ∧
    ((H2 a = some (exo a C none) ∧ ∀ dx, H2 dx = none → dx ≠ a → D.nx σ (upd (upd H2 dx (exd dx [(f, y)])) a (exo a C (some dx)))) ∨ ∃ (dx : Addr) (fs : List (Str × V)), H2 a = some (exo a C (some dx)) ∧ H2 dx = some (exd dx fs) ∧ fs.length ≤ 900 ∧ D.nx σ (upd H2 dx (exd dx ((f, y) :: fs))))) : tOst K f to te D σ H := h
theorem ys1 {ys : List V} {n : Str} (h : ys.length = [n].length) : ∃ y, ys = [y] := by
  match ys, h with
  | [y], _ => exact ⟨y, rfl⟩
theorem ys3 {ys : List V} {n m k : Str} (h : ys.length = [n, m, k].length) : ∃ x y z, ys = [x, y, z] := by
  match ys, h with
  | [x, y, z], _ => exact ⟨x, y, z, rfl⟩
section
variable {P : Program} {w : World} {K : PySem.W.Frag} {mg : Str → Option Value} {base : Heap}
abbrev s_i_InvalidText : Stmt := inS 2
theorem sc_i_InvalidText : FnScope ["self", "position"] ["self", "position"] (defScope s_i_InvalidText) := ⟨rfl, rfl, rfl, by decide +kernel, rfl, by decide +kernel, by decide +kernel⟩
theorem ok_i_InvalidText {C : Addr} (hO : OexC K C) (h0 : PySem.W.findIn K (.ref C) "position" = some none) {f : Addr} {fd : FuncData} (F : Fun K "__init__" "InvalidText.__init__" s_i_InvalidText f fd) : FnOk P w K mg base CX0 1 f fd ["self", "position"] (sp_init C ["position"]) := by
  refine F.ok (k := 0) sc_i_InvalidText (fun vs H Q E h => ?_) (fun cdv A outer s H vs Q E hr h => ?_)
  · obtain ⟨a, ys, rfl, hl, _⟩ := h
    obtain ⟨y, rfl⟩ := ys1 hl
    rfl
  · obtain ⟨a, ys, rfl, hl, ea, k⟩ := h
    obtain ⟨y, rfl⟩ := ys1 hl
    refine ⟨_, pss_one (ps_ost (pv 0) (pv 1)), ?_⟩
    walk_at "go"
    with_reducible refine rd_ost ?_
    walk_at "go"
    refine ⟨a, C, rfl, hO, h0, .inl ⟨ea, fun dx n1 n2 => ?_⟩⟩
    exact k dx _ n1 n2 upd_same (by rw [upd_ne n2, upd_same]; rfl) fun b b1 b2 => by rw [upd_ne b1, upd_ne b2]
abbrev s_i_InvalidLexer : Stmt := inS 3
theorem sc_i_InvalidLexer : FnScope ["self", "reason", "mode", "rule"] ["self", "reason", "mode", "rule"] (defScope s_i_InvalidLexer) := ⟨rfl, rfl, rfl, by decide +kernel, rfl, by decide +kernel, by decide +kernel⟩
theorem ok_i_InvalidLexer {C : Addr} (hO : OexC K C) (h0 : PySem.W.findIn K (.ref C) "reason" = some none) (h1 : PySem.W.findIn K (.ref C) "mode" = some none) (h2 : PySem.W.findIn K (.ref C) "rule" = some none) {f : Addr} {fd : FuncData} (F : Fun K "__init__" "InvalidLexer.__init__" s_i_InvalidLexer f fd) : FnOk P w K mg base CX0 1 f fd ["self", "reason", "mode", "rule"] (sp_init C ["reason", "mode", "rule"]) := by
  refine F.ok (k := 0) sc_i_InvalidLexer (fun vs H Q E h => ?_) (fun cdv A outer s H vs Q E hr h => ?_)
  · obtain ⟨a, ys, rfl, hl, _⟩ := h
    obtain ⟨x, y, z, rfl⟩ := ys3 hl
    rfl
  · obtain ⟨a, ys, rfl, hl, ea, k⟩ := h
    obtain ⟨x, y, z, rfl⟩ := ys3 hl
    refine ⟨_, pss_cons (ps_ost (pv 0) (pv 1)) (pss_cons (ps_ost (pv 0) (pv 2)) (pss_one (ps_ost (pv 0) (pv 3)))), ?_⟩
    walk_at "go"
    with_reducible refine rd_ost ?_
    walk_at "go"
    refine ⟨a, C, rfl, hO, h0, .inl ⟨ea, fun dx n1 n2 => ?_⟩⟩
    walk_at "go"
    with_reducible refine rd_ost ?_
    walk_at "go"
    refine ⟨a, C, rfl, hO, h1, .inr ⟨dx, _, upd_same, by rw [upd_ne n2, upd_same], by show 1 ≤ 900; decide, ?_⟩⟩
    walk_at "go"
    with_reducible refine rd_ost ?_
    walk_at "go"
    refine ⟨a, C, rfl, hO, h2, .inr ⟨dx, _, by rw [upd_ne (Ne.symm n2), upd_same], upd_same, by show 2 ≤ 900; decide, ?_⟩⟩
    exact k dx _ n1 n2 (by rw [upd_ne (Ne.symm n2), upd_ne (Ne.symm n2), upd_same]) upd_same fun b b1 b2 => by rw [upd_ne b2, upd_ne b2, upd_ne b1, upd_ne b2]
abbrev s_i_TooLarge : Stmt := inS 4
theorem sc_i_TooLarge : FnScope ["self", "what"] ["self", "what"] (defScope s_i_TooLarge) := ⟨rfl, rfl, rfl, by decide +kernel, rfl, by decide +kernel, by decide +kernel⟩
theorem ok_i_TooLarge {C : Addr} (hO : OexC K C) (h0 : PySem.W.findIn K (.ref C) "what" = some none) {f : Addr} {fd : FuncData} (F : Fun K "__init__" "TooLarge.__init__" s_i_TooLarge f fd) : FnOk P w K mg base CX0 1 f fd ["self", "what"] (sp_init C ["what"]) := by
  refine F.ok (k := 0) sc_i_TooLarge (fun vs H Q E h => ?_) (fun cdv A outer s H vs Q E hr h => ?_)
  · obtain ⟨a, ys, rfl, hl, _⟩ := h
    obtain ⟨y, rfl⟩ := ys1 hl
    rfl
  · obtain ⟨a, ys, rfl, hl, ea, k⟩ := h
    obtain ⟨y, rfl⟩ := ys1 hl
    refine ⟨_, pss_one (ps_ost (pv 0) (pv 1)), ?_⟩
    walk_at "go"
    with_reducible refine rd_ost ?_
    walk_at "go"
    refine ⟨a, C, rfl, hO, h0, .inl ⟨ea, fun dx n1 n2 => ?_⟩⟩
    exact k dx _ n1 n2 upd_same (by rw [upd_ne n2, upd_same]; rfl) fun b b1 b2 => by rw [upd_ne b1, upd_ne b2]
abbrev s_i_UnknownMode : Stmt := inS 5
theorem sc_i_UnknownMode : FnScope ["self", "name"] ["self", "name"] (defScope s_i_UnknownMode) := ⟨rfl, rfl, rfl, by decide +kernel, rfl, by decide +kernel, by decide +kernel⟩
theorem ok_i_UnknownMode {C : Addr} (hO : OexC K C) (h0 : PySem.W.findIn K (.ref C) "name" = some none) {f : Addr} {fd : FuncData} (F : Fun K "__init__" "UnknownMode.__init__" s_i_UnknownMode f fd) : FnOk P w K mg base CX0 1 f fd ["self", "name"] (sp_init C ["name"]) := by
  refine F.ok (k := 0) sc_i_UnknownMode (fun vs H Q E h => ?_) (fun cdv A outer s H vs Q E hr h => ?_)
  · obtain ⟨a, ys, rfl, hl, _⟩ := h
    obtain ⟨y, rfl⟩ := ys1 hl
    rfl
  · obtain ⟨a, ys, rfl, hl, ea, k⟩ := h
    obtain ⟨y, rfl⟩ := ys1 hl
    refine ⟨_, pss_one (ps_ost (pv 0) (pv 1)), ?_⟩
    walk_at "go"
    with_reducible refine rd_ost ?_
    walk_at "go"
    refine ⟨a, C, rfl, hO, h0, .inl ⟨ea, fun dx n1 n2 => ?_⟩⟩
    exact k dx _ n1 n2 upd_same (by rw [upd_ne n2, upd_same]; rfl) fun b b1 b2 => by rw [upd_ne b1, upd_ne b2]
abbrev s_i_UnknownRule : Stmt := inS 6
theorem sc_i_UnknownRule : FnScope ["self", "name"] ["self", "name"] (defScope s_i_UnknownRule) := ⟨rfl, rfl, rfl, by decide +kernel, rfl, by decide +kernel, by decide +kernel⟩
theorem ok_i_UnknownRule {C : Addr} (hO : OexC K C) (h0 : PySem.W.findIn K (.ref C) "name" = some none) {f : Addr} {fd : FuncData} (F : Fun K "__init__" "UnknownRule.__init__" s_i_UnknownRule f fd) : FnOk P w K mg base CX0 1 f fd ["self", "name"] (sp_init C ["name"]) := by
  refine F.ok (k := 0) sc_i_UnknownRule (fun vs H Q E h => ?_) (fun cdv A outer s H vs Q E hr h => ?_)
  · obtain ⟨a, ys, rfl, hl, _⟩ := h
    obtain ⟨y, rfl⟩ := ys1 hl
    rfl
  · obtain ⟨a, ys, rfl, hl, ea, k⟩ := h
    obtain ⟨y, rfl⟩ := ys1 hl
    refine ⟨_, pss_one (ps_ost (pv 0) (pv 1)), ?_⟩
    walk_at "go"
    with_reducible refine rd_ost ?_
    walk_at "go"
    refine ⟨a, C, rfl, hO, h0, .inl ⟨ea, fun dx n1 n2 => ?_⟩⟩
    exact k dx _ n1 n2 upd_same (by rw [upd_ne n2, upd_same]; rfl) fun b b1 b2 => by rw [upd_ne b1, upd_ne b2]
abbrev s_i_InvalidRange : Stmt := inS 8
theorem sc_i_InvalidRange : FnScope ["self", "position"] ["self", "position"] (defScope s_i_InvalidRange) := ⟨rfl, rfl, rfl, by decide +kernel, rfl, by decide +kernel, by decide +kernel⟩
theorem ok_i_InvalidRange {C : Addr} (hO : OexC K C) (h0 : PySem.W.findIn K (.ref C) "position" = some none) {f : Addr} {fd : FuncData} (F : Fun K "__init__" "InvalidRange.__init__" s_i_InvalidRange f fd) : FnOk P w K mg base CX0 1 f fd ["self", "position"] (sp_init C ["position"]) := by
  refine F.ok (k := 0) sc_i_InvalidRange (fun vs H Q E h => ?_) (fun cdv A outer s H vs Q E hr h => ?_)
  · obtain ⟨a, ys, rfl, hl, _⟩ := h
    obtain ⟨y, rfl⟩ := ys1 hl
    rfl
  · obtain ⟨a, ys, rfl, hl, ea, k⟩ := h
    obtain ⟨y, rfl⟩ := ys1 hl
    refine ⟨_, pss_one (ps_ost (pv 0) (pv 1)), ?_⟩
    walk_at "go"
    with_reducible refine rd_ost ?_
    walk_at "go"
    refine ⟨a, C, rfl, hO, h0, .inl ⟨ea, fun dx n1 n2 => ?_⟩⟩
    exact k dx _ n1 n2 upd_same (by rw [upd_ne n2, upd_same]; rfl) fun b b1 b2 => by rw [upd_ne b1, upd_ne b2]
abbrev s_i_TooLong : Stmt := inS 9
theorem sc_i_TooLong : FnScope ["self", "length"] ["self", "length"] (defScope s_i_TooLong) := ⟨rfl, rfl, rfl, by decide +kernel, rfl, by decide +kernel, by decide +kernel⟩
theorem ok_i_TooLong {C : Addr} (hO : OexC K C) (h0 : PySem.W.findIn K (.ref C) "length" = some none) {f : Addr} {fd : FuncData} (F : Fun K "__init__" "TooLong.__init__" s_i_TooLong f fd) : FnOk P w K mg base CX0 1 f fd ["self", "length"] (sp_init C ["length"]) := by
  refine F.ok (k := 0) sc_i_TooLong (fun vs H Q E h => ?_) (fun cdv A outer s H vs Q E hr h => ?_)
  · obtain ⟨a, ys, rfl, hl, _⟩ := h
    obtain ⟨y, rfl⟩ := ys1 hl
    rfl
  · obtain ⟨a, ys, rfl, hl, ea, k⟩ := h
    obtain ⟨y, rfl⟩ := ys1 hl
    refine ⟨_, pss_one (ps_ost (pv 0) (pv 1)), ?_⟩
    walk_at "go"
    with_reducible refine rd_ost ?_
    walk_at "go"
    refine ⟨a, C, rfl, hO, h0, .inl ⟨ea, fun dx n1 n2 => ?_⟩⟩
    exact k dx _ n1 n2 upd_same (by rw [upd_ne n2, upd_same]; rfl) fun b b1 b2 => by rw [upd_ne b1, upd_ne b2]
abbrev s_i_InvalidWord : Stmt := inS 12
theorem sc_i_InvalidWord : FnScope ["self", "index"] ["self", "index"] (defScope s_i_InvalidWord) := ⟨rfl, rfl, rfl, by decide +kernel, rfl, by decide +kernel, by decide +kernel⟩
theorem ok_i_InvalidWord {C : Addr} (hO : OexC K C) (h0 : PySem.W.findIn K (.ref C) "index" = some none) {f : Addr} {fd : FuncData} (F : Fun K "__init__" "InvalidWord.__init__" s_i_InvalidWord f fd) : FnOk P w K mg base CX0 1 f fd ["self", "index"] (sp_init C ["index"]) := by
  refine F.ok (k := 0) sc_i_InvalidWord (fun vs H Q E h => ?_) (fun cdv A outer s H vs Q E hr h => ?_)
  · obtain ⟨a, ys, rfl, hl, _⟩ := h
    obtain ⟨y, rfl⟩ := ys1 hl
    rfl
  · obtain ⟨a, ys, rfl, hl, ea, k⟩ := h
    obtain ⟨y, rfl⟩ := ys1 hl
    refine ⟨_, pss_one (ps_ost (pv 0) (pv 1)), ?_⟩
    walk_at "go"
    with_reducible refine rd_ost ?_
    walk_at "go"
    refine ⟨a, C, rfl, hO, h0, .inl ⟨ea, fun dx n1 n2 => ?_⟩⟩
    exact k dx _ n1 n2 upd_same (by rw [upd_ne n2, upd_same]; rfl) fun b b1 b2 => by rw [upd_ne b1, upd_ne b2]
abbrev s_i_InvalidNotation : Stmt := inS 13
theorem sc_i_InvalidNotation : FnScope ["self", "index"] ["self", "index"] (defScope s_i_InvalidNotation) := ⟨rfl, rfl, rfl, by decide +kernel, rfl, by decide +kernel, by decide +kernel⟩
theorem ok_i_InvalidNotation {C : Addr} (hO : OexC K C) (h0 : PySem.W.findIn K (.ref C) "index" = some none) {f : Addr} {fd : FuncData} (F : Fun K "__init__" "InvalidNotation.__init__" s_i_InvalidNotation f fd) : FnOk P w K mg base CX0 1 f fd ["self", "index"] (sp_init C ["index"]) := by
  refine F.ok (k := 0) sc_i_InvalidNotation (fun vs H Q E h => ?_) (fun cdv A outer s H vs Q E hr h => ?_)
  · obtain ⟨a, ys, rfl, hl, _⟩ := h
    obtain ⟨y, rfl⟩ := ys1 hl
    rfl
  · obtain ⟨a, ys, rfl, hl, ea, k⟩ := h
    obtain ⟨y, rfl⟩ := ys1 hl
    refine ⟨_, pss_one (ps_ost (pv 0) (pv 1)), ?_⟩
    walk_at "go"
    with_reducible refine rd_ost ?_
    walk_at "go"
    refine ⟨a, C, rfl, hO, h0, .inl ⟨ea, fun dx n1 n2 => ?_⟩⟩
    exact k dx _ n1 n2 upd_same (by rw [upd_ne n2, upd_same]; rfl) fun b b1 b2 => by rw [upd_ne b1, upd_ne b2]
abbrev s_i_InvalidName : Stmt := inS 14
theorem sc_i_InvalidName : FnScope ["self", "name"] ["self", "name"] (defScope s_i_InvalidName) := ⟨rfl, rfl, rfl, by decide +kernel, rfl, by decide +kernel, by decide +kernel⟩
theorem ok_i_InvalidName {C : Addr} (hO : OexC K C) (h0 : PySem.W.findIn K (.ref C) "name" = some none) {f : Addr} {fd : FuncData} (F : Fun K "__init__" "InvalidName.__init__" s_i_InvalidName f fd) : FnOk P w K mg base CX0 1 f fd ["self", "name"] (sp_init C ["name"]) := by
  refine F.ok (k := 0) sc_i_InvalidName (fun vs H Q E h => ?_) (fun cdv A outer s H vs Q E hr h => ?_)
  · obtain ⟨a, ys, rfl, hl, _⟩ := h
    obtain ⟨y, rfl⟩ := ys1 hl
    rfl
  · obtain ⟨a, ys, rfl, hl, ea, k⟩ := h
    obtain ⟨y, rfl⟩ := ys1 hl
    refine ⟨_, pss_one (ps_ost (pv 0) (pv 1)), ?_⟩
    walk_at "go"
    with_reducible refine rd_ost ?_
    walk_at "go"
    refine ⟨a, C, rfl, hO, h0, .inl ⟨ea, fun dx n1 n2 => ?_⟩⟩
    exact k dx _ n1 n2 upd_same (by rw [upd_ne n2, upd_same]; rfl) fun b b1 b2 => by rw [upd_ne b1, upd_ne b2]
abbrev s_i_Incompatible : Stmt := inS 15
theorem sc_i_Incompatible : FnScope ["self", "document"] ["self", "document"] (defScope s_i_Incompatible) := ⟨rfl, rfl, rfl, by decide +kernel, rfl, by decide +kernel, by decide +kernel⟩
theorem ok_i_Incompatible {C : Addr} (hO : OexC K C) (h0 : PySem.W.findIn K (.ref C) "document" = some none) {f : Addr} {fd : FuncData} (F : Fun K "__init__" "Incompatible.__init__" s_i_Incompatible f fd) : FnOk P w K mg base CX0 1 f fd ["self", "document"] (sp_init C ["document"]) := by
  refine F.ok (k := 0) sc_i_Incompatible (fun vs H Q E h => ?_) (fun cdv A outer s H vs Q E hr h => ?_)
  · obtain ⟨a, ys, rfl, hl, _⟩ := h
    obtain ⟨y, rfl⟩ := ys1 hl
    rfl
  · obtain ⟨a, ys, rfl, hl, ea, k⟩ := h
    obtain ⟨y, rfl⟩ := ys1 hl
    refine ⟨_, pss_one (ps_ost (pv 0) (pv 1)), ?_⟩
    walk_at "go"
    with_reducible refine rd_ost ?_
    walk_at "go"
    refine ⟨a, C, rfl, hO, h0, .inl ⟨ea, fun dx n1 n2 => ?_⟩⟩
    exact k dx _ n1 n2 upd_same (by rw [upd_ne n2, upd_same]; rfl) fun b b1 b2 => by rw [upd_ne b1, upd_ne b2]
abbrev s_i_UnknownName : Stmt := inS 16
theorem sc_i_UnknownName : FnScope ["self", "name"] ["self", "name"] (defScope s_i_UnknownName) := ⟨rfl, rfl, rfl, by decide +kernel, rfl, by decide +kernel, by decide +kernel⟩
theorem ok_i_UnknownName {C : Addr} (hO : OexC K C) (h0 : PySem.W.findIn K (.ref C) "name" = some none) {f : Addr} {fd : FuncData} (F : Fun K "__init__" "UnknownName.__init__" s_i_UnknownName f fd) : FnOk P w K mg base CX0 1 f fd ["self", "name"] (sp_init C ["name"]) := by
  refine F.ok (k := 0) sc_i_UnknownName (fun vs H Q E h => ?_) (fun cdv A outer s H vs Q E hr h => ?_)
  · obtain ⟨a, ys, rfl, hl, _⟩ := h
    obtain ⟨y, rfl⟩ := ys1 hl
    rfl
  · obtain ⟨a, ys, rfl, hl, ea, k⟩ := h
    obtain ⟨y, rfl⟩ := ys1 hl
    refine ⟨_, pss_one (ps_ost (pv 0) (pv 1)), ?_⟩
    walk_at "go"
    with_reducible refine rd_ost ?_
    walk_at "go"
    refine ⟨a, C, rfl, hO, h0, .inl ⟨ea, fun dx n1 n2 => ?_⟩⟩
    exact k dx _ n1 n2 upd_same (by rw [upd_ne n2, upd_same]; rfl) fun b b1 b2 => by rw [upd_ne b1, upd_ne b2]
abbrev s_i_InUse : Stmt := inS 17
theorem sc_i_InUse : FnScope ["self", "document"] ["self", "document"] (defScope s_i_InUse) := ⟨rfl, rfl, rfl, by decide +kernel, rfl, by decide +kernel, by decide +kernel⟩
theorem ok_i_InUse {C : Addr} (hO : OexC K C) (h0 : PySem.W.findIn K (.ref C) "document" = some none) {f : Addr} {fd : FuncData} (F : Fun K "__init__" "InUse.__init__" s_i_InUse f fd) : FnOk P w K mg base CX0 1 f fd ["self", "document"] (sp_init C ["document"]) := by
  refine F.ok (k := 0) sc_i_InUse (fun vs H Q E h => ?_) (fun cdv A outer s H vs Q E hr h => ?_)
  · obtain ⟨a, ys, rfl, hl, _⟩ := h
    obtain ⟨y, rfl⟩ := ys1 hl
    rfl
  · obtain ⟨a, ys, rfl, hl, ea, k⟩ := h
    obtain ⟨y, rfl⟩ := ys1 hl
    refine ⟨_, pss_one (ps_ost (pv 0) (pv 1)), ?_⟩
    walk_at "go"
    with_reducible refine rd_ost ?_
    walk_at "go"
    refine ⟨a, C, rfl, hO, h0, .inl ⟨ea, fun dx n1 n2 => ?_⟩⟩
    exact k dx _ n1 n2 upd_same (by rw [upd_ne n2, upd_same]; rfl) fun b b1 b2 => by rw [upd_ne b1, upd_ne b2]
abbrev s_i_NameInUse : Stmt := inS 18
theorem sc_i_NameInUse : FnScope ["self", "document"] ["self", "document"] (defScope s_i_NameInUse) := ⟨rfl, rfl, rfl, by decide +kernel, rfl, by decide +kernel, by decide +kernel⟩
theorem ok_i_NameInUse {C : Addr} (hO : OexC K C) (h0 : PySem.W.findIn K (.ref C) "document" = some none) {f : Addr} {fd : FuncData} (F : Fun K "__init__" "NameInUse.__init__" s_i_NameInUse f fd) : FnOk P w K mg base CX0 1 f fd ["self", "document"] (sp_init C ["document"]) := by
  refine F.ok (k := 0) sc_i_NameInUse (fun vs H Q E h => ?_) (fun cdv A outer s H vs Q E hr h => ?_)
  · obtain ⟨a, ys, rfl, hl, _⟩ := h
    obtain ⟨y, rfl⟩ := ys1 hl
    rfl
  · obtain ⟨a, ys, rfl, hl, ea, k⟩ := h
    obtain ⟨y, rfl⟩ := ys1 hl
    refine ⟨_, pss_one (ps_ost (pv 0) (pv 1)), ?_⟩
    walk_at "go"
    with_reducible refine rd_ost ?_
    walk_at "go"
    refine ⟨a, C, rfl, hO, h0, .inl ⟨ea, fun dx n1 n2 => ?_⟩⟩
    exact k dx _ n1 n2 upd_same (by rw [upd_ne n2, upd_same]; rfl) fun b b1 b2 => by rw [upd_ne b1, upd_ne b2]
end
/-- a class by its name, its __init__ kept -/
structure NewAt (P : Program) (w : World) (K : PySem.W.Frag) (mg : Str → Option Value) (base : Heap) (x : Str) (C : Addr) (names : List Str) : Prop where
  ex : ∃ (fI : Addr) (fd : FuncData) (ps : List Str), mg x = some (.ref C) ∧ OexC K C ∧ PySem.W.findIn K (.ref C) "__init__" = some (some (.ref fI)) ∧ PySem.W.typeIn K (.ref fI) = some (.type "function") ∧ FnOk P w K mg base CX0 1 fI fd ps (sp_init C names) ∧ Binds K fd ps []
def tNew (C : Addr) (names : List Str) (ta : TA) : TE := fun σ H Q => ta σ H fun ys H1 => ys.length = names.length ∧ ys.length ≤ 1000 ∧ ∀ (a d : Addr) (H' : Hp), Same H1 H' → H' a = some (ExV (.ref C) (some d) a) → H' d = some (.xd (names.zip ys).reverse) → Q (.ref a) H'
theorem rd_newE {C : Addr} {names : List Str} {ta : TA} {σ : St} {H : Hp} {Q : VK} (h : ta σ H fun ys H1 => ys.length = names.length ∧ ys.length ≤ 1000 ∧ ∀ (a d : Addr) (H' : Hp), Same H1 H' → H' a = some (ExV (.ref C) (some d) a) → H' d = some (.xd (names.zip ys).reverse) → Q (.ref a) H') : tNew C names ta σ H Q := h
theorem pe_new {X : Cx} {x : Str} {C : Addr} {names : List Str} {e : Expr} {es : List Expr} {ta : TA} {p pos : Pos} (M : NewAt X.prog X.w X.K X.mg X.base x C names) (hr : Room 2 X.A) (ha : PA X (e :: es) ta) (mono : ∀ σ H R R', (∀ ys H1, R ys H1 → R' ys H1) → ta σ H R → ta σ H R') (hg : Gl X x := by rfl) (hdb : (x == ("__debug__" : Str)) = false := by decide)
    (he : starEach (e :: es) X.env = (false, eval e X.env) :: starEach es X.env := by rfl) (hpl : (backTo pos (starEach es X.env)).any (·.1) = false := by rfl) : PE X (.Call (.Name x p) (e :: es) [] pos) (tNew C names ta) := by
  obtain ⟨fI, fd, ps, hm, hO, iC, tI, F1, hb⟩ := M.ex
  have base := pe_made (pmk_oex (p := p) hO iC tI F1 hr hb .nil pass0 hg hm ha hdb he hpl)
  constructor
  intro pins s σ H Q I h
  refine base.run pins s σ H Q I ?_
  show tMkO C (sp_init C names) [] ta σ H _
  refine mono σ H _ _ (fun ys H1 q => ?_) h
  obtain ⟨l1, l2, k⟩ := q
  refine ⟨l2, fun a ha' => ?_⟩
  rw [List.append_nil]
  refine ⟨a, ys, rfl, l1, upd_same, fun dx H' n1 n2 ea ed keep => ?_⟩
  have nd : H1 dx = none := by rw [upd_ne n2] at n1; exact n1
  refine ⟨rfl, dx, _, ea, ed, nd, fun a' na => ?_⟩
  have d1 : a' ≠ dx := fun z => by rw [z, upd_same] at na; cases na
  refine k a' dx _ (fun b o q => ?_) upd_same (by rw [upd_ne (Ne.symm d1), upd_same])
  have b1 : b ≠ a := ne_of_none q ha'
  have b2 : b ≠ dx := ne_of_none q nd
  have e : (upd (del H' a) dx (.xd (names.zip ys).reverse)) b = some o := by
    rw [upd_ne b2, del_ne b1, keep b b1 b2, upd_ne b1]; exact q
  have b3 : b ≠ a' := fun z => by rw [z, na] at e; cases e
  rw [upd_ne b3]; exact e

end Cs
namespace Cs
open PySem L2
open PyProof.Rows (envOfC)
abbrev vBm : List Value := [Value.type "ValueError", Value.type "Exception", Value.type "BaseException", Value.type "object"]
structure News (P : Program) (w : World) (K : PySem.W.Frag) (mg : Str → Option Value) (base : Heap) (cl : Nat → Addr) : Prop where
  n_InvalidText : NewAt P w K mg base "InvalidText" (cl 0) ["position"]
  f_InvalidText_position : PySem.W.findIn K (.ref (cl 0)) "position" = some none
  n_InvalidLexer : NewAt P w K mg base "InvalidLexer" (cl 1) ["reason", "mode", "rule"]
  f_InvalidLexer_reason : PySem.W.findIn K (.ref (cl 1)) "reason" = some none
  f_InvalidLexer_mode : PySem.W.findIn K (.ref (cl 1)) "mode" = some none
  f_InvalidLexer_rule : PySem.W.findIn K (.ref (cl 1)) "rule" = some none
  n_TooLarge : NewAt P w K mg base "TooLarge" (cl 2) ["what"]
  f_TooLarge_what : PySem.W.findIn K (.ref (cl 2)) "what" = some none
  n_UnknownMode : NewAt P w K mg base "UnknownMode" (cl 3) ["name"]
  f_UnknownMode_name : PySem.W.findIn K (.ref (cl 3)) "name" = some none
  n_UnknownRule : NewAt P w K mg base "UnknownRule" (cl 4) ["name"]
  f_UnknownRule_name : PySem.W.findIn K (.ref (cl 4)) "name" = some none
  q_Finished : PySem.W.excIn K (cl 5) vBm "ValueError.__new__" = true
  g_Finished : mg "Finished" = some (.ref (cl 5))
  k_Finished : PySem.W.keepIn K (.ref (cl 5)) = true
  n_InvalidRange : NewAt P w K mg base "InvalidRange" (cl 6) ["position"]
  f_InvalidRange_position : PySem.W.findIn K (.ref (cl 6)) "position" = some none
  n_TooLong : NewAt P w K mg base "TooLong" (cl 7) ["length"]
  f_TooLong_length : PySem.W.findIn K (.ref (cl 7)) "length" = some none
  q_NotFlat : PySem.W.excIn K (cl 8) vBm "ValueError.__new__" = true
  g_NotFlat : mg "NotFlat" = some (.ref (cl 8))
  k_NotFlat : PySem.W.keepIn K (.ref (cl 8)) = true
  q_AlphabetMismatch : PySem.W.excIn K (cl 9) vBm "ValueError.__new__" = true
  g_AlphabetMismatch : mg "AlphabetMismatch" = some (.ref (cl 9))
  k_AlphabetMismatch : PySem.W.keepIn K (.ref (cl 9)) = true
  n_InvalidWord : NewAt P w K mg base "InvalidWord" (cl 10) ["index"]
  f_InvalidWord_index : PySem.W.findIn K (.ref (cl 10)) "index" = some none
  n_InvalidNotation : NewAt P w K mg base "InvalidNotation" (cl 11) ["index"]
  f_InvalidNotation_index : PySem.W.findIn K (.ref (cl 11)) "index" = some none
  n_InvalidName : NewAt P w K mg base "InvalidName" (cl 12) ["name"]
  f_InvalidName_name : PySem.W.findIn K (.ref (cl 12)) "name" = some none
  n_Incompatible : NewAt P w K mg base "Incompatible" (cl 13) ["document"]
  f_Incompatible_document : PySem.W.findIn K (.ref (cl 13)) "document" = some none
  n_UnknownName : NewAt P w K mg base "UnknownName" (cl 14) ["name"]
  f_UnknownName_name : PySem.W.findIn K (.ref (cl 14)) "name" = some none
  n_InUse : NewAt P w K mg base "InUse" (cl 15) ["document"]
  f_InUse_document : PySem.W.findIn K (.ref (cl 15)) "document" = some none
  n_NameInUse : NewAt P w K mg base "NameInUse" (cl 16) ["document"]
  f_NameInUse_document : PySem.W.findIn K (.ref (cl 16)) "document" = some none
  q_NothingToUndo : PySem.W.excIn K (cl 17) vBm "ValueError.__new__" = true
  g_NothingToUndo : mg "NothingToUndo" = some (.ref (cl 17))
  k_NothingToUndo : PySem.W.keepIn K (.ref (cl 17)) = true
  q_NothingToRedo : PySem.W.excIn K (cl 18) vBm "ValueError.__new__" = true
  g_NothingToRedo : mg "NothingToRedo" = some (.ref (cl 18))
  k_NothingToRedo : PySem.W.keepIn K (.ref (cl 18)) = true
theorem mono1 {i : Nat} : ∀ (σ : St) (H : Hp) (R R' : List V → Hp → Prop), (∀ ys H1, R ys H1 → R' ys H1) → (tCons (tVar i) tNil) σ H R → (tCons (tVar i) tNil) σ H R' := fun σ H R R' m ⟨v, e, q⟩ => ⟨v, e, m _ _ q⟩
theorem mono3 {i j l : Nat} : ∀ (σ : St) (H : Hp) (R R' : List V → Hp → Prop), (∀ ys H1, R ys H1 → R' ys H1) → (tCons (tVar i) (tCons (tVar j) (tCons (tVar l) tNil))) σ H R → (tCons (tVar i) (tCons (tVar j) (tCons (tVar l) tNil))) σ H R' :=
  fun σ H R R' m ⟨v, e, v2, e2, v3, e3, q⟩ => ⟨v, e, v2, e2, v3, e3, m _ _ q⟩
theorem rd_exv0 {C : Addr} {σ : St} {H : Hp} {Q : VK} (k : ∀ (a : Addr) (H' : Hp), Same H H' → H' a = some (ExV (.ref C) none a) → Q (.ref a) H') : tExv0 C σ H Q := fun a n => k a _ (Cs.Same.lay n) upd_same
theorem rd_field {K : PySem.W.Frag} {f : Str} {te : TE} {σ : St} {H : Hp} {Q : VK} (h : te σ H fun x H1 => ∃ (a C dd : Addr) (fs : List (Str × V)) (v : V), x = .ref a ∧ H1 a = some (ExV (.ref C) (some dd) a) ∧ H1 dd = some (.xd fs) ∧ XfC K C ∧ PySem.W.findIn K (.ref C) f = some none ∧ fs.lookup f = some v ∧ Q v H1) : tFieldV K f te σ H Q := h
theorem rd_index {K : PySem.W.Frag} {p : Addr} {ns : List Int} {i : Int} {j : Nat} {H : Hp} {Q : VK} (e : H p = some (.lst (ns.map V.int))) (hj : ns[j]? = some i) (hn : ∀ m, m < j → ns[m]? ≠ some i) (q : Q (.int j) H) : rIndex K (.ref p) [.int i] H Q := by
  refine ⟨p, ns.map V.int, .int i, j, .int i, rfl, rfl, SqL.of e, rfl, by rw [List.all_map]; exact List.all_eq_true.mpr fun _ _ => rfl, by rw [List.getElem?_map, hj]; rfl, ?_, fun m z' hm hz => ?_, q⟩
  · show (i == i) = true
    simp
  · rw [List.getElem?_map] at hz
    cases e : ns[m]? with
    | none => rw [e] at hz; cases hz
    | some u =>
      rw [e] at hz
      cases hz
      show (u == i) = false
      exact beq_eq_false_iff_ne.mpr fun z => hn m hm (by rw [e, z])
/-- pairs of a value with itself -/
inductive Twins (H : Hp) (ok : V → Prop) : List V → Prop
  | nil : Twins H ok []
  | cons {q : Addr} {v : V} {qs : List V} : H q = some (.tup [v, v]) → ok v → Twins H ok qs → Twins H ok (.ref q :: qs)
theorem Twins.same {H H' : Hp} {ok : V → Prop} (s : Same H H') : ∀ {qs : List V}, Twins H ok qs → Twins H' ok qs
  | _, .nil => .nil
  | _, .cons e o t => .cons (s _ _ e) o (Twins.same s t)
def sp_made (cl : Nat → Addr) : Sp := fun vs H Q _ => ∃ (i : Nat) (x y z : V), vs = [.int i, x, y, z] ∧ i < 19 ∧ ∀ (p e L : Addr) (d : Option Addr) (qs : List V) (H' : Hp), H' p = some (.tup [.ref e, .ref L]) → H' L = some (.lst qs) → IsErr cl i d e H' → Twins H' (fun v => v = x ∨ v = y ∨ v = z) qs → Same H H' → Q (.ref p) H'
section
variable {P : Program} {w : World} {K : PySem.W.Frag} {mg : Str → Option Value} {base : Heap}
theorem ok_made (B : Blt mg) {cl : Nat → Addr} {root : Addr} (R : Errs K mg cl root) (T : News P w K mg base cl) (F : At K mg "_law_made" s__law_made ["_law_way", "_law_a", "_law_b", "_law_c"]) : Cal P w K mg base 4 "_law_made" ["_law_way", "_law_a", "_law_b", "_law_c"] (sp_made cl) := by
  refine F.ok (k := 3) sc__law_made (fun vs H Q E h => ?_) (fun f cdv A outer s H vs Q E hr h => ?_)
  · obtain ⟨i, x, y, z, rfl, _⟩ := h
    rfl
  · obtain ⟨i, x, y, z, rfl, hi, k⟩ := h
    refine ⟨_, (pss_cons (ps_if (pt_cmpR op_eq (pv 0) pe_int (nomark _))
    (pss_cons (ps_set (i := 4) sc__law_made.nd rfl (Or.inl rfl) (pe_new T.n_InvalidLexer (hr.mono (by first | decide | omega)) (pa_cons (pv 1) (pa_cons (pv 2) (pa_cons (pv 3) pa_nil))) mono3))
    (pss_one (ps_ret (pe_tup (pa_cons (pv 4) (pa_cons (pe_lst (pa_cons (pe_tup (pa_cons (pe_fieldV (pv 4)) (pa_cons (pv 1) pa_nil))) (pa_cons (pe_tup (pa_cons (pe_fieldV (pv 4)) (pa_cons (pv 2) pa_nil))) (pa_cons (pe_tup (pa_cons (pe_fieldV (pv 4)) (pa_cons (pv 3) pa_nil))) pa_nil)))) pa_nil))))))
    pss_nil)
    (pss_cons (ps_if (pt_cmpR (op_in_seqK (K := K) (by rfl)) (pv 0) (pe_tup (pa_cons pe_int (pa_cons pe_int (pa_cons pe_int (pa_cons pe_int (pa_cons pe_int pa_nil)))))) (by first | rfl | decide))
    (pss_cons (ps_set (i := 5) sc__law_made.nd rfl (Or.inl rfl) (pe_lst (pa_cons (pe_exv0 PySem.F.excBase_ValueError T.q_Finished T.g_Finished T.k_Finished) (pa_cons (pe_exv0 PySem.F.excBase_ValueError T.q_NotFlat T.g_NotFlat T.k_NotFlat) (pa_cons (pe_exv0 PySem.F.excBase_ValueError T.q_AlphabetMismatch T.g_AlphabetMismatch T.k_AlphabetMismatch) (pa_cons (pe_exv0 PySem.F.excBase_ValueError T.q_NothingToUndo T.g_NothingToUndo T.k_NothingToUndo) (pa_cons (pe_exv0 PySem.F.excBase_ValueError T.q_NothingToRedo T.g_NothingToRedo T.k_NothingToRedo) pa_nil)))))))
    (pss_one (ps_ret (pe_tup (pa_cons (pe_ix (ix_listK (K := K) (by rfl)) (pv 5) (pe_bmK (K := K) (by rfl) PySem.F.plainAttrs_list PySem.F.slot_list_index PySem.F.type_list_index (mt_indexK (K := K) (by rfl)) (pe_lst (pa_cons pe_int (pa_cons pe_int (pa_cons pe_int (pa_cons pe_int (pa_cons pe_int pa_nil)))))) (pa_cons (pv 0) pa_nil)) (fun _ _ => rfl)) (pa_cons (pe_lst pa_nil) pa_nil))))))
    pss_nil)
    (pss_cons (ps_if (pt_cmpR (op_in_seqK (K := K) (by rfl)) (pv 0) (pe_tup (pa_cons pe_int (pa_cons pe_int pa_nil))) (by first | rfl | decide))
    (pss_cons (ps_set (i := 4) sc__law_made.nd rfl (Or.inl rfl) (pe_ifExp (pt_cmpR op_eq (pv 0) pe_int (nomark _)) (pe_new T.n_InvalidText (hr.mono (by first | decide | omega)) (pa_cons (pv 1) pa_nil) mono1) (pe_new T.n_InvalidRange (hr.mono (by first | decide | omega)) (pa_cons (pv 1) pa_nil) mono1)))
    (pss_one (ps_ret (pe_tup (pa_cons (pv 4) (pa_cons (pe_lst (pa_cons (pe_tup (pa_cons (pe_fieldV (pv 4)) (pa_cons (pv 1) pa_nil))) pa_nil)) pa_nil))))))
    pss_nil)
    (pss_cons (ps_if (pt_cmpR (op_in_seqK (K := K) (by rfl)) (pv 0) (pe_tup (pa_cons pe_int (pa_cons pe_int pa_nil))) (by first | rfl | decide))
    (pss_cons (ps_set (i := 4) sc__law_made.nd rfl (Or.inl rfl) (pe_ifExp (pt_cmpR op_eq (pv 0) pe_int (nomark _)) (pe_new T.n_TooLarge (hr.mono (by first | decide | omega)) (pa_cons (pv 1) pa_nil) mono1) (pe_new T.n_TooLong (hr.mono (by first | decide | omega)) (pa_cons (pv 1) pa_nil) mono1)))
    (pss_one (ps_ret (pe_tup (pa_cons (pv 4) (pa_cons (pe_lst (pa_cons (pe_tup (pa_cons (pe_ifExp (pt_cmpR op_eq (pv 0) pe_int (nomark _)) (pe_fieldV (pv 4)) (pe_fieldV (pv 4))) (pa_cons (pv 1) pa_nil))) pa_nil)) pa_nil))))))
    pss_nil)
    (pss_cons (ps_if (pt_cmpR (op_in_seqK (K := K) (by rfl)) (pv 0) (pe_tup (pa_cons pe_int (pa_cons pe_int pa_nil))) (by first | rfl | decide))
    (pss_cons (ps_set (i := 4) sc__law_made.nd rfl (Or.inl rfl) (pe_ifExp (pt_cmpR op_eq (pv 0) pe_int (nomark _)) (pe_new T.n_InvalidWord (hr.mono (by first | decide | omega)) (pa_cons (pv 1) pa_nil) mono1) (pe_new T.n_InvalidNotation (hr.mono (by first | decide | omega)) (pa_cons (pv 1) pa_nil) mono1)))
    (pss_one (ps_ret (pe_tup (pa_cons (pv 4) (pa_cons (pe_lst (pa_cons (pe_tup (pa_cons (pe_fieldV (pv 4)) (pa_cons (pv 1) pa_nil))) pa_nil)) pa_nil))))))
    pss_nil)
    (pss_cons (ps_if (pt_cmpR (op_in_seqK (K := K) (by rfl)) (pv 0) (pe_tup (pa_cons pe_int (pa_cons pe_int (pa_cons pe_int pa_nil)))) (by first | rfl | decide))
    (pss_cons (ps_set (i := 4) sc__law_made.nd rfl (Or.inl rfl) (pe_ix (ix_listK (K := K) (by rfl)) (pe_lst (pa_cons (pe_new T.n_Incompatible (hr.mono (by first | decide | omega)) (pa_cons (pv 1) pa_nil) mono1) (pa_cons (pe_new T.n_InUse (hr.mono (by first | decide | omega)) (pa_cons (pv 1) pa_nil) mono1) (pa_cons (pe_new T.n_NameInUse (hr.mono (by first | decide | omega)) (pa_cons (pv 1) pa_nil) mono1) pa_nil)))) (pe_bmK (K := K) (by rfl) PySem.F.plainAttrs_list PySem.F.slot_list_index PySem.F.type_list_index (mt_indexK (K := K) (by rfl)) (pe_lst (pa_cons pe_int (pa_cons pe_int (pa_cons pe_int pa_nil)))) (pa_cons (pv 0) pa_nil)) (fun _ _ => rfl)))
    (pss_one (ps_ret (pe_tup (pa_cons (pv 4) (pa_cons (pe_lst (pa_cons (pe_tup (pa_cons (pe_fieldV (pv 4)) (pa_cons (pv 1) pa_nil))) pa_nil)) pa_nil))))))
    pss_nil)
    (pss_cons (ps_set (i := 4) sc__law_made.nd rfl (Or.inl rfl) (pe_ix (ix_listK (K := K) (by rfl)) (pe_lst (pa_cons (pe_new T.n_UnknownMode (hr.mono (by first | decide | omega)) (pa_cons (pv 1) pa_nil) mono1) (pa_cons (pe_new T.n_UnknownRule (hr.mono (by first | decide | omega)) (pa_cons (pv 1) pa_nil) mono1) (pa_cons (pe_new T.n_InvalidName (hr.mono (by first | decide | omega)) (pa_cons (pv 1) pa_nil) mono1) (pa_cons (pe_new T.n_UnknownName (hr.mono (by first | decide | omega)) (pa_cons (pv 1) pa_nil) mono1) pa_nil))))) (pe_bmK (K := K) (by rfl) PySem.F.plainAttrs_list PySem.F.slot_list_index PySem.F.type_list_index (mt_indexK (K := K) (by rfl)) (pe_lst (pa_cons pe_int (pa_cons pe_int (pa_cons pe_int (pa_cons pe_int pa_nil))))) (pa_cons (pv 0) pa_nil)) (fun _ _ => rfl)))
    (pss_one (ps_ret (pe_tup (pa_cons (pv 4) (pa_cons (pe_lst (pa_cons (pe_tup (pa_cons (pe_fieldV (pv 4)) (pa_cons (pv 1) pa_nil))) pa_nil)) pa_nil)))))))))))), ?_⟩
    have hcase : i = 0 ∨ i = 1 ∨ i = 2 ∨ i = 3 ∨ i = 4 ∨ i = 5 ∨ i = 6 ∨ i = 7 ∨ i = 8 ∨ i = 9 ∨ i = 10 ∨ i = 11 ∨ i = 12 ∨ i = 13 ∨ i = 14 ∨ i = 15 ∨ i = 16 ∨ i = 17 ∨ i = 18 := by omega
    rcases hcase with rfl | rfl | rfl | rfl | rfl | rfl | rfl | rfl | rfl | rfl | rfl | rfl | rfl | rfl | rfl | rfl | rfl | rfl | rfl
    · walk_at "go"
      rw [if_neg (by decide)]
      walk_at "go"
      refine ⟨by show 5 ≤ sizeLine; decide, rd_new fun p1 H1 n1 o1 s1 => ?_⟩
      have S1 : Same H H1 := L2.Same.trans (Same.refl H) s1
      walk_at "go"
      refine rd_in (.inr (SqT.of o1)) rfl rfl ?_
      rw [if_neg Bool.false_ne_true]
      walk_at "go"
      rw [if_neg (by decide +kernel)]
      walk_at "go"
      refine ⟨by show 2 ≤ sizeLine; decide, rd_new fun p2 H2 n2 o2 s2 => ?_⟩
      have S2 : Same H H2 := L2.Same.trans S1 s2
      walk_at "go"
      refine rd_in (.inr (SqT.of o2)) rfl rfl ?_
      rw [if_neg Bool.false_ne_true]
      walk_at "go"
      rw [if_pos (by decide +kernel)]
      walk_at "go"
      rw [if_pos (by decide)]
      walk_at "go"
      refine rd_newE ?_
      walk_at "go"
      refine ⟨rfl, by show 1 ≤ 1000; decide, fun e3 d3 H3 s3 o3 x3 => ?_⟩
      have S3 : Same H H3 := L2.Same.trans S2 s3
      walk_at "go"
      refine rd_field ?_
      walk_at "go"
      refine ⟨e3, cl 0, d3, _, _, rfl, o3, x3, R.xf 0 (by decide), T.f_InvalidText_position, rfl, ?_⟩
      walk_at "go"
      refine ⟨by show 2 ≤ sizeLine; decide, rd_new fun p4 H4 n4 o4 s4 => ?_⟩
      have S4 : Same H H4 := L2.Same.trans S3 s4
      have o3_4 := s4 _ _ o3
      have x3_4 := s4 _ _ x3
      walk_at "go"
      refine ⟨by show 1 ≤ sizeLine; decide, rd_new fun p5 H5 n5 o5 s5 => ?_⟩
      have S5 : Same H H5 := L2.Same.trans S4 s5
      have o3_5 := s5 _ _ o3_4
      have x3_5 := s5 _ _ x3_4
      have o4_5 := s5 _ _ o4
      walk_at "go"
      refine ⟨by show 2 ≤ sizeLine; decide, rd_new fun p6 H6 n6 o6 s6 => ?_⟩
      have S6 : Same H H6 := L2.Same.trans S5 s6
      have o3_6 := s6 _ _ o3_5
      have x3_6 := s6 _ _ x3_5
      have o4_6 := s6 _ _ o4_5
      have o5_6 := s6 _ _ o5
      walk_at "go"
      exact k p6 e3 p5 (some d3) _ H6 o6 o5_6 ⟨o3_6, .inr ⟨d3, _, rfl, x3_6⟩⟩ (.cons o4_6 (.inl rfl) .nil) S6
    · walk_at "go"
      rw [if_pos (by decide)]
      walk_at "go"
      refine rd_newE ?_
      walk_at "go"
      refine ⟨rfl, by show 3 ≤ 1000; decide, fun e1 d1 H1 s1 o1 x1 => ?_⟩
      have S1 : Same H H1 := L2.Same.trans (Same.refl H) s1
      walk_at "go"
      refine rd_field ?_
      walk_at "go"
      refine ⟨e1, cl 1, d1, _, _, rfl, o1, x1, R.xf 1 (by decide), T.f_InvalidLexer_reason, rfl, ?_⟩
      walk_at "go"
      refine ⟨by show 2 ≤ sizeLine; decide, rd_new fun p2 H2 n2 o2 s2 => ?_⟩
      have S2 : Same H H2 := L2.Same.trans S1 s2
      have o1_2 := s2 _ _ o1
      have x1_2 := s2 _ _ x1
      walk_at "go"
      refine rd_field ?_
      walk_at "go"
      refine ⟨e1, cl 1, d1, _, _, rfl, o1_2, x1_2, R.xf 1 (by decide), T.f_InvalidLexer_mode, rfl, ?_⟩
      walk_at "go"
      refine ⟨by show 2 ≤ sizeLine; decide, rd_new fun p3 H3 n3 o3 s3 => ?_⟩
      have S3 : Same H H3 := L2.Same.trans S2 s3
      have o1_3 := s3 _ _ o1_2
      have x1_3 := s3 _ _ x1_2
      have o2_3 := s3 _ _ o2
      walk_at "go"
      refine rd_field ?_
      walk_at "go"
      refine ⟨e1, cl 1, d1, _, _, rfl, o1_3, x1_3, R.xf 1 (by decide), T.f_InvalidLexer_rule, rfl, ?_⟩
      walk_at "go"
      refine ⟨by show 2 ≤ sizeLine; decide, rd_new fun p4 H4 n4 o4 s4 => ?_⟩
      have S4 : Same H H4 := L2.Same.trans S3 s4
      have o1_4 := s4 _ _ o1_3
      have x1_4 := s4 _ _ x1_3
      have o2_4 := s4 _ _ o2_3
      have o3_4 := s4 _ _ o3
      walk_at "go"
      refine ⟨by show 3 ≤ sizeLine; decide, rd_new fun p5 H5 n5 o5 s5 => ?_⟩
      have S5 : Same H H5 := L2.Same.trans S4 s5
      have o1_5 := s5 _ _ o1_4
      have x1_5 := s5 _ _ x1_4
      have o2_5 := s5 _ _ o2_4
      have o3_5 := s5 _ _ o3_4
      have o4_5 := s5 _ _ o4
      walk_at "go"
      refine ⟨by show 2 ≤ sizeLine; decide, rd_new fun p6 H6 n6 o6 s6 => ?_⟩
      have S6 : Same H H6 := L2.Same.trans S5 s6
      have o1_6 := s6 _ _ o1_5
      have x1_6 := s6 _ _ x1_5
      have o2_6 := s6 _ _ o2_5
      have o3_6 := s6 _ _ o3_5
      have o4_6 := s6 _ _ o4_5
      have o5_6 := s6 _ _ o5
      walk_at "go"
      exact k p6 e1 p5 (some d1) _ H6 o6 o5_6 ⟨o1_6, .inr ⟨d1, _, rfl, x1_6⟩⟩ (.cons o2_6 (.inl rfl) (.cons o3_6 (.inr (.inl rfl)) (.cons o4_6 (.inr (.inr rfl)) .nil))) S6
    · walk_at "go"
      rw [if_neg (by decide)]
      walk_at "go"
      refine ⟨by show 5 ≤ sizeLine; decide, rd_new fun p1 H1 n1 o1 s1 => ?_⟩
      have S1 : Same H H1 := L2.Same.trans (Same.refl H) s1
      walk_at "go"
      refine rd_in (.inr (SqT.of o1)) rfl rfl ?_
      rw [if_neg Bool.false_ne_true]
      walk_at "go"
      rw [if_neg (by decide +kernel)]
      walk_at "go"
      refine ⟨by show 2 ≤ sizeLine; decide, rd_new fun p2 H2 n2 o2 s2 => ?_⟩
      have S2 : Same H H2 := L2.Same.trans S1 s2
      walk_at "go"
      refine rd_in (.inr (SqT.of o2)) rfl rfl ?_
      rw [if_neg Bool.false_ne_true]
      walk_at "go"
      rw [if_neg (by decide +kernel)]
      walk_at "go"
      refine ⟨by show 2 ≤ sizeLine; decide, rd_new fun p3 H3 n3 o3 s3 => ?_⟩
      have S3 : Same H H3 := L2.Same.trans S2 s3
      walk_at "go"
      refine rd_in (.inr (SqT.of o3)) rfl rfl ?_
      rw [if_neg Bool.false_ne_true]
      walk_at "go"
      rw [if_pos (by decide +kernel)]
      walk_at "go"
      rw [if_pos (by decide)]
      walk_at "go"
      refine rd_newE ?_
      walk_at "go"
      refine ⟨rfl, by show 1 ≤ 1000; decide, fun e4 d4 H4 s4 o4 x4 => ?_⟩
      have S4 : Same H H4 := L2.Same.trans S3 s4
      walk_at "go"
      rw [if_pos (by decide)]
      walk_at "go"
      refine rd_field ?_
      walk_at "go"
      refine ⟨e4, cl 2, d4, _, _, rfl, o4, x4, R.xf 2 (by decide), T.f_TooLarge_what, rfl, ?_⟩
      walk_at "go"
      refine ⟨by show 2 ≤ sizeLine; decide, rd_new fun p5 H5 n5 o5 s5 => ?_⟩
      have S5 : Same H H5 := L2.Same.trans S4 s5
      have o4_5 := s5 _ _ o4
      have x4_5 := s5 _ _ x4
      walk_at "go"
      refine ⟨by show 1 ≤ sizeLine; decide, rd_new fun p6 H6 n6 o6 s6 => ?_⟩
      have S6 : Same H H6 := L2.Same.trans S5 s6
      have o4_6 := s6 _ _ o4_5
      have x4_6 := s6 _ _ x4_5
      have o5_6 := s6 _ _ o5
      walk_at "go"
      refine ⟨by show 2 ≤ sizeLine; decide, rd_new fun p7 H7 n7 o7 s7 => ?_⟩
      have S7 : Same H H7 := L2.Same.trans S6 s7
      have o4_7 := s7 _ _ o4_6
      have x4_7 := s7 _ _ x4_6
      have o5_7 := s7 _ _ o5_6
      have o6_7 := s7 _ _ o6
      walk_at "go"
      exact k p7 e4 p6 (some d4) _ H7 o7 o6_7 ⟨o4_7, .inr ⟨d4, _, rfl, x4_7⟩⟩ (.cons o5_7 (.inl rfl) .nil) S7
    · walk_at "go"
      rw [if_neg (by decide)]
      walk_at "go"
      refine ⟨by show 5 ≤ sizeLine; decide, rd_new fun p1 H1 n1 o1 s1 => ?_⟩
      have S1 : Same H H1 := L2.Same.trans (Same.refl H) s1
      walk_at "go"
      refine rd_in (.inr (SqT.of o1)) rfl rfl ?_
      rw [if_neg Bool.false_ne_true]
      walk_at "go"
      rw [if_neg (by decide +kernel)]
      walk_at "go"
      refine ⟨by show 2 ≤ sizeLine; decide, rd_new fun p2 H2 n2 o2 s2 => ?_⟩
      have S2 : Same H H2 := L2.Same.trans S1 s2
      walk_at "go"
      refine rd_in (.inr (SqT.of o2)) rfl rfl ?_
      rw [if_neg Bool.false_ne_true]
      walk_at "go"
      rw [if_neg (by decide +kernel)]
      walk_at "go"
      refine ⟨by show 2 ≤ sizeLine; decide, rd_new fun p3 H3 n3 o3 s3 => ?_⟩
      have S3 : Same H H3 := L2.Same.trans S2 s3
      walk_at "go"
      refine rd_in (.inr (SqT.of o3)) rfl rfl ?_
      rw [if_neg Bool.false_ne_true]
      walk_at "go"
      rw [if_neg (by decide +kernel)]
      walk_at "go"
      refine ⟨by show 2 ≤ sizeLine; decide, rd_new fun p4 H4 n4 o4 s4 => ?_⟩
      have S4 : Same H H4 := L2.Same.trans S3 s4
      walk_at "go"
      refine rd_in (.inr (SqT.of o4)) rfl rfl ?_
      rw [if_neg Bool.false_ne_true]
      walk_at "go"
      rw [if_neg (by decide +kernel)]
      walk_at "go"
      refine ⟨by show 3 ≤ sizeLine; decide, rd_new fun p5 H5 n5 o5 s5 => ?_⟩
      have S5 : Same H H5 := L2.Same.trans S4 s5
      walk_at "go"
      refine rd_in (.inr (SqT.of o5)) rfl rfl ?_
      rw [if_neg Bool.false_ne_true]
      walk_at "go"
      rw [if_neg (by decide +kernel)]
      walk_at "go"
      refine rd_newE ?_
      walk_at "go"
      refine ⟨rfl, by show 1 ≤ 1000; decide, fun e6 d6 H6 s6 o6 x6 => ?_⟩
      have S6 : Same H H6 := L2.Same.trans S5 s6
      walk_at "go"
      refine rd_newE ?_
      walk_at "go"
      refine ⟨rfl, by show 1 ≤ 1000; decide, fun e7 d7 H7 s7 o7 x7 => ?_⟩
      have S7 : Same H H7 := L2.Same.trans S6 s7
      have o6_7 := s7 _ _ o6
      have x6_7 := s7 _ _ x6
      walk_at "go"
      refine rd_newE ?_
      walk_at "go"
      refine ⟨rfl, by show 1 ≤ 1000; decide, fun e8 d8 H8 s8 o8 x8 => ?_⟩
      have S8 : Same H H8 := L2.Same.trans S7 s8
      have o6_8 := s8 _ _ o6_7
      have x6_8 := s8 _ _ x6_7
      have o7_8 := s8 _ _ o7
      have x7_8 := s8 _ _ x7
      walk_at "go"
      refine rd_newE ?_
      walk_at "go"
      refine ⟨rfl, by show 1 ≤ 1000; decide, fun e9 d9 H9 s9 o9 x9 => ?_⟩
      have S9 : Same H H9 := L2.Same.trans S8 s9
      have o6_9 := s9 _ _ o6_8
      have x6_9 := s9 _ _ x6_8
      have o7_9 := s9 _ _ o7_8
      have x7_9 := s9 _ _ x7_8
      have o8_9 := s9 _ _ o8
      have x8_9 := s9 _ _ x8
      walk_at "go"
      refine ⟨by show 4 ≤ sizeLine; decide, rd_new fun p10 H10 n10 o10 s10 => ?_⟩
      have S10 : Same H H10 := L2.Same.trans S9 s10
      have o6_10 := s10 _ _ o6_9
      have x6_10 := s10 _ _ x6_9
      have o7_10 := s10 _ _ o7_9
      have x7_10 := s10 _ _ x7_9
      have o8_10 := s10 _ _ o8_9
      have x8_10 := s10 _ _ x8_9
      have o9_10 := s10 _ _ o9
      have x9_10 := s10 _ _ x9
      walk_at "go"
      refine ⟨by show 4 ≤ sizeLine; decide, rd_new fun p11 H11 n11 o11 s11 => ?_⟩
      have S11 : Same H H11 := L2.Same.trans S10 s11
      have o6_11 := s11 _ _ o6_10
      have x6_11 := s11 _ _ x6_10
      have o7_11 := s11 _ _ o7_10
      have x7_11 := s11 _ _ x7_10
      have o8_11 := s11 _ _ o8_10
      have x8_11 := s11 _ _ x8_10
      have o9_11 := s11 _ _ o9_10
      have x9_11 := s11 _ _ x9_10
      have o10_11 := s11 _ _ o10
      walk_at "go"
      refine ⟨.inl ⟨rfl, _, SqL.of o11⟩, ?_⟩
      walk_at "go"
      refine rd_index (ns := [3, 4, 12, 14]) (j := 0) o11 rfl (by decide) ?_
      refine rd_ixl (SqL.of o10_11) (at_of (j := 0) rfl rfl) ?_
      walk_at "go"
      refine rd_field ?_
      walk_at "go"
      refine ⟨e6, cl 3, d6, _, _, rfl, o6_11, x6_11, R.xf 3 (by decide), T.f_UnknownMode_name, rfl, ?_⟩
      walk_at "go"
      refine ⟨by show 2 ≤ sizeLine; decide, rd_new fun p12 H12 n12 o12 s12 => ?_⟩
      have S12 : Same H H12 := L2.Same.trans S11 s12
      have o6_12 := s12 _ _ o6_11
      have x6_12 := s12 _ _ x6_11
      have o7_12 := s12 _ _ o7_11
      have x7_12 := s12 _ _ x7_11
      have o8_12 := s12 _ _ o8_11
      have x8_12 := s12 _ _ x8_11
      have o9_12 := s12 _ _ o9_11
      have x9_12 := s12 _ _ x9_11
      have o10_12 := s12 _ _ o10_11
      have o11_12 := s12 _ _ o11
      walk_at "go"
      refine ⟨by show 1 ≤ sizeLine; decide, rd_new fun p13 H13 n13 o13 s13 => ?_⟩
      have S13 : Same H H13 := L2.Same.trans S12 s13
      have o6_13 := s13 _ _ o6_12
      have x6_13 := s13 _ _ x6_12
      have o7_13 := s13 _ _ o7_12
      have x7_13 := s13 _ _ x7_12
      have o8_13 := s13 _ _ o8_12
      have x8_13 := s13 _ _ x8_12
      have o9_13 := s13 _ _ o9_12
      have x9_13 := s13 _ _ x9_12
      have o10_13 := s13 _ _ o10_12
      have o11_13 := s13 _ _ o11_12
      have o12_13 := s13 _ _ o12
      walk_at "go"
      refine ⟨by show 2 ≤ sizeLine; decide, rd_new fun p14 H14 n14 o14 s14 => ?_⟩
      have S14 : Same H H14 := L2.Same.trans S13 s14
      have o6_14 := s14 _ _ o6_13
      have x6_14 := s14 _ _ x6_13
      have o7_14 := s14 _ _ o7_13
      have x7_14 := s14 _ _ x7_13
      have o8_14 := s14 _ _ o8_13
      have x8_14 := s14 _ _ x8_13
      have o9_14 := s14 _ _ o9_13
      have x9_14 := s14 _ _ x9_13
      have o10_14 := s14 _ _ o10_13
      have o11_14 := s14 _ _ o11_13
      have o12_14 := s14 _ _ o12_13
      have o13_14 := s14 _ _ o13
      walk_at "go"
      exact k p14 e6 p13 (some d6) _ H14 o14 o13_14 ⟨o6_14, .inr ⟨d6, _, rfl, x6_14⟩⟩ (.cons o12_14 (.inl rfl) .nil) S14
    · walk_at "go"
      rw [if_neg (by decide)]
      walk_at "go"
      refine ⟨by show 5 ≤ sizeLine; decide, rd_new fun p1 H1 n1 o1 s1 => ?_⟩
      have S1 : Same H H1 := L2.Same.trans (Same.refl H) s1
      walk_at "go"
      refine rd_in (.inr (SqT.of o1)) rfl rfl ?_
      rw [if_neg Bool.false_ne_true]
      walk_at "go"
      rw [if_neg (by decide +kernel)]
      walk_at "go"
      refine ⟨by show 2 ≤ sizeLine; decide, rd_new fun p2 H2 n2 o2 s2 => ?_⟩
      have S2 : Same H H2 := L2.Same.trans S1 s2
      walk_at "go"
      refine rd_in (.inr (SqT.of o2)) rfl rfl ?_
      rw [if_neg Bool.false_ne_true]
      walk_at "go"
      rw [if_neg (by decide +kernel)]
      walk_at "go"
      refine ⟨by show 2 ≤ sizeLine; decide, rd_new fun p3 H3 n3 o3 s3 => ?_⟩
      have S3 : Same H H3 := L2.Same.trans S2 s3
      walk_at "go"
      refine rd_in (.inr (SqT.of o3)) rfl rfl ?_
      rw [if_neg Bool.false_ne_true]
      walk_at "go"
      rw [if_neg (by decide +kernel)]
      walk_at "go"
      refine ⟨by show 2 ≤ sizeLine; decide, rd_new fun p4 H4 n4 o4 s4 => ?_⟩
      have S4 : Same H H4 := L2.Same.trans S3 s4
      walk_at "go"
      refine rd_in (.inr (SqT.of o4)) rfl rfl ?_
      rw [if_neg Bool.false_ne_true]
      walk_at "go"
      rw [if_neg (by decide +kernel)]
      walk_at "go"
      refine ⟨by show 3 ≤ sizeLine; decide, rd_new fun p5 H5 n5 o5 s5 => ?_⟩
      have S5 : Same H H5 := L2.Same.trans S4 s5
      walk_at "go"
      refine rd_in (.inr (SqT.of o5)) rfl rfl ?_
      rw [if_neg Bool.false_ne_true]
      walk_at "go"
      rw [if_neg (by decide +kernel)]
      walk_at "go"
      refine rd_newE ?_
      walk_at "go"
      refine ⟨rfl, by show 1 ≤ 1000; decide, fun e6 d6 H6 s6 o6 x6 => ?_⟩
      have S6 : Same H H6 := L2.Same.trans S5 s6
      walk_at "go"
      refine rd_newE ?_
      walk_at "go"
      refine ⟨rfl, by show 1 ≤ 1000; decide, fun e7 d7 H7 s7 o7 x7 => ?_⟩
      have S7 : Same H H7 := L2.Same.trans S6 s7
      have o6_7 := s7 _ _ o6
      have x6_7 := s7 _ _ x6
      walk_at "go"
      refine rd_newE ?_
      walk_at "go"
      refine ⟨rfl, by show 1 ≤ 1000; decide, fun e8 d8 H8 s8 o8 x8 => ?_⟩
      have S8 : Same H H8 := L2.Same.trans S7 s8
      have o6_8 := s8 _ _ o6_7
      have x6_8 := s8 _ _ x6_7
      have o7_8 := s8 _ _ o7
      have x7_8 := s8 _ _ x7
      walk_at "go"
      refine rd_newE ?_
      walk_at "go"
      refine ⟨rfl, by show 1 ≤ 1000; decide, fun e9 d9 H9 s9 o9 x9 => ?_⟩
      have S9 : Same H H9 := L2.Same.trans S8 s9
      have o6_9 := s9 _ _ o6_8
      have x6_9 := s9 _ _ x6_8
      have o7_9 := s9 _ _ o7_8
      have x7_9 := s9 _ _ x7_8
      have o8_9 := s9 _ _ o8
      have x8_9 := s9 _ _ x8
      walk_at "go"
      refine ⟨by show 4 ≤ sizeLine; decide, rd_new fun p10 H10 n10 o10 s10 => ?_⟩
      have S10 : Same H H10 := L2.Same.trans S9 s10
      have o6_10 := s10 _ _ o6_9
      have x6_10 := s10 _ _ x6_9
      have o7_10 := s10 _ _ o7_9
      have x7_10 := s10 _ _ x7_9
      have o8_10 := s10 _ _ o8_9
      have x8_10 := s10 _ _ x8_9
      have o9_10 := s10 _ _ o9
      have x9_10 := s10 _ _ x9
      walk_at "go"
      refine ⟨by show 4 ≤ sizeLine; decide, rd_new fun p11 H11 n11 o11 s11 => ?_⟩
      have S11 : Same H H11 := L2.Same.trans S10 s11
      have o6_11 := s11 _ _ o6_10
      have x6_11 := s11 _ _ x6_10
      have o7_11 := s11 _ _ o7_10
      have x7_11 := s11 _ _ x7_10
      have o8_11 := s11 _ _ o8_10
      have x8_11 := s11 _ _ x8_10
      have o9_11 := s11 _ _ o9_10
      have x9_11 := s11 _ _ x9_10
      have o10_11 := s11 _ _ o10
      walk_at "go"
      refine ⟨.inl ⟨rfl, _, SqL.of o11⟩, ?_⟩
      walk_at "go"
      refine rd_index (ns := [3, 4, 12, 14]) (j := 1) o11 rfl (by decide) ?_
      refine rd_ixl (SqL.of o10_11) (at_of (j := 1) rfl rfl) ?_
      walk_at "go"
      refine rd_field ?_
      walk_at "go"
      refine ⟨e7, cl 4, d7, _, _, rfl, o7_11, x7_11, R.xf 4 (by decide), T.f_UnknownRule_name, rfl, ?_⟩
      walk_at "go"
      refine ⟨by show 2 ≤ sizeLine; decide, rd_new fun p12 H12 n12 o12 s12 => ?_⟩
      have S12 : Same H H12 := L2.Same.trans S11 s12
      have o6_12 := s12 _ _ o6_11
      have x6_12 := s12 _ _ x6_11
      have o7_12 := s12 _ _ o7_11
      have x7_12 := s12 _ _ x7_11
      have o8_12 := s12 _ _ o8_11
      have x8_12 := s12 _ _ x8_11
      have o9_12 := s12 _ _ o9_11
      have x9_12 := s12 _ _ x9_11
      have o10_12 := s12 _ _ o10_11
      have o11_12 := s12 _ _ o11
      walk_at "go"
      refine ⟨by show 1 ≤ sizeLine; decide, rd_new fun p13 H13 n13 o13 s13 => ?_⟩
      have S13 : Same H H13 := L2.Same.trans S12 s13
      have o6_13 := s13 _ _ o6_12
      have x6_13 := s13 _ _ x6_12
      have o7_13 := s13 _ _ o7_12
      have x7_13 := s13 _ _ x7_12
      have o8_13 := s13 _ _ o8_12
      have x8_13 := s13 _ _ x8_12
      have o9_13 := s13 _ _ o9_12
      have x9_13 := s13 _ _ x9_12
      have o10_13 := s13 _ _ o10_12
      have o11_13 := s13 _ _ o11_12
      have o12_13 := s13 _ _ o12
      walk_at "go"
      refine ⟨by show 2 ≤ sizeLine; decide, rd_new fun p14 H14 n14 o14 s14 => ?_⟩
      have S14 : Same H H14 := L2.Same.trans S13 s14
      have o6_14 := s14 _ _ o6_13
      have x6_14 := s14 _ _ x6_13
      have o7_14 := s14 _ _ o7_13
      have x7_14 := s14 _ _ x7_13
      have o8_14 := s14 _ _ o8_13
      have x8_14 := s14 _ _ x8_13
      have o9_14 := s14 _ _ o9_13
      have x9_14 := s14 _ _ x9_13
      have o10_14 := s14 _ _ o10_13
      have o11_14 := s14 _ _ o11_13
      have o12_14 := s14 _ _ o12_13
      have o13_14 := s14 _ _ o13
      walk_at "go"
      exact k p14 e7 p13 (some d7) _ H14 o14 o13_14 ⟨o7_14, .inr ⟨d7, _, rfl, x7_14⟩⟩ (.cons o12_14 (.inl rfl) .nil) S14
    · walk_at "go"
      rw [if_neg (by decide)]
      walk_at "go"
      refine ⟨by show 5 ≤ sizeLine; decide, rd_new fun p1 H1 n1 o1 s1 => ?_⟩
      have S1 : Same H H1 := L2.Same.trans (Same.refl H) s1
      walk_at "go"
      refine rd_in (.inr (SqT.of o1)) rfl rfl ?_
      rw [if_neg Bool.false_ne_true]
      walk_at "go"
      rw [if_pos (by decide +kernel)]
      walk_at "go"
      refine rd_exv0 fun e2 H2 s2 o2 => ?_
      have S2 : Same H H2 := L2.Same.trans S1 s2
      walk_at "go"
      refine rd_exv0 fun e3 H3 s3 o3 => ?_
      have S3 : Same H H3 := L2.Same.trans S2 s3
      have o2_3 := s3 _ _ o2
      walk_at "go"
      refine rd_exv0 fun e4 H4 s4 o4 => ?_
      have S4 : Same H H4 := L2.Same.trans S3 s4
      have o2_4 := s4 _ _ o2_3
      have o3_4 := s4 _ _ o3
      walk_at "go"
      refine rd_exv0 fun e5 H5 s5 o5 => ?_
      have S5 : Same H H5 := L2.Same.trans S4 s5
      have o2_5 := s5 _ _ o2_4
      have o3_5 := s5 _ _ o3_4
      have o4_5 := s5 _ _ o4
      walk_at "go"
      refine rd_exv0 fun e6 H6 s6 o6 => ?_
      have S6 : Same H H6 := L2.Same.trans S5 s6
      have o2_6 := s6 _ _ o2_5
      have o3_6 := s6 _ _ o3_5
      have o4_6 := s6 _ _ o4_5
      have o5_6 := s6 _ _ o5
      walk_at "go"
      refine ⟨by show 5 ≤ sizeLine; decide, rd_new fun p7 H7 n7 o7 s7 => ?_⟩
      have S7 : Same H H7 := L2.Same.trans S6 s7
      have o2_7 := s7 _ _ o2_6
      have o3_7 := s7 _ _ o3_6
      have o4_7 := s7 _ _ o4_6
      have o5_7 := s7 _ _ o5_6
      have o6_7 := s7 _ _ o6
      walk_at "go"
      refine ⟨by show 5 ≤ sizeLine; decide, rd_new fun p8 H8 n8 o8 s8 => ?_⟩
      have S8 : Same H H8 := L2.Same.trans S7 s8
      have o2_8 := s8 _ _ o2_7
      have o3_8 := s8 _ _ o3_7
      have o4_8 := s8 _ _ o4_7
      have o5_8 := s8 _ _ o5_7
      have o6_8 := s8 _ _ o6_7
      have o7_8 := s8 _ _ o7
      walk_at "go"
      refine ⟨.inl ⟨rfl, _, SqL.of o8⟩, ?_⟩
      walk_at "go"
      refine rd_index (ns := [5, 8, 9, 17, 18]) (j := 0) o8 rfl (by decide) ?_
      refine rd_ixl (SqL.of o7_8) (at_of (j := 0) rfl rfl) ?_
      walk_at "go"
      refine ⟨by show 0 ≤ sizeLine; decide, rd_new fun p9 H9 n9 o9 s9 => ?_⟩
      have S9 : Same H H9 := L2.Same.trans S8 s9
      have o2_9 := s9 _ _ o2_8
      have o3_9 := s9 _ _ o3_8
      have o4_9 := s9 _ _ o4_8
      have o5_9 := s9 _ _ o5_8
      have o6_9 := s9 _ _ o6_8
      have o7_9 := s9 _ _ o7_8
      have o8_9 := s9 _ _ o8
      walk_at "go"
      refine ⟨by show 2 ≤ sizeLine; decide, rd_new fun p10 H10 n10 o10 s10 => ?_⟩
      have S10 : Same H H10 := L2.Same.trans S9 s10
      have o2_10 := s10 _ _ o2_9
      have o3_10 := s10 _ _ o3_9
      have o4_10 := s10 _ _ o4_9
      have o5_10 := s10 _ _ o5_9
      have o6_10 := s10 _ _ o6_9
      have o7_10 := s10 _ _ o7_9
      have o8_10 := s10 _ _ o8_9
      have o9_10 := s10 _ _ o9
      walk_at "go"
      exact k p10 e2 p9 none _ H10 o10 o9_10 ⟨o2_10, .inl rfl⟩ .nil S10
    · walk_at "go"
      rw [if_neg (by decide)]
      walk_at "go"
      refine ⟨by show 5 ≤ sizeLine; decide, rd_new fun p1 H1 n1 o1 s1 => ?_⟩
      have S1 : Same H H1 := L2.Same.trans (Same.refl H) s1
      walk_at "go"
      refine rd_in (.inr (SqT.of o1)) rfl rfl ?_
      rw [if_neg Bool.false_ne_true]
      walk_at "go"
      rw [if_neg (by decide +kernel)]
      walk_at "go"
      refine ⟨by show 2 ≤ sizeLine; decide, rd_new fun p2 H2 n2 o2 s2 => ?_⟩
      have S2 : Same H H2 := L2.Same.trans S1 s2
      walk_at "go"
      refine rd_in (.inr (SqT.of o2)) rfl rfl ?_
      rw [if_neg Bool.false_ne_true]
      walk_at "go"
      rw [if_pos (by decide +kernel)]
      walk_at "go"
      rw [if_neg (by decide)]
      walk_at "go"
      refine rd_newE ?_
      walk_at "go"
      refine ⟨rfl, by show 1 ≤ 1000; decide, fun e3 d3 H3 s3 o3 x3 => ?_⟩
      have S3 : Same H H3 := L2.Same.trans S2 s3
      walk_at "go"
      refine rd_field ?_
      walk_at "go"
      refine ⟨e3, cl 6, d3, _, _, rfl, o3, x3, R.xf 6 (by decide), T.f_InvalidRange_position, rfl, ?_⟩
      walk_at "go"
      refine ⟨by show 2 ≤ sizeLine; decide, rd_new fun p4 H4 n4 o4 s4 => ?_⟩
      have S4 : Same H H4 := L2.Same.trans S3 s4
      have o3_4 := s4 _ _ o3
      have x3_4 := s4 _ _ x3
      walk_at "go"
      refine ⟨by show 1 ≤ sizeLine; decide, rd_new fun p5 H5 n5 o5 s5 => ?_⟩
      have S5 : Same H H5 := L2.Same.trans S4 s5
      have o3_5 := s5 _ _ o3_4
      have x3_5 := s5 _ _ x3_4
      have o4_5 := s5 _ _ o4
      walk_at "go"
      refine ⟨by show 2 ≤ sizeLine; decide, rd_new fun p6 H6 n6 o6 s6 => ?_⟩
      have S6 : Same H H6 := L2.Same.trans S5 s6
      have o3_6 := s6 _ _ o3_5
      have x3_6 := s6 _ _ x3_5
      have o4_6 := s6 _ _ o4_5
      have o5_6 := s6 _ _ o5
      walk_at "go"
      exact k p6 e3 p5 (some d3) _ H6 o6 o5_6 ⟨o3_6, .inr ⟨d3, _, rfl, x3_6⟩⟩ (.cons o4_6 (.inl rfl) .nil) S6
    · walk_at "go"
      rw [if_neg (by decide)]
      walk_at "go"
      refine ⟨by show 5 ≤ sizeLine; decide, rd_new fun p1 H1 n1 o1 s1 => ?_⟩
      have S1 : Same H H1 := L2.Same.trans (Same.refl H) s1
      walk_at "go"
      refine rd_in (.inr (SqT.of o1)) rfl rfl ?_
      rw [if_neg Bool.false_ne_true]
      walk_at "go"
      rw [if_neg (by decide +kernel)]
      walk_at "go"
      refine ⟨by show 2 ≤ sizeLine; decide, rd_new fun p2 H2 n2 o2 s2 => ?_⟩
      have S2 : Same H H2 := L2.Same.trans S1 s2
      walk_at "go"
      refine rd_in (.inr (SqT.of o2)) rfl rfl ?_
      rw [if_neg Bool.false_ne_true]
      walk_at "go"
      rw [if_neg (by decide +kernel)]
      walk_at "go"
      refine ⟨by show 2 ≤ sizeLine; decide, rd_new fun p3 H3 n3 o3 s3 => ?_⟩
      have S3 : Same H H3 := L2.Same.trans S2 s3
      walk_at "go"
      refine rd_in (.inr (SqT.of o3)) rfl rfl ?_
      rw [if_neg Bool.false_ne_true]
      walk_at "go"
      rw [if_pos (by decide +kernel)]
      walk_at "go"
      rw [if_neg (by decide)]
      walk_at "go"
      refine rd_newE ?_
      walk_at "go"
      refine ⟨rfl, by show 1 ≤ 1000; decide, fun e4 d4 H4 s4 o4 x4 => ?_⟩
      have S4 : Same H H4 := L2.Same.trans S3 s4
      walk_at "go"
      rw [if_neg (by decide)]
      walk_at "go"
      refine rd_field ?_
      walk_at "go"
      refine ⟨e4, cl 7, d4, _, _, rfl, o4, x4, R.xf 7 (by decide), T.f_TooLong_length, rfl, ?_⟩
      walk_at "go"
      refine ⟨by show 2 ≤ sizeLine; decide, rd_new fun p5 H5 n5 o5 s5 => ?_⟩
      have S5 : Same H H5 := L2.Same.trans S4 s5
      have o4_5 := s5 _ _ o4
      have x4_5 := s5 _ _ x4
      walk_at "go"
      refine ⟨by show 1 ≤ sizeLine; decide, rd_new fun p6 H6 n6 o6 s6 => ?_⟩
      have S6 : Same H H6 := L2.Same.trans S5 s6
      have o4_6 := s6 _ _ o4_5
      have x4_6 := s6 _ _ x4_5
      have o5_6 := s6 _ _ o5
      walk_at "go"
      refine ⟨by show 2 ≤ sizeLine; decide, rd_new fun p7 H7 n7 o7 s7 => ?_⟩
      have S7 : Same H H7 := L2.Same.trans S6 s7
      have o4_7 := s7 _ _ o4_6
      have x4_7 := s7 _ _ x4_6
      have o5_7 := s7 _ _ o5_6
      have o6_7 := s7 _ _ o6
      walk_at "go"
      exact k p7 e4 p6 (some d4) _ H7 o7 o6_7 ⟨o4_7, .inr ⟨d4, _, rfl, x4_7⟩⟩ (.cons o5_7 (.inl rfl) .nil) S7
    · walk_at "go"
      rw [if_neg (by decide)]
      walk_at "go"
      refine ⟨by show 5 ≤ sizeLine; decide, rd_new fun p1 H1 n1 o1 s1 => ?_⟩
      have S1 : Same H H1 := L2.Same.trans (Same.refl H) s1
      walk_at "go"
      refine rd_in (.inr (SqT.of o1)) rfl rfl ?_
      rw [if_neg Bool.false_ne_true]
      walk_at "go"
      rw [if_pos (by decide +kernel)]
      walk_at "go"
      refine rd_exv0 fun e2 H2 s2 o2 => ?_
      have S2 : Same H H2 := L2.Same.trans S1 s2
      walk_at "go"
      refine rd_exv0 fun e3 H3 s3 o3 => ?_
      have S3 : Same H H3 := L2.Same.trans S2 s3
      have o2_3 := s3 _ _ o2
      walk_at "go"
      refine rd_exv0 fun e4 H4 s4 o4 => ?_
      have S4 : Same H H4 := L2.Same.trans S3 s4
      have o2_4 := s4 _ _ o2_3
      have o3_4 := s4 _ _ o3
      walk_at "go"
      refine rd_exv0 fun e5 H5 s5 o5 => ?_
      have S5 : Same H H5 := L2.Same.trans S4 s5
      have o2_5 := s5 _ _ o2_4
      have o3_5 := s5 _ _ o3_4
      have o4_5 := s5 _ _ o4
      walk_at "go"
      refine rd_exv0 fun e6 H6 s6 o6 => ?_
      have S6 : Same H H6 := L2.Same.trans S5 s6
      have o2_6 := s6 _ _ o2_5
      have o3_6 := s6 _ _ o3_5
      have o4_6 := s6 _ _ o4_5
      have o5_6 := s6 _ _ o5
      walk_at "go"
      refine ⟨by show 5 ≤ sizeLine; decide, rd_new fun p7 H7 n7 o7 s7 => ?_⟩
      have S7 : Same H H7 := L2.Same.trans S6 s7
      have o2_7 := s7 _ _ o2_6
      have o3_7 := s7 _ _ o3_6
      have o4_7 := s7 _ _ o4_6
      have o5_7 := s7 _ _ o5_6
      have o6_7 := s7 _ _ o6
      walk_at "go"
      refine ⟨by show 5 ≤ sizeLine; decide, rd_new fun p8 H8 n8 o8 s8 => ?_⟩
      have S8 : Same H H8 := L2.Same.trans S7 s8
      have o2_8 := s8 _ _ o2_7
      have o3_8 := s8 _ _ o3_7
      have o4_8 := s8 _ _ o4_7
      have o5_8 := s8 _ _ o5_7
      have o6_8 := s8 _ _ o6_7
      have o7_8 := s8 _ _ o7
      walk_at "go"
      refine ⟨.inl ⟨rfl, _, SqL.of o8⟩, ?_⟩
      walk_at "go"
      refine rd_index (ns := [5, 8, 9, 17, 18]) (j := 1) o8 rfl (by decide) ?_
      refine rd_ixl (SqL.of o7_8) (at_of (j := 1) rfl rfl) ?_
      walk_at "go"
      refine ⟨by show 0 ≤ sizeLine; decide, rd_new fun p9 H9 n9 o9 s9 => ?_⟩
      have S9 : Same H H9 := L2.Same.trans S8 s9
      have o2_9 := s9 _ _ o2_8
      have o3_9 := s9 _ _ o3_8
      have o4_9 := s9 _ _ o4_8
      have o5_9 := s9 _ _ o5_8
      have o6_9 := s9 _ _ o6_8
      have o7_9 := s9 _ _ o7_8
      have o8_9 := s9 _ _ o8
      walk_at "go"
      refine ⟨by show 2 ≤ sizeLine; decide, rd_new fun p10 H10 n10 o10 s10 => ?_⟩
      have S10 : Same H H10 := L2.Same.trans S9 s10
      have o2_10 := s10 _ _ o2_9
      have o3_10 := s10 _ _ o3_9
      have o4_10 := s10 _ _ o4_9
      have o5_10 := s10 _ _ o5_9
      have o6_10 := s10 _ _ o6_9
      have o7_10 := s10 _ _ o7_9
      have o8_10 := s10 _ _ o8_9
      have o9_10 := s10 _ _ o9
      walk_at "go"
      exact k p10 e3 p9 none _ H10 o10 o9_10 ⟨o3_10, .inl rfl⟩ .nil S10
    · walk_at "go"
      rw [if_neg (by decide)]
      walk_at "go"
      refine ⟨by show 5 ≤ sizeLine; decide, rd_new fun p1 H1 n1 o1 s1 => ?_⟩
      have S1 : Same H H1 := L2.Same.trans (Same.refl H) s1
      walk_at "go"
      refine rd_in (.inr (SqT.of o1)) rfl rfl ?_
      rw [if_neg Bool.false_ne_true]
      walk_at "go"
      rw [if_pos (by decide +kernel)]
      walk_at "go"
      refine rd_exv0 fun e2 H2 s2 o2 => ?_
      have S2 : Same H H2 := L2.Same.trans S1 s2
      walk_at "go"
      refine rd_exv0 fun e3 H3 s3 o3 => ?_
      have S3 : Same H H3 := L2.Same.trans S2 s3
      have o2_3 := s3 _ _ o2
      walk_at "go"
      refine rd_exv0 fun e4 H4 s4 o4 => ?_
      have S4 : Same H H4 := L2.Same.trans S3 s4
      have o2_4 := s4 _ _ o2_3
      have o3_4 := s4 _ _ o3
      walk_at "go"
      refine rd_exv0 fun e5 H5 s5 o5 => ?_
      have S5 : Same H H5 := L2.Same.trans S4 s5
      have o2_5 := s5 _ _ o2_4
      have o3_5 := s5 _ _ o3_4
      have o4_5 := s5 _ _ o4
      walk_at "go"
      refine rd_exv0 fun e6 H6 s6 o6 => ?_
      have S6 : Same H H6 := L2.Same.trans S5 s6
      have o2_6 := s6 _ _ o2_5
      have o3_6 := s6 _ _ o3_5
      have o4_6 := s6 _ _ o4_5
      have o5_6 := s6 _ _ o5
      walk_at "go"
      refine ⟨by show 5 ≤ sizeLine; decide, rd_new fun p7 H7 n7 o7 s7 => ?_⟩
      have S7 : Same H H7 := L2.Same.trans S6 s7
      have o2_7 := s7 _ _ o2_6
      have o3_7 := s7 _ _ o3_6
      have o4_7 := s7 _ _ o4_6
      have o5_7 := s7 _ _ o5_6
      have o6_7 := s7 _ _ o6
      walk_at "go"
      refine ⟨by show 5 ≤ sizeLine; decide, rd_new fun p8 H8 n8 o8 s8 => ?_⟩
      have S8 : Same H H8 := L2.Same.trans S7 s8
      have o2_8 := s8 _ _ o2_7
      have o3_8 := s8 _ _ o3_7
      have o4_8 := s8 _ _ o4_7
      have o5_8 := s8 _ _ o5_7
      have o6_8 := s8 _ _ o6_7
      have o7_8 := s8 _ _ o7
      walk_at "go"
      refine ⟨.inl ⟨rfl, _, SqL.of o8⟩, ?_⟩
      walk_at "go"
      refine rd_index (ns := [5, 8, 9, 17, 18]) (j := 2) o8 rfl (by decide) ?_
      refine rd_ixl (SqL.of o7_8) (at_of (j := 2) rfl rfl) ?_
      walk_at "go"
      refine ⟨by show 0 ≤ sizeLine; decide, rd_new fun p9 H9 n9 o9 s9 => ?_⟩
      have S9 : Same H H9 := L2.Same.trans S8 s9
      have o2_9 := s9 _ _ o2_8
      have o3_9 := s9 _ _ o3_8
      have o4_9 := s9 _ _ o4_8
      have o5_9 := s9 _ _ o5_8
      have o6_9 := s9 _ _ o6_8
      have o7_9 := s9 _ _ o7_8
      have o8_9 := s9 _ _ o8
      walk_at "go"
      refine ⟨by show 2 ≤ sizeLine; decide, rd_new fun p10 H10 n10 o10 s10 => ?_⟩
      have S10 : Same H H10 := L2.Same.trans S9 s10
      have o2_10 := s10 _ _ o2_9
      have o3_10 := s10 _ _ o3_9
      have o4_10 := s10 _ _ o4_9
      have o5_10 := s10 _ _ o5_9
      have o6_10 := s10 _ _ o6_9
      have o7_10 := s10 _ _ o7_9
      have o8_10 := s10 _ _ o8_9
      have o9_10 := s10 _ _ o9
      walk_at "go"
      exact k p10 e4 p9 none _ H10 o10 o9_10 ⟨o4_10, .inl rfl⟩ .nil S10
    · walk_at "go"
      rw [if_neg (by decide)]
      walk_at "go"
      refine ⟨by show 5 ≤ sizeLine; decide, rd_new fun p1 H1 n1 o1 s1 => ?_⟩
      have S1 : Same H H1 := L2.Same.trans (Same.refl H) s1
      walk_at "go"
      refine rd_in (.inr (SqT.of o1)) rfl rfl ?_
      rw [if_neg Bool.false_ne_true]
      walk_at "go"
      rw [if_neg (by decide +kernel)]
      walk_at "go"
      refine ⟨by show 2 ≤ sizeLine; decide, rd_new fun p2 H2 n2 o2 s2 => ?_⟩
      have S2 : Same H H2 := L2.Same.trans S1 s2
      walk_at "go"
      refine rd_in (.inr (SqT.of o2)) rfl rfl ?_
      rw [if_neg Bool.false_ne_true]
      walk_at "go"
      rw [if_neg (by decide +kernel)]
      walk_at "go"
      refine ⟨by show 2 ≤ sizeLine; decide, rd_new fun p3 H3 n3 o3 s3 => ?_⟩
      have S3 : Same H H3 := L2.Same.trans S2 s3
      walk_at "go"
      refine rd_in (.inr (SqT.of o3)) rfl rfl ?_
      rw [if_neg Bool.false_ne_true]
      walk_at "go"
      rw [if_neg (by decide +kernel)]
      walk_at "go"
      refine ⟨by show 2 ≤ sizeLine; decide, rd_new fun p4 H4 n4 o4 s4 => ?_⟩
      have S4 : Same H H4 := L2.Same.trans S3 s4
      walk_at "go"
      refine rd_in (.inr (SqT.of o4)) rfl rfl ?_
      rw [if_neg Bool.false_ne_true]
      walk_at "go"
      rw [if_pos (by decide +kernel)]
      walk_at "go"
      rw [if_pos (by decide)]
      walk_at "go"
      refine rd_newE ?_
      walk_at "go"
      refine ⟨rfl, by show 1 ≤ 1000; decide, fun e5 d5 H5 s5 o5 x5 => ?_⟩
      have S5 : Same H H5 := L2.Same.trans S4 s5
      walk_at "go"
      refine rd_field ?_
      walk_at "go"
      refine ⟨e5, cl 10, d5, _, _, rfl, o5, x5, R.xf 10 (by decide), T.f_InvalidWord_index, rfl, ?_⟩
      walk_at "go"
      refine ⟨by show 2 ≤ sizeLine; decide, rd_new fun p6 H6 n6 o6 s6 => ?_⟩
      have S6 : Same H H6 := L2.Same.trans S5 s6
      have o5_6 := s6 _ _ o5
      have x5_6 := s6 _ _ x5
      walk_at "go"
      refine ⟨by show 1 ≤ sizeLine; decide, rd_new fun p7 H7 n7 o7 s7 => ?_⟩
      have S7 : Same H H7 := L2.Same.trans S6 s7
      have o5_7 := s7 _ _ o5_6
      have x5_7 := s7 _ _ x5_6
      have o6_7 := s7 _ _ o6
      walk_at "go"
      refine ⟨by show 2 ≤ sizeLine; decide, rd_new fun p8 H8 n8 o8 s8 => ?_⟩
      have S8 : Same H H8 := L2.Same.trans S7 s8
      have o5_8 := s8 _ _ o5_7
      have x5_8 := s8 _ _ x5_7
      have o6_8 := s8 _ _ o6_7
      have o7_8 := s8 _ _ o7
      walk_at "go"
      exact k p8 e5 p7 (some d5) _ H8 o8 o7_8 ⟨o5_8, .inr ⟨d5, _, rfl, x5_8⟩⟩ (.cons o6_8 (.inl rfl) .nil) S8
    · walk_at "go"
      rw [if_neg (by decide)]
      walk_at "go"
      refine ⟨by show 5 ≤ sizeLine; decide, rd_new fun p1 H1 n1 o1 s1 => ?_⟩
      have S1 : Same H H1 := L2.Same.trans (Same.refl H) s1
      walk_at "go"
      refine rd_in (.inr (SqT.of o1)) rfl rfl ?_
      rw [if_neg Bool.false_ne_true]
      walk_at "go"
      rw [if_neg (by decide +kernel)]
      walk_at "go"
      refine ⟨by show 2 ≤ sizeLine; decide, rd_new fun p2 H2 n2 o2 s2 => ?_⟩
      have S2 : Same H H2 := L2.Same.trans S1 s2
      walk_at "go"
      refine rd_in (.inr (SqT.of o2)) rfl rfl ?_
      rw [if_neg Bool.false_ne_true]
      walk_at "go"
      rw [if_neg (by decide +kernel)]
      walk_at "go"
      refine ⟨by show 2 ≤ sizeLine; decide, rd_new fun p3 H3 n3 o3 s3 => ?_⟩
      have S3 : Same H H3 := L2.Same.trans S2 s3
      walk_at "go"
      refine rd_in (.inr (SqT.of o3)) rfl rfl ?_
      rw [if_neg Bool.false_ne_true]
      walk_at "go"
      rw [if_neg (by decide +kernel)]
      walk_at "go"
      refine ⟨by show 2 ≤ sizeLine; decide, rd_new fun p4 H4 n4 o4 s4 => ?_⟩
      have S4 : Same H H4 := L2.Same.trans S3 s4
      walk_at "go"
      refine rd_in (.inr (SqT.of o4)) rfl rfl ?_
      rw [if_neg Bool.false_ne_true]
      walk_at "go"
      rw [if_pos (by decide +kernel)]
      walk_at "go"
      rw [if_neg (by decide)]
      walk_at "go"
      refine rd_newE ?_
      walk_at "go"
      refine ⟨rfl, by show 1 ≤ 1000; decide, fun e5 d5 H5 s5 o5 x5 => ?_⟩
      have S5 : Same H H5 := L2.Same.trans S4 s5
      walk_at "go"
      refine rd_field ?_
      walk_at "go"
      refine ⟨e5, cl 11, d5, _, _, rfl, o5, x5, R.xf 11 (by decide), T.f_InvalidNotation_index, rfl, ?_⟩
      walk_at "go"
      refine ⟨by show 2 ≤ sizeLine; decide, rd_new fun p6 H6 n6 o6 s6 => ?_⟩
      have S6 : Same H H6 := L2.Same.trans S5 s6
      have o5_6 := s6 _ _ o5
      have x5_6 := s6 _ _ x5
      walk_at "go"
      refine ⟨by show 1 ≤ sizeLine; decide, rd_new fun p7 H7 n7 o7 s7 => ?_⟩
      have S7 : Same H H7 := L2.Same.trans S6 s7
      have o5_7 := s7 _ _ o5_6
      have x5_7 := s7 _ _ x5_6
      have o6_7 := s7 _ _ o6
      walk_at "go"
      refine ⟨by show 2 ≤ sizeLine; decide, rd_new fun p8 H8 n8 o8 s8 => ?_⟩
      have S8 : Same H H8 := L2.Same.trans S7 s8
      have o5_8 := s8 _ _ o5_7
      have x5_8 := s8 _ _ x5_7
      have o6_8 := s8 _ _ o6_7
      have o7_8 := s8 _ _ o7
      walk_at "go"
      exact k p8 e5 p7 (some d5) _ H8 o8 o7_8 ⟨o5_8, .inr ⟨d5, _, rfl, x5_8⟩⟩ (.cons o6_8 (.inl rfl) .nil) S8
    · walk_at "go"
      rw [if_neg (by decide)]
      walk_at "go"
      refine ⟨by show 5 ≤ sizeLine; decide, rd_new fun p1 H1 n1 o1 s1 => ?_⟩
      have S1 : Same H H1 := L2.Same.trans (Same.refl H) s1
      walk_at "go"
      refine rd_in (.inr (SqT.of o1)) rfl rfl ?_
      rw [if_neg Bool.false_ne_true]
      walk_at "go"
      rw [if_neg (by decide +kernel)]
      walk_at "go"
      refine ⟨by show 2 ≤ sizeLine; decide, rd_new fun p2 H2 n2 o2 s2 => ?_⟩
      have S2 : Same H H2 := L2.Same.trans S1 s2
      walk_at "go"
      refine rd_in (.inr (SqT.of o2)) rfl rfl ?_
      rw [if_neg Bool.false_ne_true]
      walk_at "go"
      rw [if_neg (by decide +kernel)]
      walk_at "go"
      refine ⟨by show 2 ≤ sizeLine; decide, rd_new fun p3 H3 n3 o3 s3 => ?_⟩
      have S3 : Same H H3 := L2.Same.trans S2 s3
      walk_at "go"
      refine rd_in (.inr (SqT.of o3)) rfl rfl ?_
      rw [if_neg Bool.false_ne_true]
      walk_at "go"
      rw [if_neg (by decide +kernel)]
      walk_at "go"
      refine ⟨by show 2 ≤ sizeLine; decide, rd_new fun p4 H4 n4 o4 s4 => ?_⟩
      have S4 : Same H H4 := L2.Same.trans S3 s4
      walk_at "go"
      refine rd_in (.inr (SqT.of o4)) rfl rfl ?_
      rw [if_neg Bool.false_ne_true]
      walk_at "go"
      rw [if_neg (by decide +kernel)]
      walk_at "go"
      refine ⟨by show 3 ≤ sizeLine; decide, rd_new fun p5 H5 n5 o5 s5 => ?_⟩
      have S5 : Same H H5 := L2.Same.trans S4 s5
      walk_at "go"
      refine rd_in (.inr (SqT.of o5)) rfl rfl ?_
      rw [if_neg Bool.false_ne_true]
      walk_at "go"
      rw [if_neg (by decide +kernel)]
      walk_at "go"
      refine rd_newE ?_
      walk_at "go"
      refine ⟨rfl, by show 1 ≤ 1000; decide, fun e6 d6 H6 s6 o6 x6 => ?_⟩
      have S6 : Same H H6 := L2.Same.trans S5 s6
      walk_at "go"
      refine rd_newE ?_
      walk_at "go"
      refine ⟨rfl, by show 1 ≤ 1000; decide, fun e7 d7 H7 s7 o7 x7 => ?_⟩
      have S7 : Same H H7 := L2.Same.trans S6 s7
      have o6_7 := s7 _ _ o6
      have x6_7 := s7 _ _ x6
      walk_at "go"
      refine rd_newE ?_
      walk_at "go"
      refine ⟨rfl, by show 1 ≤ 1000; decide, fun e8 d8 H8 s8 o8 x8 => ?_⟩
      have S8 : Same H H8 := L2.Same.trans S7 s8
      have o6_8 := s8 _ _ o6_7
      have x6_8 := s8 _ _ x6_7
      have o7_8 := s8 _ _ o7
      have x7_8 := s8 _ _ x7
      walk_at "go"
      refine rd_newE ?_
      walk_at "go"
      refine ⟨rfl, by show 1 ≤ 1000; decide, fun e9 d9 H9 s9 o9 x9 => ?_⟩
      have S9 : Same H H9 := L2.Same.trans S8 s9
      have o6_9 := s9 _ _ o6_8
      have x6_9 := s9 _ _ x6_8
      have o7_9 := s9 _ _ o7_8
      have x7_9 := s9 _ _ x7_8
      have o8_9 := s9 _ _ o8
      have x8_9 := s9 _ _ x8
      walk_at "go"
      refine ⟨by show 4 ≤ sizeLine; decide, rd_new fun p10 H10 n10 o10 s10 => ?_⟩
      have S10 : Same H H10 := L2.Same.trans S9 s10
      have o6_10 := s10 _ _ o6_9
      have x6_10 := s10 _ _ x6_9
      have o7_10 := s10 _ _ o7_9
      have x7_10 := s10 _ _ x7_9
      have o8_10 := s10 _ _ o8_9
      have x8_10 := s10 _ _ x8_9
      have o9_10 := s10 _ _ o9
      have x9_10 := s10 _ _ x9
      walk_at "go"
      refine ⟨by show 4 ≤ sizeLine; decide, rd_new fun p11 H11 n11 o11 s11 => ?_⟩
      have S11 : Same H H11 := L2.Same.trans S10 s11
      have o6_11 := s11 _ _ o6_10
      have x6_11 := s11 _ _ x6_10
      have o7_11 := s11 _ _ o7_10
      have x7_11 := s11 _ _ x7_10
      have o8_11 := s11 _ _ o8_10
      have x8_11 := s11 _ _ x8_10
      have o9_11 := s11 _ _ o9_10
      have x9_11 := s11 _ _ x9_10
      have o10_11 := s11 _ _ o10
      walk_at "go"
      refine ⟨.inl ⟨rfl, _, SqL.of o11⟩, ?_⟩
      walk_at "go"
      refine rd_index (ns := [3, 4, 12, 14]) (j := 2) o11 rfl (by decide) ?_
      refine rd_ixl (SqL.of o10_11) (at_of (j := 2) rfl rfl) ?_
      walk_at "go"
      refine rd_field ?_
      walk_at "go"
      refine ⟨e8, cl 12, d8, _, _, rfl, o8_11, x8_11, R.xf 12 (by decide), T.f_InvalidName_name, rfl, ?_⟩
      walk_at "go"
      refine ⟨by show 2 ≤ sizeLine; decide, rd_new fun p12 H12 n12 o12 s12 => ?_⟩
      have S12 : Same H H12 := L2.Same.trans S11 s12
      have o6_12 := s12 _ _ o6_11
      have x6_12 := s12 _ _ x6_11
      have o7_12 := s12 _ _ o7_11
      have x7_12 := s12 _ _ x7_11
      have o8_12 := s12 _ _ o8_11
      have x8_12 := s12 _ _ x8_11
      have o9_12 := s12 _ _ o9_11
      have x9_12 := s12 _ _ x9_11
      have o10_12 := s12 _ _ o10_11
      have o11_12 := s12 _ _ o11
      walk_at "go"
      refine ⟨by show 1 ≤ sizeLine; decide, rd_new fun p13 H13 n13 o13 s13 => ?_⟩
      have S13 : Same H H13 := L2.Same.trans S12 s13
      have o6_13 := s13 _ _ o6_12
      have x6_13 := s13 _ _ x6_12
      have o7_13 := s13 _ _ o7_12
      have x7_13 := s13 _ _ x7_12
      have o8_13 := s13 _ _ o8_12
      have x8_13 := s13 _ _ x8_12
      have o9_13 := s13 _ _ o9_12
      have x9_13 := s13 _ _ x9_12
      have o10_13 := s13 _ _ o10_12
      have o11_13 := s13 _ _ o11_12
      have o12_13 := s13 _ _ o12
      walk_at "go"
      refine ⟨by show 2 ≤ sizeLine; decide, rd_new fun p14 H14 n14 o14 s14 => ?_⟩
      have S14 : Same H H14 := L2.Same.trans S13 s14
      have o6_14 := s14 _ _ o6_13
      have x6_14 := s14 _ _ x6_13
      have o7_14 := s14 _ _ o7_13
      have x7_14 := s14 _ _ x7_13
      have o8_14 := s14 _ _ o8_13
      have x8_14 := s14 _ _ x8_13
      have o9_14 := s14 _ _ o9_13
      have x9_14 := s14 _ _ x9_13
      have o10_14 := s14 _ _ o10_13
      have o11_14 := s14 _ _ o11_13
      have o12_14 := s14 _ _ o12_13
      have o13_14 := s14 _ _ o13
      walk_at "go"
      exact k p14 e8 p13 (some d8) _ H14 o14 o13_14 ⟨o8_14, .inr ⟨d8, _, rfl, x8_14⟩⟩ (.cons o12_14 (.inl rfl) .nil) S14
    · walk_at "go"
      rw [if_neg (by decide)]
      walk_at "go"
      refine ⟨by show 5 ≤ sizeLine; decide, rd_new fun p1 H1 n1 o1 s1 => ?_⟩
      have S1 : Same H H1 := L2.Same.trans (Same.refl H) s1
      walk_at "go"
      refine rd_in (.inr (SqT.of o1)) rfl rfl ?_
      rw [if_neg Bool.false_ne_true]
      walk_at "go"
      rw [if_neg (by decide +kernel)]
      walk_at "go"
      refine ⟨by show 2 ≤ sizeLine; decide, rd_new fun p2 H2 n2 o2 s2 => ?_⟩
      have S2 : Same H H2 := L2.Same.trans S1 s2
      walk_at "go"
      refine rd_in (.inr (SqT.of o2)) rfl rfl ?_
      rw [if_neg Bool.false_ne_true]
      walk_at "go"
      rw [if_neg (by decide +kernel)]
      walk_at "go"
      refine ⟨by show 2 ≤ sizeLine; decide, rd_new fun p3 H3 n3 o3 s3 => ?_⟩
      have S3 : Same H H3 := L2.Same.trans S2 s3
      walk_at "go"
      refine rd_in (.inr (SqT.of o3)) rfl rfl ?_
      rw [if_neg Bool.false_ne_true]
      walk_at "go"
      rw [if_neg (by decide +kernel)]
      walk_at "go"
      refine ⟨by show 2 ≤ sizeLine; decide, rd_new fun p4 H4 n4 o4 s4 => ?_⟩
      have S4 : Same H H4 := L2.Same.trans S3 s4
      walk_at "go"
      refine rd_in (.inr (SqT.of o4)) rfl rfl ?_
      rw [if_neg Bool.false_ne_true]
      walk_at "go"
      rw [if_neg (by decide +kernel)]
      walk_at "go"
      refine ⟨by show 3 ≤ sizeLine; decide, rd_new fun p5 H5 n5 o5 s5 => ?_⟩
      have S5 : Same H H5 := L2.Same.trans S4 s5
      walk_at "go"
      refine rd_in (.inr (SqT.of o5)) rfl rfl ?_
      rw [if_neg Bool.false_ne_true]
      walk_at "go"
      rw [if_pos (by decide +kernel)]
      walk_at "go"
      refine rd_newE ?_
      walk_at "go"
      refine ⟨rfl, by show 1 ≤ 1000; decide, fun e6 d6 H6 s6 o6 x6 => ?_⟩
      have S6 : Same H H6 := L2.Same.trans S5 s6
      walk_at "go"
      refine rd_newE ?_
      walk_at "go"
      refine ⟨rfl, by show 1 ≤ 1000; decide, fun e7 d7 H7 s7 o7 x7 => ?_⟩
      have S7 : Same H H7 := L2.Same.trans S6 s7
      have o6_7 := s7 _ _ o6
      have x6_7 := s7 _ _ x6
      walk_at "go"
      refine rd_newE ?_
      walk_at "go"
      refine ⟨rfl, by show 1 ≤ 1000; decide, fun e8 d8 H8 s8 o8 x8 => ?_⟩
      have S8 : Same H H8 := L2.Same.trans S7 s8
      have o6_8 := s8 _ _ o6_7
      have x6_8 := s8 _ _ x6_7
      have o7_8 := s8 _ _ o7
      have x7_8 := s8 _ _ x7
      walk_at "go"
      refine ⟨by show 3 ≤ sizeLine; decide, rd_new fun p9 H9 n9 o9 s9 => ?_⟩
      have S9 : Same H H9 := L2.Same.trans S8 s9
      have o6_9 := s9 _ _ o6_8
      have x6_9 := s9 _ _ x6_8
      have o7_9 := s9 _ _ o7_8
      have x7_9 := s9 _ _ x7_8
      have o8_9 := s9 _ _ o8
      have x8_9 := s9 _ _ x8
      walk_at "go"
      refine ⟨by show 3 ≤ sizeLine; decide, rd_new fun p10 H10 n10 o10 s10 => ?_⟩
      have S10 : Same H H10 := L2.Same.trans S9 s10
      have o6_10 := s10 _ _ o6_9
      have x6_10 := s10 _ _ x6_9
      have o7_10 := s10 _ _ o7_9
      have x7_10 := s10 _ _ x7_9
      have o8_10 := s10 _ _ o8_9
      have x8_10 := s10 _ _ x8_9
      have o9_10 := s10 _ _ o9
      walk_at "go"
      refine ⟨.inl ⟨rfl, _, SqL.of o10⟩, ?_⟩
      walk_at "go"
      refine rd_index (ns := [13, 15, 16]) (j := 0) o10 rfl (by decide) ?_
      refine rd_ixl (SqL.of o9_10) (at_of (j := 0) rfl rfl) ?_
      walk_at "go"
      refine rd_field ?_
      walk_at "go"
      refine ⟨e6, cl 13, d6, _, _, rfl, o6_10, x6_10, R.xf 13 (by decide), T.f_Incompatible_document, rfl, ?_⟩
      walk_at "go"
      refine ⟨by show 2 ≤ sizeLine; decide, rd_new fun p11 H11 n11 o11 s11 => ?_⟩
      have S11 : Same H H11 := L2.Same.trans S10 s11
      have o6_11 := s11 _ _ o6_10
      have x6_11 := s11 _ _ x6_10
      have o7_11 := s11 _ _ o7_10
      have x7_11 := s11 _ _ x7_10
      have o8_11 := s11 _ _ o8_10
      have x8_11 := s11 _ _ x8_10
      have o9_11 := s11 _ _ o9_10
      have o10_11 := s11 _ _ o10
      walk_at "go"
      refine ⟨by show 1 ≤ sizeLine; decide, rd_new fun p12 H12 n12 o12 s12 => ?_⟩
      have S12 : Same H H12 := L2.Same.trans S11 s12
      have o6_12 := s12 _ _ o6_11
      have x6_12 := s12 _ _ x6_11
      have o7_12 := s12 _ _ o7_11
      have x7_12 := s12 _ _ x7_11
      have o8_12 := s12 _ _ o8_11
      have x8_12 := s12 _ _ x8_11
      have o9_12 := s12 _ _ o9_11
      have o10_12 := s12 _ _ o10_11
      have o11_12 := s12 _ _ o11
      walk_at "go"
      refine ⟨by show 2 ≤ sizeLine; decide, rd_new fun p13 H13 n13 o13 s13 => ?_⟩
      have S13 : Same H H13 := L2.Same.trans S12 s13
      have o6_13 := s13 _ _ o6_12
      have x6_13 := s13 _ _ x6_12
      have o7_13 := s13 _ _ o7_12
      have x7_13 := s13 _ _ x7_12
      have o8_13 := s13 _ _ o8_12
      have x8_13 := s13 _ _ x8_12
      have o9_13 := s13 _ _ o9_12
      have o10_13 := s13 _ _ o10_12
      have o11_13 := s13 _ _ o11_12
      have o12_13 := s13 _ _ o12
      walk_at "go"
      exact k p13 e6 p12 (some d6) _ H13 o13 o12_13 ⟨o6_13, .inr ⟨d6, _, rfl, x6_13⟩⟩ (.cons o11_13 (.inl rfl) .nil) S13
    · walk_at "go"
      rw [if_neg (by decide)]
      walk_at "go"
      refine ⟨by show 5 ≤ sizeLine; decide, rd_new fun p1 H1 n1 o1 s1 => ?_⟩
      have S1 : Same H H1 := L2.Same.trans (Same.refl H) s1
      walk_at "go"
      refine rd_in (.inr (SqT.of o1)) rfl rfl ?_
      rw [if_neg Bool.false_ne_true]
      walk_at "go"
      rw [if_neg (by decide +kernel)]
      walk_at "go"
      refine ⟨by show 2 ≤ sizeLine; decide, rd_new fun p2 H2 n2 o2 s2 => ?_⟩
      have S2 : Same H H2 := L2.Same.trans S1 s2
      walk_at "go"
      refine rd_in (.inr (SqT.of o2)) rfl rfl ?_
      rw [if_neg Bool.false_ne_true]
      walk_at "go"
      rw [if_neg (by decide +kernel)]
      walk_at "go"
      refine ⟨by show 2 ≤ sizeLine; decide, rd_new fun p3 H3 n3 o3 s3 => ?_⟩
      have S3 : Same H H3 := L2.Same.trans S2 s3
      walk_at "go"
      refine rd_in (.inr (SqT.of o3)) rfl rfl ?_
      rw [if_neg Bool.false_ne_true]
      walk_at "go"
      rw [if_neg (by decide +kernel)]
      walk_at "go"
      refine ⟨by show 2 ≤ sizeLine; decide, rd_new fun p4 H4 n4 o4 s4 => ?_⟩
      have S4 : Same H H4 := L2.Same.trans S3 s4
      walk_at "go"
      refine rd_in (.inr (SqT.of o4)) rfl rfl ?_
      rw [if_neg Bool.false_ne_true]
      walk_at "go"
      rw [if_neg (by decide +kernel)]
      walk_at "go"
      refine ⟨by show 3 ≤ sizeLine; decide, rd_new fun p5 H5 n5 o5 s5 => ?_⟩
      have S5 : Same H H5 := L2.Same.trans S4 s5
      walk_at "go"
      refine rd_in (.inr (SqT.of o5)) rfl rfl ?_
      rw [if_neg Bool.false_ne_true]
      walk_at "go"
      rw [if_neg (by decide +kernel)]
      walk_at "go"
      refine rd_newE ?_
      walk_at "go"
      refine ⟨rfl, by show 1 ≤ 1000; decide, fun e6 d6 H6 s6 o6 x6 => ?_⟩
      have S6 : Same H H6 := L2.Same.trans S5 s6
      walk_at "go"
      refine rd_newE ?_
      walk_at "go"
      refine ⟨rfl, by show 1 ≤ 1000; decide, fun e7 d7 H7 s7 o7 x7 => ?_⟩
      have S7 : Same H H7 := L2.Same.trans S6 s7
      have o6_7 := s7 _ _ o6
      have x6_7 := s7 _ _ x6
      walk_at "go"
      refine rd_newE ?_
      walk_at "go"
      refine ⟨rfl, by show 1 ≤ 1000; decide, fun e8 d8 H8 s8 o8 x8 => ?_⟩
      have S8 : Same H H8 := L2.Same.trans S7 s8
      have o6_8 := s8 _ _ o6_7
      have x6_8 := s8 _ _ x6_7
      have o7_8 := s8 _ _ o7
      have x7_8 := s8 _ _ x7
      walk_at "go"
      refine rd_newE ?_
      walk_at "go"
      refine ⟨rfl, by show 1 ≤ 1000; decide, fun e9 d9 H9 s9 o9 x9 => ?_⟩
      have S9 : Same H H9 := L2.Same.trans S8 s9
      have o6_9 := s9 _ _ o6_8
      have x6_9 := s9 _ _ x6_8
      have o7_9 := s9 _ _ o7_8
      have x7_9 := s9 _ _ x7_8
      have o8_9 := s9 _ _ o8
      have x8_9 := s9 _ _ x8
      walk_at "go"
      refine ⟨by show 4 ≤ sizeLine; decide, rd_new fun p10 H10 n10 o10 s10 => ?_⟩
      have S10 : Same H H10 := L2.Same.trans S9 s10
      have o6_10 := s10 _ _ o6_9
      have x6_10 := s10 _ _ x6_9
      have o7_10 := s10 _ _ o7_9
      have x7_10 := s10 _ _ x7_9
      have o8_10 := s10 _ _ o8_9
      have x8_10 := s10 _ _ x8_9
      have o9_10 := s10 _ _ o9
      have x9_10 := s10 _ _ x9
      walk_at "go"
      refine ⟨by show 4 ≤ sizeLine; decide, rd_new fun p11 H11 n11 o11 s11 => ?_⟩
      have S11 : Same H H11 := L2.Same.trans S10 s11
      have o6_11 := s11 _ _ o6_10
      have x6_11 := s11 _ _ x6_10
      have o7_11 := s11 _ _ o7_10
      have x7_11 := s11 _ _ x7_10
      have o8_11 := s11 _ _ o8_10
      have x8_11 := s11 _ _ x8_10
      have o9_11 := s11 _ _ o9_10
      have x9_11 := s11 _ _ x9_10
      have o10_11 := s11 _ _ o10
      walk_at "go"
      refine ⟨.inl ⟨rfl, _, SqL.of o11⟩, ?_⟩
      walk_at "go"
      refine rd_index (ns := [3, 4, 12, 14]) (j := 3) o11 rfl (by decide) ?_
      refine rd_ixl (SqL.of o10_11) (at_of (j := 3) rfl rfl) ?_
      walk_at "go"
      refine rd_field ?_
      walk_at "go"
      refine ⟨e9, cl 14, d9, _, _, rfl, o9_11, x9_11, R.xf 14 (by decide), T.f_UnknownName_name, rfl, ?_⟩
      walk_at "go"
      refine ⟨by show 2 ≤ sizeLine; decide, rd_new fun p12 H12 n12 o12 s12 => ?_⟩
      have S12 : Same H H12 := L2.Same.trans S11 s12
      have o6_12 := s12 _ _ o6_11
      have x6_12 := s12 _ _ x6_11
      have o7_12 := s12 _ _ o7_11
      have x7_12 := s12 _ _ x7_11
      have o8_12 := s12 _ _ o8_11
      have x8_12 := s12 _ _ x8_11
      have o9_12 := s12 _ _ o9_11
      have x9_12 := s12 _ _ x9_11
      have o10_12 := s12 _ _ o10_11
      have o11_12 := s12 _ _ o11
      walk_at "go"
      refine ⟨by show 1 ≤ sizeLine; decide, rd_new fun p13 H13 n13 o13 s13 => ?_⟩
      have S13 : Same H H13 := L2.Same.trans S12 s13
      have o6_13 := s13 _ _ o6_12
      have x6_13 := s13 _ _ x6_12
      have o7_13 := s13 _ _ o7_12
      have x7_13 := s13 _ _ x7_12
      have o8_13 := s13 _ _ o8_12
      have x8_13 := s13 _ _ x8_12
      have o9_13 := s13 _ _ o9_12
      have x9_13 := s13 _ _ x9_12
      have o10_13 := s13 _ _ o10_12
      have o11_13 := s13 _ _ o11_12
      have o12_13 := s13 _ _ o12
      walk_at "go"
      refine ⟨by show 2 ≤ sizeLine; decide, rd_new fun p14 H14 n14 o14 s14 => ?_⟩
      have S14 : Same H H14 := L2.Same.trans S13 s14
      have o6_14 := s14 _ _ o6_13
      have x6_14 := s14 _ _ x6_13
      have o7_14 := s14 _ _ o7_13
      have x7_14 := s14 _ _ x7_13
      have o8_14 := s14 _ _ o8_13
      have x8_14 := s14 _ _ x8_13
      have o9_14 := s14 _ _ o9_13
      have x9_14 := s14 _ _ x9_13
      have o10_14 := s14 _ _ o10_13
      have o11_14 := s14 _ _ o11_13
      have o12_14 := s14 _ _ o12_13
      have o13_14 := s14 _ _ o13
      walk_at "go"
      exact k p14 e9 p13 (some d9) _ H14 o14 o13_14 ⟨o9_14, .inr ⟨d9, _, rfl, x9_14⟩⟩ (.cons o12_14 (.inl rfl) .nil) S14
    · walk_at "go"
      rw [if_neg (by decide)]
      walk_at "go"
      refine ⟨by show 5 ≤ sizeLine; decide, rd_new fun p1 H1 n1 o1 s1 => ?_⟩
      have S1 : Same H H1 := L2.Same.trans (Same.refl H) s1
      walk_at "go"
      refine rd_in (.inr (SqT.of o1)) rfl rfl ?_
      rw [if_neg Bool.false_ne_true]
      walk_at "go"
      rw [if_neg (by decide +kernel)]
      walk_at "go"
      refine ⟨by show 2 ≤ sizeLine; decide, rd_new fun p2 H2 n2 o2 s2 => ?_⟩
      have S2 : Same H H2 := L2.Same.trans S1 s2
      walk_at "go"
      refine rd_in (.inr (SqT.of o2)) rfl rfl ?_
      rw [if_neg Bool.false_ne_true]
      walk_at "go"
      rw [if_neg (by decide +kernel)]
      walk_at "go"
      refine ⟨by show 2 ≤ sizeLine; decide, rd_new fun p3 H3 n3 o3 s3 => ?_⟩
      have S3 : Same H H3 := L2.Same.trans S2 s3
      walk_at "go"
      refine rd_in (.inr (SqT.of o3)) rfl rfl ?_
      rw [if_neg Bool.false_ne_true]
      walk_at "go"
      rw [if_neg (by decide +kernel)]
      walk_at "go"
      refine ⟨by show 2 ≤ sizeLine; decide, rd_new fun p4 H4 n4 o4 s4 => ?_⟩
      have S4 : Same H H4 := L2.Same.trans S3 s4
      walk_at "go"
      refine rd_in (.inr (SqT.of o4)) rfl rfl ?_
      rw [if_neg Bool.false_ne_true]
      walk_at "go"
      rw [if_neg (by decide +kernel)]
      walk_at "go"
      refine ⟨by show 3 ≤ sizeLine; decide, rd_new fun p5 H5 n5 o5 s5 => ?_⟩
      have S5 : Same H H5 := L2.Same.trans S4 s5
      walk_at "go"
      refine rd_in (.inr (SqT.of o5)) rfl rfl ?_
      rw [if_neg Bool.false_ne_true]
      walk_at "go"
      rw [if_pos (by decide +kernel)]
      walk_at "go"
      refine rd_newE ?_
      walk_at "go"
      refine ⟨rfl, by show 1 ≤ 1000; decide, fun e6 d6 H6 s6 o6 x6 => ?_⟩
      have S6 : Same H H6 := L2.Same.trans S5 s6
      walk_at "go"
      refine rd_newE ?_
      walk_at "go"
      refine ⟨rfl, by show 1 ≤ 1000; decide, fun e7 d7 H7 s7 o7 x7 => ?_⟩
      have S7 : Same H H7 := L2.Same.trans S6 s7
      have o6_7 := s7 _ _ o6
      have x6_7 := s7 _ _ x6
      walk_at "go"
      refine rd_newE ?_
      walk_at "go"
      refine ⟨rfl, by show 1 ≤ 1000; decide, fun e8 d8 H8 s8 o8 x8 => ?_⟩
      have S8 : Same H H8 := L2.Same.trans S7 s8
      have o6_8 := s8 _ _ o6_7
      have x6_8 := s8 _ _ x6_7
      have o7_8 := s8 _ _ o7
      have x7_8 := s8 _ _ x7
      walk_at "go"
      refine ⟨by show 3 ≤ sizeLine; decide, rd_new fun p9 H9 n9 o9 s9 => ?_⟩
      have S9 : Same H H9 := L2.Same.trans S8 s9
      have o6_9 := s9 _ _ o6_8
      have x6_9 := s9 _ _ x6_8
      have o7_9 := s9 _ _ o7_8
      have x7_9 := s9 _ _ x7_8
      have o8_9 := s9 _ _ o8
      have x8_9 := s9 _ _ x8
      walk_at "go"
      refine ⟨by show 3 ≤ sizeLine; decide, rd_new fun p10 H10 n10 o10 s10 => ?_⟩
      have S10 : Same H H10 := L2.Same.trans S9 s10
      have o6_10 := s10 _ _ o6_9
      have x6_10 := s10 _ _ x6_9
      have o7_10 := s10 _ _ o7_9
      have x7_10 := s10 _ _ x7_9
      have o8_10 := s10 _ _ o8_9
      have x8_10 := s10 _ _ x8_9
      have o9_10 := s10 _ _ o9
      walk_at "go"
      refine ⟨.inl ⟨rfl, _, SqL.of o10⟩, ?_⟩
      walk_at "go"
      refine rd_index (ns := [13, 15, 16]) (j := 1) o10 rfl (by decide) ?_
      refine rd_ixl (SqL.of o9_10) (at_of (j := 1) rfl rfl) ?_
      walk_at "go"
      refine rd_field ?_
      walk_at "go"
      refine ⟨e7, cl 15, d7, _, _, rfl, o7_10, x7_10, R.xf 15 (by decide), T.f_InUse_document, rfl, ?_⟩
      walk_at "go"
      refine ⟨by show 2 ≤ sizeLine; decide, rd_new fun p11 H11 n11 o11 s11 => ?_⟩
      have S11 : Same H H11 := L2.Same.trans S10 s11
      have o6_11 := s11 _ _ o6_10
      have x6_11 := s11 _ _ x6_10
      have o7_11 := s11 _ _ o7_10
      have x7_11 := s11 _ _ x7_10
      have o8_11 := s11 _ _ o8_10
      have x8_11 := s11 _ _ x8_10
      have o9_11 := s11 _ _ o9_10
      have o10_11 := s11 _ _ o10
      walk_at "go"
      refine ⟨by show 1 ≤ sizeLine; decide, rd_new fun p12 H12 n12 o12 s12 => ?_⟩
      have S12 : Same H H12 := L2.Same.trans S11 s12
      have o6_12 := s12 _ _ o6_11
      have x6_12 := s12 _ _ x6_11
      have o7_12 := s12 _ _ o7_11
      have x7_12 := s12 _ _ x7_11
      have o8_12 := s12 _ _ o8_11
      have x8_12 := s12 _ _ x8_11
      have o9_12 := s12 _ _ o9_11
      have o10_12 := s12 _ _ o10_11
      have o11_12 := s12 _ _ o11
      walk_at "go"
      refine ⟨by show 2 ≤ sizeLine; decide, rd_new fun p13 H13 n13 o13 s13 => ?_⟩
      have S13 : Same H H13 := L2.Same.trans S12 s13
      have o6_13 := s13 _ _ o6_12
      have x6_13 := s13 _ _ x6_12
      have o7_13 := s13 _ _ o7_12
      have x7_13 := s13 _ _ x7_12
      have o8_13 := s13 _ _ o8_12
      have x8_13 := s13 _ _ x8_12
      have o9_13 := s13 _ _ o9_12
      have o10_13 := s13 _ _ o10_12
      have o11_13 := s13 _ _ o11_12
      have o12_13 := s13 _ _ o12
      walk_at "go"
      exact k p13 e7 p12 (some d7) _ H13 o13 o12_13 ⟨o7_13, .inr ⟨d7, _, rfl, x7_13⟩⟩ (.cons o11_13 (.inl rfl) .nil) S13
    · walk_at "go"
      rw [if_neg (by decide)]
      walk_at "go"
      refine ⟨by show 5 ≤ sizeLine; decide, rd_new fun p1 H1 n1 o1 s1 => ?_⟩
      have S1 : Same H H1 := L2.Same.trans (Same.refl H) s1
      walk_at "go"
      refine rd_in (.inr (SqT.of o1)) rfl rfl ?_
      rw [if_neg Bool.false_ne_true]
      walk_at "go"
      rw [if_neg (by decide +kernel)]
      walk_at "go"
      refine ⟨by show 2 ≤ sizeLine; decide, rd_new fun p2 H2 n2 o2 s2 => ?_⟩
      have S2 : Same H H2 := L2.Same.trans S1 s2
      walk_at "go"
      refine rd_in (.inr (SqT.of o2)) rfl rfl ?_
      rw [if_neg Bool.false_ne_true]
      walk_at "go"
      rw [if_neg (by decide +kernel)]
      walk_at "go"
      refine ⟨by show 2 ≤ sizeLine; decide, rd_new fun p3 H3 n3 o3 s3 => ?_⟩
      have S3 : Same H H3 := L2.Same.trans S2 s3
      walk_at "go"
      refine rd_in (.inr (SqT.of o3)) rfl rfl ?_
      rw [if_neg Bool.false_ne_true]
      walk_at "go"
      rw [if_neg (by decide +kernel)]
      walk_at "go"
      refine ⟨by show 2 ≤ sizeLine; decide, rd_new fun p4 H4 n4 o4 s4 => ?_⟩
      have S4 : Same H H4 := L2.Same.trans S3 s4
      walk_at "go"
      refine rd_in (.inr (SqT.of o4)) rfl rfl ?_
      rw [if_neg Bool.false_ne_true]
      walk_at "go"
      rw [if_neg (by decide +kernel)]
      walk_at "go"
      refine ⟨by show 3 ≤ sizeLine; decide, rd_new fun p5 H5 n5 o5 s5 => ?_⟩
      have S5 : Same H H5 := L2.Same.trans S4 s5
      walk_at "go"
      refine rd_in (.inr (SqT.of o5)) rfl rfl ?_
      rw [if_neg Bool.false_ne_true]
      walk_at "go"
      rw [if_pos (by decide +kernel)]
      walk_at "go"
      refine rd_newE ?_
      walk_at "go"
      refine ⟨rfl, by show 1 ≤ 1000; decide, fun e6 d6 H6 s6 o6 x6 => ?_⟩
      have S6 : Same H H6 := L2.Same.trans S5 s6
      walk_at "go"
      refine rd_newE ?_
      walk_at "go"
      refine ⟨rfl, by show 1 ≤ 1000; decide, fun e7 d7 H7 s7 o7 x7 => ?_⟩
      have S7 : Same H H7 := L2.Same.trans S6 s7
      have o6_7 := s7 _ _ o6
      have x6_7 := s7 _ _ x6
      walk_at "go"
      refine rd_newE ?_
      walk_at "go"
      refine ⟨rfl, by show 1 ≤ 1000; decide, fun e8 d8 H8 s8 o8 x8 => ?_⟩
      have S8 : Same H H8 := L2.Same.trans S7 s8
      have o6_8 := s8 _ _ o6_7
      have x6_8 := s8 _ _ x6_7
      have o7_8 := s8 _ _ o7
      have x7_8 := s8 _ _ x7
      walk_at "go"
      refine ⟨by show 3 ≤ sizeLine; decide, rd_new fun p9 H9 n9 o9 s9 => ?_⟩
      have S9 : Same H H9 := L2.Same.trans S8 s9
      have o6_9 := s9 _ _ o6_8
      have x6_9 := s9 _ _ x6_8
      have o7_9 := s9 _ _ o7_8
      have x7_9 := s9 _ _ x7_8
      have o8_9 := s9 _ _ o8
      have x8_9 := s9 _ _ x8
      walk_at "go"
      refine ⟨by show 3 ≤ sizeLine; decide, rd_new fun p10 H10 n10 o10 s10 => ?_⟩
      have S10 : Same H H10 := L2.Same.trans S9 s10
      have o6_10 := s10 _ _ o6_9
      have x6_10 := s10 _ _ x6_9
      have o7_10 := s10 _ _ o7_9
      have x7_10 := s10 _ _ x7_9
      have o8_10 := s10 _ _ o8_9
      have x8_10 := s10 _ _ x8_9
      have o9_10 := s10 _ _ o9
      walk_at "go"
      refine ⟨.inl ⟨rfl, _, SqL.of o10⟩, ?_⟩
      walk_at "go"
      refine rd_index (ns := [13, 15, 16]) (j := 2) o10 rfl (by decide) ?_
      refine rd_ixl (SqL.of o9_10) (at_of (j := 2) rfl rfl) ?_
      walk_at "go"
      refine rd_field ?_
      walk_at "go"
      refine ⟨e8, cl 16, d8, _, _, rfl, o8_10, x8_10, R.xf 16 (by decide), T.f_NameInUse_document, rfl, ?_⟩
      walk_at "go"
      refine ⟨by show 2 ≤ sizeLine; decide, rd_new fun p11 H11 n11 o11 s11 => ?_⟩
      have S11 : Same H H11 := L2.Same.trans S10 s11
      have o6_11 := s11 _ _ o6_10
      have x6_11 := s11 _ _ x6_10
      have o7_11 := s11 _ _ o7_10
      have x7_11 := s11 _ _ x7_10
      have o8_11 := s11 _ _ o8_10
      have x8_11 := s11 _ _ x8_10
      have o9_11 := s11 _ _ o9_10
      have o10_11 := s11 _ _ o10
      walk_at "go"
      refine ⟨by show 1 ≤ sizeLine; decide, rd_new fun p12 H12 n12 o12 s12 => ?_⟩
      have S12 : Same H H12 := L2.Same.trans S11 s12
      have o6_12 := s12 _ _ o6_11
      have x6_12 := s12 _ _ x6_11
      have o7_12 := s12 _ _ o7_11
      have x7_12 := s12 _ _ x7_11
      have o8_12 := s12 _ _ o8_11
      have x8_12 := s12 _ _ x8_11
      have o9_12 := s12 _ _ o9_11
      have o10_12 := s12 _ _ o10_11
      have o11_12 := s12 _ _ o11
      walk_at "go"
      refine ⟨by show 2 ≤ sizeLine; decide, rd_new fun p13 H13 n13 o13 s13 => ?_⟩
      have S13 : Same H H13 := L2.Same.trans S12 s13
      have o6_13 := s13 _ _ o6_12
      have x6_13 := s13 _ _ x6_12
      have o7_13 := s13 _ _ o7_12
      have x7_13 := s13 _ _ x7_12
      have o8_13 := s13 _ _ o8_12
      have x8_13 := s13 _ _ x8_12
      have o9_13 := s13 _ _ o9_12
      have o10_13 := s13 _ _ o10_12
      have o11_13 := s13 _ _ o11_12
      have o12_13 := s13 _ _ o12
      walk_at "go"
      exact k p13 e8 p12 (some d8) _ H13 o13 o12_13 ⟨o8_13, .inr ⟨d8, _, rfl, x8_13⟩⟩ (.cons o11_13 (.inl rfl) .nil) S13
    · walk_at "go"
      rw [if_neg (by decide)]
      walk_at "go"
      refine ⟨by show 5 ≤ sizeLine; decide, rd_new fun p1 H1 n1 o1 s1 => ?_⟩
      have S1 : Same H H1 := L2.Same.trans (Same.refl H) s1
      walk_at "go"
      refine rd_in (.inr (SqT.of o1)) rfl rfl ?_
      rw [if_neg Bool.false_ne_true]
      walk_at "go"
      rw [if_pos (by decide +kernel)]
      walk_at "go"
      refine rd_exv0 fun e2 H2 s2 o2 => ?_
      have S2 : Same H H2 := L2.Same.trans S1 s2
      walk_at "go"
      refine rd_exv0 fun e3 H3 s3 o3 => ?_
      have S3 : Same H H3 := L2.Same.trans S2 s3
      have o2_3 := s3 _ _ o2
      walk_at "go"
      refine rd_exv0 fun e4 H4 s4 o4 => ?_
      have S4 : Same H H4 := L2.Same.trans S3 s4
      have o2_4 := s4 _ _ o2_3
      have o3_4 := s4 _ _ o3
      walk_at "go"
      refine rd_exv0 fun e5 H5 s5 o5 => ?_
      have S5 : Same H H5 := L2.Same.trans S4 s5
      have o2_5 := s5 _ _ o2_4
      have o3_5 := s5 _ _ o3_4
      have o4_5 := s5 _ _ o4
      walk_at "go"
      refine rd_exv0 fun e6 H6 s6 o6 => ?_
      have S6 : Same H H6 := L2.Same.trans S5 s6
      have o2_6 := s6 _ _ o2_5
      have o3_6 := s6 _ _ o3_5
      have o4_6 := s6 _ _ o4_5
      have o5_6 := s6 _ _ o5
      walk_at "go"
      refine ⟨by show 5 ≤ sizeLine; decide, rd_new fun p7 H7 n7 o7 s7 => ?_⟩
      have S7 : Same H H7 := L2.Same.trans S6 s7
      have o2_7 := s7 _ _ o2_6
      have o3_7 := s7 _ _ o3_6
      have o4_7 := s7 _ _ o4_6
      have o5_7 := s7 _ _ o5_6
      have o6_7 := s7 _ _ o6
      walk_at "go"
      refine ⟨by show 5 ≤ sizeLine; decide, rd_new fun p8 H8 n8 o8 s8 => ?_⟩
      have S8 : Same H H8 := L2.Same.trans S7 s8
      have o2_8 := s8 _ _ o2_7
      have o3_8 := s8 _ _ o3_7
      have o4_8 := s8 _ _ o4_7
      have o5_8 := s8 _ _ o5_7
      have o6_8 := s8 _ _ o6_7
      have o7_8 := s8 _ _ o7
      walk_at "go"
      refine ⟨.inl ⟨rfl, _, SqL.of o8⟩, ?_⟩
      walk_at "go"
      refine rd_index (ns := [5, 8, 9, 17, 18]) (j := 3) o8 rfl (by decide) ?_
      refine rd_ixl (SqL.of o7_8) (at_of (j := 3) rfl rfl) ?_
      walk_at "go"
      refine ⟨by show 0 ≤ sizeLine; decide, rd_new fun p9 H9 n9 o9 s9 => ?_⟩
      have S9 : Same H H9 := L2.Same.trans S8 s9
      have o2_9 := s9 _ _ o2_8
      have o3_9 := s9 _ _ o3_8
      have o4_9 := s9 _ _ o4_8
      have o5_9 := s9 _ _ o5_8
      have o6_9 := s9 _ _ o6_8
      have o7_9 := s9 _ _ o7_8
      have o8_9 := s9 _ _ o8
      walk_at "go"
      refine ⟨by show 2 ≤ sizeLine; decide, rd_new fun p10 H10 n10 o10 s10 => ?_⟩
      have S10 : Same H H10 := L2.Same.trans S9 s10
      have o2_10 := s10 _ _ o2_9
      have o3_10 := s10 _ _ o3_9
      have o4_10 := s10 _ _ o4_9
      have o5_10 := s10 _ _ o5_9
      have o6_10 := s10 _ _ o6_9
      have o7_10 := s10 _ _ o7_9
      have o8_10 := s10 _ _ o8_9
      have o9_10 := s10 _ _ o9
      walk_at "go"
      exact k p10 e5 p9 none _ H10 o10 o9_10 ⟨o5_10, .inl rfl⟩ .nil S10
    · walk_at "go"
      rw [if_neg (by decide)]
      walk_at "go"
      refine ⟨by show 5 ≤ sizeLine; decide, rd_new fun p1 H1 n1 o1 s1 => ?_⟩
      have S1 : Same H H1 := L2.Same.trans (Same.refl H) s1
      walk_at "go"
      refine rd_in (.inr (SqT.of o1)) rfl rfl ?_
      rw [if_neg Bool.false_ne_true]
      walk_at "go"
      rw [if_pos (by decide +kernel)]
      walk_at "go"
      refine rd_exv0 fun e2 H2 s2 o2 => ?_
      have S2 : Same H H2 := L2.Same.trans S1 s2
      walk_at "go"
      refine rd_exv0 fun e3 H3 s3 o3 => ?_
      have S3 : Same H H3 := L2.Same.trans S2 s3
      have o2_3 := s3 _ _ o2
      walk_at "go"
      refine rd_exv0 fun e4 H4 s4 o4 => ?_
      have S4 : Same H H4 := L2.Same.trans S3 s4
      have o2_4 := s4 _ _ o2_3
      have o3_4 := s4 _ _ o3
      walk_at "go"
      refine rd_exv0 fun e5 H5 s5 o5 => ?_
      have S5 : Same H H5 := L2.Same.trans S4 s5
      have o2_5 := s5 _ _ o2_4
      have o3_5 := s5 _ _ o3_4
      have o4_5 := s5 _ _ o4
      walk_at "go"
      refine rd_exv0 fun e6 H6 s6 o6 => ?_
      have S6 : Same H H6 := L2.Same.trans S5 s6
      have o2_6 := s6 _ _ o2_5
      have o3_6 := s6 _ _ o3_5
      have o4_6 := s6 _ _ o4_5
      have o5_6 := s6 _ _ o5
      walk_at "go"
      refine ⟨by show 5 ≤ sizeLine; decide, rd_new fun p7 H7 n7 o7 s7 => ?_⟩
      have S7 : Same H H7 := L2.Same.trans S6 s7
      have o2_7 := s7 _ _ o2_6
      have o3_7 := s7 _ _ o3_6
      have o4_7 := s7 _ _ o4_6
      have o5_7 := s7 _ _ o5_6
      have o6_7 := s7 _ _ o6
      walk_at "go"
      refine ⟨by show 5 ≤ sizeLine; decide, rd_new fun p8 H8 n8 o8 s8 => ?_⟩
      have S8 : Same H H8 := L2.Same.trans S7 s8
      have o2_8 := s8 _ _ o2_7
      have o3_8 := s8 _ _ o3_7
      have o4_8 := s8 _ _ o4_7
      have o5_8 := s8 _ _ o5_7
      have o6_8 := s8 _ _ o6_7
      have o7_8 := s8 _ _ o7
      walk_at "go"
      refine ⟨.inl ⟨rfl, _, SqL.of o8⟩, ?_⟩
      walk_at "go"
      refine rd_index (ns := [5, 8, 9, 17, 18]) (j := 4) o8 rfl (by decide) ?_
      refine rd_ixl (SqL.of o7_8) (at_of (j := 4) rfl rfl) ?_
      walk_at "go"
      refine ⟨by show 0 ≤ sizeLine; decide, rd_new fun p9 H9 n9 o9 s9 => ?_⟩
      have S9 : Same H H9 := L2.Same.trans S8 s9
      have o2_9 := s9 _ _ o2_8
      have o3_9 := s9 _ _ o3_8
      have o4_9 := s9 _ _ o4_8
      have o5_9 := s9 _ _ o5_8
      have o6_9 := s9 _ _ o6_8
      have o7_9 := s9 _ _ o7_8
      have o8_9 := s9 _ _ o8
      walk_at "go"
      refine ⟨by show 2 ≤ sizeLine; decide, rd_new fun p10 H10 n10 o10 s10 => ?_⟩
      have S10 : Same H H10 := L2.Same.trans S9 s10
      have o2_10 := s10 _ _ o2_9
      have o3_10 := s10 _ _ o3_9
      have o4_10 := s10 _ _ o4_9
      have o5_10 := s10 _ _ o5_9
      have o6_10 := s10 _ _ o6_9
      have o7_10 := s10 _ _ o7_9
      have o8_10 := s10 _ _ o8_9
      have o9_10 := s10 _ _ o9
      walk_at "go"
      exact k p10 e6 p9 none _ H10 o10 o9_10 ⟨o6_10, .inl rfl⟩ .nil S10
end

end Cs
namespace Cs
open PySem L2
open PyProof.Rows (envOfC)
/-! data beside the source -/
theorem at_mem {xs : List V} {i : Int} (h0 : 0 ≤ i) (h1 : i < xs.length) : ∃ v, atI xs i = some v ∧ v ∈ xs := by
  obtain ⟨j, rfl⟩ : ∃ j : Nat, i = (j : Int) := ⟨i.toNat, by omega⟩
  have hj : j < xs.length := by omega
  exact ⟨xs[j], atI_nat (List.getElem?_eq_getElem hj), List.getElem_mem hj⟩
theorem hid_at {a b : Addr} {H : Hp} {o : HO} (n : b ≠ a) (e : H b = some o) : hid a H b = some o := by rw [hid_ne n]; exact e
abbrev DV (K : PySem.W.Frag) (a : Addr) (H : Hp) (v : V) (d : PyData) : Prop := Dp K (hid a H) v d
theorem DV.tup {K : PySem.W.Frag} {a p : Addr} {H : Hp} {xs : List V} {ds : List PyData} (n : p ≠ a) (e : H p = some (.tup xs)) (h : DpAll K (hid a H) xs ds) : DV K a H (.ref p) (.tuple ds) := L2.Dp.tup (SqT.of (hid_at n e)) h
theorem DV.lst {K : PySem.W.Frag} {a p : Addr} {H : Hp} {xs : List V} {ds : List PyData} (n : p ≠ a) (e : H p = some (.lst xs)) (h : DpAll K (hid a H) xs ds) : DV K a H (.ref p) (.list ds) := L2.Dp.lst (SqL.of (hid_at n e)) h
theorem DV.kp {K : PySem.W.Frag} {a : Addr} {H H' : Hp} {v : V} {d : PyData} (k : Kp a H H') (h : DV K a H v d) : DV K a H' v d := Dp.mono k h
theorem DV.at {K : PySem.W.Frag} {a : Addr} {H : Hp} {v : V} {d : PyData} (h : DV K a H v d) : Dp K H v d := Dp.mono hid_le h
theorem DVs.kp {K : PySem.W.Frag} {a : Addr} {H H' : Hp} {v : List V} {d : List PyData} (k : Kp a H H') (h : DpAll K (hid a H) v d) : DpAll K (hid a H') v d := DpAll.mono k h
/-- a new object, beside the source and what is kept -/
theorem rd_newK {a : Addr} {n : Nat} {H : Hp} {o : HO} {R : Addr → Hp → Prop} (hS : Src a n H) (k : ∀ p H', p ≠ a → H p = none → H' p = some o → Src a n H' → Kp a H H' → R p H') : New H o R := fun p hp =>
  k p _ (hS.ne hp) hp upd_same (hS.lay (hS.ne hp)) (Kp.refl.lay hp)
def dSet (cs : List Nat) : PyData := .tuple [.str (Str.ofString "set"), .str (S cs)]
theorem at_c {α : Type} {xs : List α} {z : Int} {j : Nat} {v : α} (e : z = 0 + (j : Int)) (h : xs[j]? = some v) : atI xs z = some v := by
  rw [e, Int.zero_add]
  exact atI_nat h
/-! data without lists: tuples that stand -/
def TS (H H' : Hp) : Prop := ∀ b xs, H b = some (.tup xs) → H' b = some (.tup xs)
theorem TS.refl {H : Hp} : TS H H := fun _ _ e => e
theorem TS.trans {H H1 H2 : Hp} (x : TS H H1) (y : TS H1 H2) : TS H H2 := fun b xs e => y b xs (x b xs e)
theorem TS.same {H H' : Hp} (s : Same H H') : TS H H' := fun b xs e => s b _ e
theorem TS.kp {a : Addr} {n : Nat} {H H' : Hp} (hS : Src a n H) (k : Kp a H H') : TS H H' := fun b xs e => by
  refine k.at (fun z => ?_) e
  obtain ⟨_, _, _, q, _⟩ := hS
  rw [z, q] at e; cases e
theorem TS.lay {p : Addr} {H : Hp} {o : HO} (n : H p = none) : TS H (upd H p o) := TS.same (Same.lay n)
theorem TS.set {p : Addr} {H : Hp} {xs : List V} {o : HO} (e : H p = some (.lst xs)) : TS H (upd H p o) := fun b ys q => by
  rw [upd_ne (fun z => by rw [z, e] at q; cases q)]; exact q
mutual
inductive Tp (H : Hp) : V → PyData → Prop
  | non : Tp H .non .none
  | bl (b : Bool) : Tp H (.bl b) (.bool b)
  | int (i : Int) : Tp H (.int i) (.int i)
  | str (x : Str) : Tp H (.str x) (.str x)
  | tup {a : Addr} {xs : List V} {ds : List PyData} : H a = some (.tup xs) → TpAll H xs ds → Tp H (.ref a) (.tuple ds)
inductive TpAll (H : Hp) : List V → List PyData → Prop
  | nil : TpAll H [] []
  | cons {v : V} {vs : List V} {d : PyData} {ds : List PyData} : Tp H v d → TpAll H vs ds → TpAll H (v :: vs) (d :: ds)
end
mutual
theorem Tp.ts {H H' : Hp} (s : TS H H') : ∀ {v : V} {d : PyData}, Tp H v d → Tp H' v d
  | _, _, .non => .non
  | _, _, .bl b => .bl b
  | _, _, .int i => .int i
  | _, _, .str x => .str x
  | _, _, .tup h t => .tup (s _ _ h) (TpAll.ts s t)
theorem TpAll.ts {H H' : Hp} (s : TS H H') : ∀ {vs : List V} {ds : List PyData}, TpAll H vs ds → TpAll H' vs ds
  | _, _, .nil => .nil
  | _, _, .cons h t => .cons (Tp.ts s h) (TpAll.ts s t)
end
mutual
theorem Tp.dp {K : PySem.W.Frag} {H : Hp} : ∀ {v : V} {d : PyData}, Tp H v d → Dp K H v d
  | _, _, .non => .non
  | _, _, .bl b => .bl b
  | _, _, .int i => .int i
  | _, _, .str x => .str x
  | _, _, .tup h t => .tup (SqT.of h) (TpAll.dp t)
theorem TpAll.dp {K : PySem.W.Frag} {H : Hp} : ∀ {vs : List V} {ds : List PyData}, TpAll H vs ds → DpAll K H vs ds
  | _, _, .nil => .nil
  | _, _, .cons h t => .cons (Tp.dp h) (TpAll.dp t)
end
theorem TS.hid {a : Addr} {n : Nat} {H : Hp} (hS : Src a n H) : TS H (Cs.hid a H) := fun b xs e => by
  rw [hid_ne (fun z => ?_)]; exact e
  obtain ⟨_, _, _, q, _⟩ := hS
  rw [z, q] at e; cases e
theorem Tp.dv {K : PySem.W.Frag} {a : Addr} {n : Nat} {H : Hp} {v : V} {d : PyData} (hS : Src a n H) (h : Tp H v d) : DV K a H v d := Tp.dp (Tp.ts (TS.hid hS) h)
theorem TpAll.length {H : Hp} : ∀ {vs : List V} {ds : List PyData}, TpAll H vs ds → vs.length = ds.length
  | _, _, .nil => rfl
  | _, _, .cons _ t => by rw [List.length_cons, List.length_cons, TpAll.length t]
theorem TpAll.app {H : Hp} : ∀ {vs ws : List V} {ds es : List PyData}, TpAll H vs ds → TpAll H ws es → TpAll H (vs ++ ws) (ds ++ es)
  | _, _, _, _, .nil, t => t
  | _, _, _, _, .cons h t, u => .cons h (TpAll.app t u)
theorem TpAll.drop {H : Hp} : ∀ {vs : List V} {ds : List PyData} (n : Nat), TpAll H vs ds → TpAll H (vs.drop n) (ds.drop n)
  | _, _, 0, t => t
  | _, _, _ + 1, .nil => .nil
  | _, _, n + 1, .cons _ t => TpAll.drop n t

end Cs
namespace Cs
open PySem L2
open PyProof.Rows (envOfC)
/-! one of fourteen values, equal to itself -/
def V14 (d : PyData) : Prop := d.eqv d = true ∧ SeqAt.shaped d = true
def sp_value (K : PySem.W.Frag) : Sp := fun vs H Q _ => ∃ (a : Addr) (n : Nat), vs = [.ref a] ∧ Src a (n + 1) H ∧ ∀ (v : V) (d : PyData) (H' : Hp), V14 d → DV K a H' v d → Src a n H' → Kp a H H' → Q v H'
theorem use_value {K : PySem.W.Frag} {a : Addr} {n : Nat} {H : Hp} {Q : VK} {E : XK} (hS : Src a (n + 1) H) (k : ∀ (v : V) (d : PyData) (H' : Hp), V14 d → DV K a H' v d → Src a n H' → Kp a H H' → Q v H') : sp_value K [.ref a] H Q E := ⟨a, n, rfl, hS, k⟩
section
variable {P : Program} {w : World} {K : PySem.W.Frag} {mg : Str → Option Value} {base : Heap}
theorem ok_value (G__law_draw : Cal P w K mg base 1 "_law_draw" ["_law_source_here", "_law_many"] sp_draw) (F : At K mg "_law_value" s__law_value ["_law_source_here"]) : Cal P w K mg base 2 "_law_value" ["_law_source_here"] (sp_value K) := by
  refine F.ok sc__law_value (fun vs H Q E h => ?_) (fun f cdv A outer s H vs Q E hr h => ?_)
  · obtain ⟨a, n, rfl, _⟩ := h
    rfl
  · obtain ⟨a, n, rfl, hS, k⟩ := h
    refine ⟨_, (pss_cons (ps_set (i := 1) sc__law_value.nd rfl (Or.inl rfl) (pe_lst (pa_cons pe_str (pa_cons pe_str (pa_cons pe_int (pa_cons (pe_un un_neg pe_int) (pa_cons (pe_op op_pow pe_int pe_int) (pa_cons pe_non (pa_cons pe_bl (pa_cons pe_bl (pa_cons (pe_tup (pa_cons pe_str pa_nil)) (pa_cons (pe_lst pa_nil) (pa_cons (pe_lst (pa_cons pe_int pa_nil)) (pa_cons (pe_tup (pa_cons pe_int (pa_cons pe_int pa_nil))) (pa_cons pe_str (pa_cons pe_int pa_nil))))))))))))))))
    (pss_one (ps_ret (pe_ix (ix_listK (K := K) (by rfl)) (pv 1) (pe_c G__law_draw (hr.mono (by first | decide | omega)) (pa_cons (pv 0) (pa_cons pe_int pa_nil))) (fun _ _ => rfl))))), ?_⟩
    walk_at "go"
    refine ⟨1, rfl, ?_⟩
    walk_at "go"
    refine rd_i (C := CPow) (a := 10) (b := 20) ⟨by decide, by decide, by decide⟩ ?_
    walk_at "go"
    refine ⟨by show 1 ≤ sizeLine; decide, rd_newK hS fun p1 H1 pa1 hp1 eP1 hS1 k1 => ?_⟩
    walk_at "go"
    refine ⟨by show 0 ≤ sizeLine; decide, rd_newK hS1 fun p2 H2 pa2 hp2 eP2 hS2 k2 => ?_⟩
    walk_at "go"
    refine ⟨by show 1 ≤ sizeLine; decide, rd_newK hS2 fun p3 H3 pa3 hp3 eP3 hS3 k3 => ?_⟩
    walk_at "go"
    refine ⟨by show 2 ≤ sizeLine; decide, rd_newK hS3 fun p4 H4 pa4 hp4 eP4 hS4 k4 => ?_⟩
    walk_at "go"
    refine ⟨by show 14 ≤ sizeLine; decide, rd_newK hS4 fun p5 H5 pa5 hp5 eP5 hS5 k5 => ?_⟩
    walk_at "go"
    refine use_draw (n := n) hS5 (by decide) (by decide) fun z H6 z0 z1 hS6 k6 => ?_
    walk_at "go"
    obtain ⟨v, hv, hm⟩ := at_mem z0 (show z < (([V.str (Str.ofString "a"), .str (Str.ofString ""), .int 0, .int (-1), .int (10 ^ 20), .non, .bl true, .bl false, .ref p1, .ref p2, .ref p3, .ref p4, .str (Str.ofString "position"), .int 7].length : Nat) : Int) from z1)
    refine rd_ixl (SqL.of (k6.at pa5 eP5)) hv ?_
    walk_at "go"
    have e1 := (k2.trans (k3.trans (k4.trans (k5.trans k6)))).at pa1 eP1
    have e2 := (k3.trans (k4.trans (k5.trans k6))).at pa2 eP2
    have e3 := (k4.trans (k5.trans k6)).at pa3 eP3
    have e4 := (k5.trans k6).at pa4 eP4
    obtain ⟨d, g, dv⟩ : ∃ d, V14 d ∧ DV K a H6 v d := by
      simp only [List.mem_cons, List.not_mem_nil, or_false] at hm
      rcases hm with rfl | rfl | rfl | rfl | rfl | rfl | rfl | rfl | rfl | rfl | rfl | rfl | rfl | rfl
      · exact ⟨_, ⟨by decide +kernel, by decide +kernel⟩, .str _⟩
      · exact ⟨_, ⟨by decide +kernel, by decide +kernel⟩, .str _⟩
      · exact ⟨_, ⟨by decide +kernel, by decide +kernel⟩, .int _⟩
      · exact ⟨_, ⟨by decide +kernel, by decide +kernel⟩, .int _⟩
      · exact ⟨_, ⟨by decide +kernel, by decide +kernel⟩, .int _⟩
      · exact ⟨_, ⟨by decide +kernel, by decide +kernel⟩, .non⟩
      · exact ⟨_, ⟨by decide +kernel, by decide +kernel⟩, .bl _⟩
      · exact ⟨_, ⟨by decide +kernel, by decide +kernel⟩, .bl _⟩
      · exact ⟨.tuple [.str (Str.ofString "a")], ⟨by decide +kernel, by decide +kernel⟩, DV.tup pa1 e1 (.cons (.str _) .nil)⟩
      · exact ⟨.list [], ⟨by decide +kernel, by decide +kernel⟩, DV.lst pa2 e2 .nil⟩
      · exact ⟨.list [.int 1], ⟨by decide +kernel, by decide +kernel⟩, DV.lst pa3 e3 (.cons (.int _) .nil)⟩
      · exact ⟨.tuple [.int 0, .int 1], ⟨by decide +kernel, by decide +kernel⟩, DV.tup pa4 e4 (.cons (.int _) (.cons (.int _) .nil))⟩
      · exact ⟨_, ⟨by decide +kernel, by decide +kernel⟩, .str _⟩
      · exact ⟨_, ⟨by decide +kernel, by decide +kernel⟩, .int _⟩
    exact k v d H6 g dv hS6 ((k1.trans (k2.trans (k3.trans (k4.trans k5)))).trans k6)
end

end Cs
namespace Cs
open PySem L2
open PyProof.Rows (envOfC)
/-! the source of draws for one turn: a new list -/
def sp_source (K : PySem.W.Frag) : Sp := fun vs H Q _ => ∃ (a : Addr) (ns : List Int) (k : Int), vs = [.ref a, .int k] ∧ SqL K H a (ns.map V.int) ∧ 0 ≤ k ∧ k < 1000 ∧ ∀ (p : Addr) (H' : Hp), H p = none → Same H H' → Src p (2 ^ 39) H' → Q (.ref p) H'
theorem at_int {ns : List Int} {k : Int} (h0 : 0 ≤ k) (h1 : 0 < ns.length) : ∃ c : Int, atI (ns.map V.int) (k % (((ns.map V.int).length : Nat) : Int)) = some (.int c) := by
  have hl : (ns.map V.int).length = ns.length := List.length_map ..
  have p0 : 0 ≤ k % ((ns.length : Nat) : Int) := Int.emod_nonneg _ (by omega)
  have p1 : k % ((ns.length : Nat) : Int) < ns.length := Int.emod_lt_of_pos _ (by omega)
  obtain ⟨j, hj⟩ : ∃ j : Nat, k % ((ns.length : Nat) : Int) = (j : Int) := ⟨(k % ((ns.length : Nat) : Int)).toNat, by omega⟩
  have hj2 : j < ns.length := by omega
  refine ⟨ns[j], ?_⟩
  rw [hl, hj]
  exact atI_nat (by rw [List.getElem?_map, List.getElem?_eq_getElem hj2]; rfl)
section
variable {P : Program} {w : World} {K : PySem.W.Frag} {mg : Str → Option Value} {base : Heap}
theorem ok_source (B : Blt mg) (F : At K mg "_law_source" s__law_source ["_law_script", "_law_k"]) : Cal P w K mg base 1 "_law_source" ["_law_script", "_law_k"] (sp_source K) := by
  refine F.ok sc__law_source (fun vs H Q E h => ?_) (fun f cdv A outer s H vs Q E hr h => ?_)
  · obtain ⟨a, ns, k, rfl, _⟩ := h
    rfl
  · obtain ⟨a, ns, k, rfl, hS, k0, k1, kk⟩ := h
    refine ⟨_, (pss_cons (ps_set (i := 2) sc__law_source.nd rfl (Or.inl rfl) pe_int)
    (pss_cons (ps_set (i := 3) sc__law_source.nd rfl (Or.inl rfl) pe_int)
    (pss_cons (ps_if (pt_cmpR op_gt (pe_callB (call_len_seqK (K := K) (by rfl)) (by rfl) B.len PySem.boot_len (pa_cons (pv 0) pa_nil)) pe_int (nomark _))
    (pss_one (ps_set (i := 2) sc__law_source.nd rfl (Or.inl rfl) (pe_ix (ix_listK (K := K) (by rfl)) (pv 0) (pe_op op_mod (pv 1) (pe_callB (call_len_seqK (K := K) (by rfl)) (by rfl) B.len PySem.boot_len (pa_cons (pv 0) pa_nil))) (fun _ _ => rfl))))
    pss_nil)
    (pss_cons (ps_if (PW.pt (pw_and (pt_cmpR op_lt (pv 1) (pe_callB (call_len_seqK (K := K) (by rfl)) (by rfl) B.len PySem.boot_len (pa_cons (pv 0) pa_nil)) (nomark _)) (pw_and1 (pt_cmpR op_ge (pv 2) (pe_op op_pow pe_int pe_int) (nomark _)))))
    (pss_one (ps_set (i := 3) sc__law_source.nd rfl (Or.inl rfl) (pv 2)))
    pss_nil)
    (pss_one (ps_ret (pe_lst (pa_cons (pv 3) (pa_cons (pe_op op_add (pe_op op_add (pe_op op_mod (pv 2) pe_int) (pe_op op_mul pe_int (pv 1))) pe_int) (pa_cons pe_int pa_nil)))))))))), ?_⟩
    have fin : ∀ d c : Int, (c % 2147483647 + 7919000 * k + 104729) < 2 ^ 40 ∧ ∀ p, H p = none → Q (.ref p) (upd H p (.lst [.int d, .int (c % 2147483647 + 7919000 * k + 104729), .int 0])) := fun d c => by
      have h0 : 0 ≤ c % 2147483647 := Int.emod_nonneg _ (by decide)
      have h1 : c % 2147483647 < 2147483647 := Int.emod_lt_of_pos _ (by decide)
      refine ⟨by omega, fun p hp => kk p _ hp (fun b o e => by rw [upd_ne (ne_of_none e hp)]; exact e) ⟨d, _, 0, upd_same, by omega, by omega, by omega, by omega⟩⟩
    walk_at "go"
    refine rd_len (.inl hS) ?_
    walk_at "go"
    refine ite2 (fun hd => ?_) (fun hd => ?_)
    · walk_at "go"
      refine rd_len (.inl hS) ?_
      have hl : 0 < ns.length := by
        have := of_decide_eq_true hd
        rw [List.length_map] at this
        omega
      refine rd_i (by show (0 : Int) < _; rw [List.length_map]; omega) ?_
      obtain ⟨c, hc⟩ := at_int k0 hl
      refine rd_ixl hS hc ?_
      walk_at "go"
      refine rd_len (.inl hS) ?_
      walk_at "go"
      refine ite2 (fun hd2 => ?_) (fun hd2 => ?_)
      · walk_at "go"
        refine rd_i ⟨by decide, by decide, by decide⟩ ?_
        walk_at "go"
        refine ite2 (fun hd3 => ?_) (fun hd3 => ?_)
        · walk_at "go"
          refine rd_i (by decide) ?_
          walk_at "go"
          refine rd_i (.inl (by decide)) ?_
          walk_at "go"
          exact ⟨by show 3 ≤ sizeLine; decide, (fin _ _).2⟩
        · walk_at "go"
          refine rd_i (by decide) ?_
          walk_at "go"
          refine rd_i (.inl (by decide)) ?_
          walk_at "go"
          exact ⟨by show 3 ≤ sizeLine; decide, (fin _ _).2⟩
      · walk_at "go"
        refine rd_i (by decide) ?_
        walk_at "go"
        refine rd_i (.inl (by decide)) ?_
        walk_at "go"
        exact ⟨by show 3 ≤ sizeLine; decide, (fin _ _).2⟩
    · walk_at "go"
      refine rd_len (.inl hS) ?_
      walk_at "go"
      refine ite2 (fun hd2 => ?_) (fun hd2 => ?_)
      · exfalso
        have := of_decide_eq_true hd2
        have hd : ¬ ((0 : Int) < ((ns.map V.int).length : Nat)) := fun z => hd (decide_eq_true z)
        omega
      · walk_at "go"
        refine rd_i (by decide) ?_
        walk_at "go"
        refine rd_i (.inl (by decide)) ?_
        walk_at "go"
        exact ⟨by show 3 ≤ sizeLine; decide, (fin _ _).2⟩
end

end Cs
namespace Cs
open PySem L2
open PyProof.Rows (envOfC)
/-! the mirror of is_pattern over data -/
abbrev kS (s : String) : Str := Str.ofString s
def isStr : PyData → Bool | .str _ => true | _ => false
def isTup : PyData → Bool | .tuple _ => true | _ => false
def isIntB : PyData → Bool | .int _ => true | .bool _ => true | _ => false
def isBool : PyData → Bool | .bool _ => true | _ => false
theorem tyx_lst {K : PySem.W.Frag} {H : Hp} {a : Addr} {xs : List V} (h : SqL K H a xs) : TyX K H (.ref a) (.type "list") := by
  rcases h with (h | ⟨o, h⟩) | ⟨o, its, n, h, c, _⟩
  · exact .base (.lst h)
  · exact .base (.frz h)
  · exact .kList h c
theorem tyx_tup {K : PySem.W.Frag} {H : Hp} {a : Addr} {xs : List V} (h : SqT K H a xs) : TyX K H (.ref a) (.type "tuple") := by
  rcases h with (h | ⟨o, h⟩) | ⟨o, its, n, h, c, _⟩
  · exact .base (.tup h)
  · exact .fTuple h
  · exact .kTuple h c
section
variable {K : PySem.W.Frag} {H : Hp} {Q : VK} {v : V} {d : PyData}
theorem rd_isStr (h : Dp K H v d) (q : Q (.bl (isStr d)) H) : rIsi K [v, .ty "str"] H Q := by
  cases h with
  | non => exact rd_isi (.ty _) (.base .non) (kit_ty (b := "str") (r := false) (by decide +kernel)) q
  | bl b => exact rd_isi (.ty _) (.base (.bl b)) (kit_ty (b := "str") (r := false) (by decide +kernel)) q
  | int i => exact rd_isi (.ty _) (.base (.int i)) (kit_ty (b := "str") (r := false) (by decide +kernel)) q
  | str x => exact rd_isi (.ty _) (.base (.str x)) (kit_ty (b := "str") (r := true) (by decide +kernel)) q
  | lst e _ => exact rd_isi (.ty _) (tyx_lst e) (kit_ty (b := "str") (r := false) (by decide +kernel)) q
  | tup e _ => exact rd_isi (.ty _) (tyx_tup e) (kit_ty (b := "str") (r := false) (by decide +kernel)) q
theorem rd_isTup (h : Dp K H v d) (q : Q (.bl (isTup d)) H) : rIsi K [v, .ty "tuple"] H Q := by
  cases h with
  | non => exact rd_isi (.ty _) (.base .non) (kit_ty (b := "tuple") (r := false) (by decide +kernel)) q
  | bl b => exact rd_isi (.ty _) (.base (.bl b)) (kit_ty (b := "tuple") (r := false) (by decide +kernel)) q
  | int i => exact rd_isi (.ty _) (.base (.int i)) (kit_ty (b := "tuple") (r := false) (by decide +kernel)) q
  | str x => exact rd_isi (.ty _) (.base (.str x)) (kit_ty (b := "tuple") (r := false) (by decide +kernel)) q
  | lst e _ => exact rd_isi (.ty _) (tyx_lst e) (kit_ty (b := "tuple") (r := false) (by decide +kernel)) q
  | tup e _ => exact rd_isi (.ty _) (tyx_tup e) (kit_ty (b := "tuple") (r := true) (by decide +kernel)) q
theorem rd_isInt (h : Dp K H v d) (q : Q (.bl (isIntB d)) H) : rIsi K [v, .ty "int"] H Q := by
  cases h with
  | non => exact rd_isi (.ty _) (.base .non) (kit_ty (b := "int") (r := false) (by decide +kernel)) q
  | bl b => exact rd_isi (.ty _) (.base (.bl b)) (kit_ty (b := "int") (r := true) (by decide +kernel)) q
  | int i => exact rd_isi (.ty _) (.base (.int i)) (kit_ty (b := "int") (r := true) (by decide +kernel)) q
  | str x => exact rd_isi (.ty _) (.base (.str x)) (kit_ty (b := "int") (r := false) (by decide +kernel)) q
  | lst e _ => exact rd_isi (.ty _) (tyx_lst e) (kit_ty (b := "int") (r := false) (by decide +kernel)) q
  | tup e _ => exact rd_isi (.ty _) (tyx_tup e) (kit_ty (b := "int") (r := false) (by decide +kernel)) q
theorem rd_isBool (h : Dp K H v d) (q : Q (.bl (isBool d)) H) : rIsi K [v, .ty "bool"] H Q := by
  cases h with
  | non => exact rd_isi (.ty _) (.base .non) (kit_ty (b := "bool") (r := false) (by decide +kernel)) q
  | bl b => exact rd_isi (.ty _) (.base (.bl b)) (kit_ty (b := "bool") (r := true) (by decide +kernel)) q
  | int i => exact rd_isi (.ty _) (.base (.int i)) (kit_ty (b := "bool") (r := false) (by decide +kernel)) q
  | str x => exact rd_isi (.ty _) (.base (.str x)) (kit_ty (b := "bool") (r := false) (by decide +kernel)) q
  | lst e _ => exact rd_isi (.ty _) (tyx_lst e) (kit_ty (b := "bool") (r := false) (by decide +kernel)) q
  | tup e _ => exact rd_isi (.ty _) (tyx_tup e) (kit_ty (b := "bool") (r := false) (by decide +kernel)) q
theorem rd_isBl {b : Bool} (q : Q (.bl true) H) : rIsi K [.bl b, .ty "bool"] H Q := rd_isBool (.bl b) q
end
/-- an int, no bool, from lo to hi -/
def mWithin (lo hi : Int) : PyData → Bool
  | .int i => decide (lo ≤ i) && decide (i ≤ hi)
  | _ => false
def mHigh (l : Int) : PyData → Bool
  | .none => true
  | d => mWithin l 4 d
def mRange (lo hi : PyData) : Bool := match lo with
  | .int l => mWithin 0 4 (.int l) && mHigh l hi
  | _ => false
/-- a text of distinct characters of the alphabet in its order -/
def mSel (al : List Nat) : PyData → Bool
  | .str x => decide (x = S (al.filter fun c => decide (c ∈ x.cps.toList)))
  | _ => false
def mOne (al : List Nat) : List PyData → Bool
  | [p] => mSel al p
  | _ => false
def mThree : List PyData → Bool
  | [_, lo, hi] => mRange lo hi
  | _ => false
/-- an expression as far as can be told without its parts -/
def mWF (al : List Nat) : PyData → Bool
  | .tuple (.str w :: ps) =>
    if w = kS "set" then mOne al ps
    else if w = kS "not" then decide (ps.length = 1)
    else if w = kS "again" then mThree ps
    else decide (w = kS "row") || decide (w = kS "any") || decide (w = kS "all")
  | _ => false
def mParts : PyData → List PyData
  | .tuple (.str w :: ps) => if w = kS "set" then [] else if w = kS "again" then ps.take 1 else ps
  | _ => []
theorem mWF_eq (al : List Nat) (w : Str) (ps : List PyData) : mWF al (.tuple (.str w :: ps)) = if w = kS "set" then mOne al ps else if w = kS "not" then decide (ps.length = 1) else if w = kS "again" then mThree ps else (decide (w = kS "row") || decide (w = kS "any") || decide (w = kS "all")) := rfl
theorem mParts_eq (w : Str) (ps : List PyData) : mParts (.tuple (.str w :: ps)) = if w = kS "set" then [] else if w = kS "again" then ps.take 1 else ps := rfl

end Cs
namespace Cs
open PySem L2
open PyProof.Rows (envOfC)
/-! lists of ints as data -/
theorem dpInts {K : PySem.W.Frag} {H : Hp} {p : Addr} {ns : List Int} (e : H p = some (.lst (ns.map V.int))) : Dp K H (.ref p) (.list (ns.map PyData.int)) := by
  refine .lst (SqL.of e) ?_
  clear e
  induction ns with
  | nil => exact .nil
  | cons a l ih => exact .cons (.int a) ih
theorem eqvInts : ∀ l m : List Int, (PyData.list (l.map PyData.int)).eqv (.list (m.map .int)) = decide (l = m)
  | [], [] => by simp [PyData.eqv, PyData.eqvAll]
  | [], b :: m => by simp [PyData.eqv, PyData.eqvAll]
  | a :: l, [] => by simp [PyData.eqv, PyData.eqvAll]
  | a :: l, b :: m => by
    have ih := eqvInts l m
    simp only [PyData.eqv] at ih
    simp only [List.map_cons, PyData.eqv, PyData.eqvAll, ih]
    by_cases h : a = b <;> simp [h]
theorem inInts (a : Int) (l : List Int) : inV (.int a) (l.map V.int) = decide (a ∈ l) := by
  unfold inV
  rw [List.any_map]
  induction l with
  | nil => rfl
  | cons b l ih =>
    rw [List.any_cons, ih]
    have e : (((fun y => eqV y (V.int a)) ∘ V.int) b) = decide (a = b) := by
      show (b == a) = _
      by_cases h : a = b
      · subst h; simp
      · rw [decide_eq_false h]; exact beq_eq_false_iff_ne.mpr (Ne.symm h)
    rw [e]
    by_cases h : a = b <;> simp [h]
/-- a statement by itself, with what is known behind it -/
theorem rd_cutR {t : L2.TS} {D : Ends} {σ : St} {H : Hp} (C : St → Hp → Prop) (rest : ∀ σ H, C σ H → D.nx σ H) (h : ∀ nx' : St → Hp → Prop, (∀ σ H, C σ H → nx' σ H) → t { D with nx := nx' } σ H) : t D σ H := h D.nx rest

end Cs
namespace Cs
open PySem L2
open PyProof.Rows (envOfC)
theorem Same.ofKp2 {p : Addr} {H0 H1 H2 : Hp} (n : H0 p = none) (s : Same H0 H1) (k : Kp p H1 H2) : Same H0 H2 := fun b o e => k.at (ne_of_none e n) (s _ _ e)
theorem Twins.get {H : Hp} {ok : V → Prop} : ∀ {qs : List V} {j : Nat} {u : V}, Twins H ok qs → qs[j]? = some u → ∃ q v, u = .ref q ∧ H q = some (.tup [v, v]) ∧ ok v
  | _, _, _, .nil, e => by simp at e
  | _, 0, _, .cons e o _, h => by
    simp at h; subst h; exact ⟨_, _, rfl, e, o⟩
  | _, j + 1, u, .cons _ _ t, h => Twins.get (j := j) (u := u) t (by simpa using h)
section
variable {P : Program} {w : World} {K : PySem.W.Frag} {mg : Str → Option Value} {base : Heap}
theorem ok_law (B : Blt mg) (BV : mg "ValueError" = none) {cl : Nat → Addr} {root : Addr} (T : Errs K mg cl root) (G__law_source : Cal P w K mg base 1 "_law_source" ["_law_script", "_law_k"] (sp_source K))
    (G__law_draw : Cal P w K mg base 1 "_law_draw" ["_law_source_here", "_law_many"] sp_draw) (G__law_value : Cal P w K mg base 2 "_law_value" ["_law_source_here"] (sp_value K)) (G__law_classes : Cal P w K mg base 1 "_law_classes" ["_law_e"] (sp_classes cl))
    (G__law_made : Cal P w K mg base 4 "_law_made" ["_law_way", "_law_a", "_law_b", "_law_c"] (sp_made cl))
    {f : Addr} {fd : FuncData} (F : Fun K "law" "law" s_law f fd) : FnOk P w K mg base CX0 200 f fd ["_law_script"] (spLaw K) := by
  refine F.ok (k := 199) sc_law (fun vs H Q E h => ?_) (fun cdv A outer s H vs Q E hr h => ?_)
  · obtain ⟨a, ns, rfl, _⟩ := h
    rfl
  · obtain ⟨a, ns, rfl, hS, hlen, k⟩ := h
    refine ⟨_, (pss_cons (ps_for PassesOwn.never rfl (pi_range1 (by rfl) B.range (pa_cons pe_int pa_nil)) (pg_name (i := 1) sc_law.nd rfl (Or.inl rfl))
    (pss_cons (ps_set (i := 2) sc_law.nd rfl (Or.inl rfl) (pe_c G__law_source (hr.mono (by first | decide | omega)) (pa_cons (pv 0) (pa_cons (pv 1) pa_nil))))
    (pss_cons (ps_set (i := 3) sc_law.nd rfl (Or.inl rfl) (pe_c G__law_draw (hr.mono (by first | decide | omega)) (pa_cons (pv 2) (pa_cons pe_int pa_nil))))
    (pss_cons (ps_asg (pe_c G__law_made (hr.mono (by first | decide | omega)) (pa_cons (pv 3) (pa_cons (pe_c G__law_value (hr.mono (by first | decide | omega)) (pa_cons (pv 2) pa_nil)) (pa_cons (pe_c G__law_value (hr.mono (by first | decide | omega)) (pa_cons (pv 2) pa_nil)) (pa_cons (pe_c G__law_value (hr.mono (by first | decide | omega)) (pa_cons (pv 2) pa_nil)) pa_nil))))) (pg_tupK (K := K) (by rfl) (by rfl) (pgs_cons (pg_name (i := 4) sc_law.nd rfl (Or.inl rfl)) (pgs_cons (pg_name (i := 5) sc_law.nd rfl (Or.inl rfl)) pgs_nil))))
    (pss_cons (ps_if (PW.pt (pw_or (pt_not (pt_val (pe_callB (call_isV (K := K) (by rfl)) (by rfl) B.isinstance (by decide +kernel) (pa_cons (pv 4) (pa_cons (pe_k T.c_CutError) pa_nil))))) (pw_or (pt_not (pt_val (pe_callB (call_isV (K := K) (by rfl)) (by rfl) B.isinstance (by decide +kernel) (pa_cons (pv 4) (pa_cons (pe_ty (T := "ValueError") BV (by decide +kernel)) pa_nil))))) (pw_or1 (pt_cmpR (op_neDK (K := K) (by rfl) hr.units) (pe_c G__law_classes (hr.mono (by first | decide | omega)) (pa_cons (pv 4) pa_nil)) (pe_lst (pa_cons (pv 3) pa_nil)) (nomark _))))))
    (pss_one (ps_ret pe_bl))
    pss_nil)
    (pss_one (ps_for PassesOwn.never rfl (pi_listK (K := K) (by rfl) (pv 5)) (pg_tupK (K := K) (by rfl) (by rfl) (pgs_cons (pg_name (i := 6) sc_law.nd rfl (Or.inl rfl)) (pgs_cons (pg_name (i := 7) sc_law.nd rfl (Or.inl rfl)) pgs_nil)))
    (pss_cons (ps_if (PW.pt (pw_or (pt_cmpR (op_neDK (K := K) (by rfl) hr.units) (pv 6) (pv 7) (nomark _)) (pw_or1 (pt_cmpR op_ne (pe_callB (call_isiK' (K := K) (by rfl)) (by rfl) B.isinstance (by decide +kernel) (pa_cons (pv 6) (pa_cons (pe_ty (T := "bool") B.bool (by decide +kernel)) pa_nil))) (pe_callB (call_isiK' (K := K) (by rfl)) (by rfl) B.isinstance (by decide +kernel) (pa_cons (pv 7) (pa_cons (pe_ty (T := "bool") B.bool (by decide +kernel)) pa_nil))) (nomark _)))))
    (pss_one (ps_ret pe_bl))
    pss_nil)
    (pss_one (ps_if (pt_cmpR op_ne (pe_callB (call_isiK' (K := K) (by rfl)) (by rfl) B.isinstance (by decide +kernel) (pa_cons (pv 6) (pa_cons (pe_ty (T := "tuple") B.tuple (by decide +kernel)) pa_nil))) (pe_callB (call_isiK' (K := K) (by rfl)) (by rfl) B.isinstance (by decide +kernel) (pa_cons (pv 7) (pa_cons (pe_ty (T := "tuple") B.tuple (by decide +kernel)) pa_nil))) (nomark _))
    (pss_one (ps_ret pe_bl))
    pss_nil))))))))))
    (pss_one (ps_ret pe_bl))), ?_⟩
    walk_at "go"
    refine rd_rng1j (by decide) (by decide) ?_
    refine for_range (lo := 0) (n := 10) (fun i σ H' => ∃ x1 x2 x3 x4 x5 x6 x7 : Option V, σ = [some (.ref a), x1, x2, x3, x4, x5, x6, x7] ∧ Same H H') ?_ ?_ ?_
    · exact ⟨_, _, _, _, _, _, _, rfl, Same.refl _⟩
    · rintro i σ H0 hi ⟨x1, x2, x3, x4, x5, x6, x7, rfl, sm0⟩
      walk_at "go"
      refine ⟨a, ns, _, rfl, L2.Same.seq sm0 hS, by omega, by omega, fun p H1 hp sm1 hS1 => ?_⟩
      walk_at "go"
      refine use_draw (n := 103) (hS1.mono (by decide)) (by decide) (by decide) fun wz H2 w0 w1 hS2 k2 => ?_
      obtain ⟨way, rfl⟩ : ∃ way : Nat, wz = (way : Int) := ⟨wz.toNat, by omega⟩
      have hway : way < 19 := by omega
      walk_at "go"
      refine use_value (n := 102) hS2 fun va da H3 ga dva hS3 k3 => ?_
      walk_at "go"
      refine use_value (n := 101) hS3 fun vb db H4 gb dvb hS4 k4 => ?_
      walk_at "go"
      refine use_value (n := 100) hS4 fun vc dc H5 gc dvc hS5 k5 => ?_
      walk_at "go"
      refine ⟨way, va, vb, vc, rfl, hway, fun t e L d qs H6 ep eL he tw s6 => ?_⟩
      have data : ∀ v, (v = va ∨ v = vb ∨ v = vc) → ∃ d, V14 d ∧ ∀ H', Same H6 H' → Dp K H' v d := by
        rintro v (rfl | rfl | rfl)
        · exact ⟨da, ga, fun H' s => Dp.mono (L2.Same.trans s6 s) (DV.at (DV.kp (k4.trans k5) dva))⟩
        · exact ⟨db, gb, fun H' s => Dp.mono (L2.Same.trans s6 s) (DV.at (DV.kp k5 dvb))⟩
        · exact ⟨dc, gc, fun H' s => Dp.mono (L2.Same.trans s6 s) (DV.at dvc)⟩
      have smA : Same H0 H6 := L2.Same.trans (Same.ofKp2 hp sm1 (k2.trans (k3.trans (k4.trans k5)))) s6
      walk_at "go"
      refine rd_gtup (SqT.of ep) rfl ?_
      walk_at "go"
      refine ⟨e, cl way, d, .ref root, .ref root, _, rfl, he.1, he.2, T.exc way hway, fun _ r => r, T.kitR way hway, ?_⟩
      walk_at "go"
      refine iteF ?_
      walk_at "go"
      refine ⟨e, cl way, d, .ty "ValueError", .type "ValueError", _, rfl, he.1, he.2, T.exc way hway, fun _ r => r, T.kitV way hway, ?_⟩
      walk_at "go"
      refine iteF ?_
      walk_at "go"
      refine ⟨e, way, d, rfl, hway, he, fun q H7 s7 eq => ?_⟩
      walk_at "go"
      refine ⟨by show 1 ≤ sizeLine; decide, rd_new fun q2 H8 hq2 eq2 s8 => ?_⟩
      walk_at "go"
      refine ⟨_, _, dpInts (ns := [(way : Int)]) (s8 _ _ eq), dpInts (ns := [(way : Int)]) eq2, PySem.W.shaped_ints _, PySem.W.shaped_ints _, ?_⟩
      rw [eqvInts, decide_eq_true rfl]
      walk_at "go"
      have sm8 := L2.Same.trans s7 s8
      have eL8 := sm8 _ _ eL
      have tw8 := Twins.same sm8 tw
      refine iteF ?_
      walk_at "go"
      refine ⟨L, rfl, ⟨_, SqL.of eL8⟩, ?_⟩
      refine for_list (xs := qs) (fun j σ H' => ∃ y6 y7 : Option V, σ = [some (.ref a), some (.int (0 + (i : Int))), some (.ref p), some (.int (way : Int)), some (.ref e), some (.ref L), y6, y7] ∧ Same H8 H') ?_ ?_ ?_ ?_
      · exact ⟨_, _, rfl, Same.refl _⟩
      · rintro j σ H' _ ⟨_, _, _, sm⟩
        exact SqL.of (sm _ _ eL8)
      · rintro j u σ H' hj ⟨y6, y7, rfl, sm⟩
        obtain ⟨q3, v, rfl, eq3, ok⟩ := Twins.get (Twins.same sm tw8) hj
        obtain ⟨dv, gv, hv⟩ := data v ok
        have hd := hv H' (L2.Same.trans sm8 sm)
        walk_at "go"
        refine rd_gtup (SqT.of eq3) rfl ?_
        walk_at "go"
        refine ⟨dv, dv, hd, hd, gv.2, gv.2, ?_⟩
        rw [gv.1]
        walk_at "go"
        refine iteF ?_
        walk_at "go"
        refine rd_isBool hd ?_
        walk_at "go"
        refine rd_isBool hd ?_
        walk_at "go"
        refine ite2 (fun z => ?_) (fun _ => ?_)
        · exfalso; simp at z
        walk_at "go"
        refine rd_isTup hd ?_
        walk_at "go"
        refine rd_isTup hd ?_
        walk_at "go"
        refine ite2 (fun z => ?_) (fun _ => ?_)
        · exfalso; simp at z
        walk_at "go"
        exact ⟨_, _, rfl, sm⟩
      · rintro σ H' ⟨y6, y7, rfl, sm⟩
        exact ⟨_, _, _, _, _, _, _, rfl, L2.Same.trans sm0 (L2.Same.trans smA (L2.Same.trans sm8 sm))⟩
    · rintro σ H' ⟨x1, x2, x3, x4, x5, x6, x7, rfl, sm⟩
      walk_at "go"
      exact k H'
end

end Cs
namespace Cs
open PySem L2
open PyProof.Rows (envOfC)
/-! what the classes are, told by the written part -/
def eB (K : PySem.W.Frag) (C : Addr) : Bool :=
  decide (PySem.W.findIn K (.ref C) "__getattribute__" = some (some (.builtin "BaseException.__getattribute__"))) && (decide (PySem.W.findIn K (.ref C) "__getattr__" = some none) && (decide (PySem.W.subIn K (.ref C) (.type "BaseException") = some true) && (PySem.W.hasDictIn K C &&
    (decide (PySem.W.findIn K (.ref C) "__class__" = some (some (.builtin "object.__class__"))) && (decide (PySem.W.specialIn K (.builtin "object.__class__") "__get__" = some (some (.builtin "getset_descriptor.__get__"))) && (decide (PySem.W.takesIn K (.builtin "object.__class__") = some true) && (decide (PySem.W.mroIn K C (.type "object") = some true) && PySem.W.keepIn K (.ref C))))))))
theorem eB_ok {K : PySem.W.Frag} {C : Addr} (h : eB K C = true) : ExcC K C ∧ XfC K C ∧ PySem.W.keepIn K (.ref C) = true := by
  simp only [eB, Bool.and_eq_true, decide_eq_true_eq] at h
  obtain ⟨h1, h2, h3, h4, h5, h6, h7, h8, h9⟩ := h
  exact ⟨⟨h1, h2, h3, h4, h5, h6, h7, h8⟩, ⟨h1, h2, h3, h4⟩, h9⟩
theorem eB_mk {K : PySem.W.Frag} {C : Addr} (h1 : PySem.W.findIn K (.ref C) "__getattribute__" = some (some (.builtin "BaseException.__getattribute__"))) (h2 : PySem.W.findIn K (.ref C) "__getattr__" = some none) (h3 : PySem.W.subIn K (.ref C) (.type "BaseException") = some true) (h4 : PySem.W.hasDictIn K C = true)
    (h5 : PySem.W.findIn K (.ref C) "__class__" = some (some (.builtin "object.__class__"))) (h6 : PySem.W.specialIn K (.builtin "object.__class__") "__get__" = some (some (.builtin "getset_descriptor.__get__"))) (h7 : PySem.W.takesIn K (.builtin "object.__class__") = some true) (h8 : PySem.W.mroIn K C (.type "object") = some true) (h9 : PySem.W.keepIn K (.ref C) = true) : eB K C = true := by
  simp only [eB, Bool.and_eq_true, decide_eq_true_eq]
  exact ⟨h1, h2, h3, h4, h5, h6, h7, h8, h9⟩
inductive SubRow (K : PySem.W.Frag) (a : Addr) : List Addr → List Bool → Prop
  | nil : SubRow K a [] []
  | cons {b : Addr} {bs : List Addr} {c : Bool} {cs : List Bool} : PySem.W.subIn K (.ref a) (.ref b) = some c → SubRow K a bs cs → SubRow K a (b :: bs) (c :: cs)
def rowB (i : Nat) : List Bool := (List.range 19).map fun j => decide (i = j)
inductive Tab (K : PySem.W.Frag) (root : Addr) (all : List Addr) : Nat → List Addr → Prop
  | nil {i : Nat} : Tab K root all i []
  | cons {i : Nat} {a : Addr} {as : List Addr} : eB K a = true → PySem.W.typeIn K (.ref a) = some (.type "type") → PySem.W.subIn K (.ref a) (.ref root) = some true → PySem.W.subIn K (.ref a) (.type "ValueError") = some true → SubRow K a all (rowB i) → Tab K root all (i + 1) as → Tab K root all i (a :: as)
theorem SubRow.get {K : PySem.W.Frag} {a : Addr} : ∀ {bs : List Addr} {cs : List Bool} {j : Nat}, SubRow K a bs cs → j < bs.length → PySem.W.subIn K (.ref a) (.ref (bs.getD j 0)) = some (cs.getD j false)
  | _, _, _, .nil, h => by cases h
  | _, _, 0, .cons e _, _ => e
  | _, _, j + 1, .cons _ r, h => SubRow.get (j := j) r (Nat.lt_of_succ_lt_succ h)
theorem rowB_get {i j : Nat} (h : j < 19) : (rowB i).getD j false = decide (i = j) := by
  simp [rowB, List.getD_eq_getElem?_getD, h]
theorem Tab.get {K : PySem.W.Frag} {root : Addr} {all : List Addr} : ∀ {as : List Addr} {k j : Nat}, Tab K root all k as → j < as.length → eB K (as.getD j 0) = true ∧ PySem.W.typeIn K (.ref (as.getD j 0)) = some (.type "type") ∧ PySem.W.subIn K (.ref (as.getD j 0)) (.ref root) = some true ∧ PySem.W.subIn K (.ref (as.getD j 0)) (.type "ValueError") = some true ∧ SubRow K (as.getD j 0) all (rowB (k + j))
  | _, _, _, .nil, h => by cases h
  | _, _, 0, .cons e t r v s _, _ => ⟨e, t, r, v, s⟩
  | _, k, j + 1, .cons _ _ _ _ _ r, h => by
    have := Tab.get (k := k + 1) (j := j) r (Nat.lt_of_succ_lt_succ h)
    rw [Nat.add_right_comm] at this
    exact this
/-- the classes, told pair by pair -/
structure ETab (K : PySem.W.Frag) (as : List Addr) (root : Addr) : Prop where
  n : as.length = 19
  t : Tab K root as 0 as
  tr : PySem.W.typeIn K (.ref root) = some (.type "type")
  cr : PySem.W.hasDictIn K root = true
theorem cls_some {K : PySem.W.Frag} {C : Addr} (h : PySem.W.hasDictIn K C = true) : (PySem.W.clsIn K C).isSome = true := by
  obtain ⟨cd, hc, _⟩ := PySem.W.any_some h
  rw [hc]; rfl
theorem kit_of {K : PySem.W.Frag} {a b : Addr} {c : Bool} (hd : PySem.W.hasDictIn K b = true) (ty : PySem.W.typeIn K (.ref b) = some (.type "type")) (s : PySem.W.subIn K (.ref a) (.ref b) = some c) (h : c = false → a ≠ b) : PySem.W.kitOne K (.ref a) (.ref b) = some c := by
  unfold PySem.W.kitOne
  by_cases e : a = b
  · subst e
    have hc : c = true := by
      cases c
      · exact absurd rfl (h rfl)
      · rfl
    subst hc
    rw [if_pos (by simp)]
  · rw [if_neg (by simpa using e)]
    show (if ((PySem.W.clsIn K b).isSome && PySem.W.typeIn K (.ref b) == some (.type "type")) = true then PySem.W.subIn K (.ref a) (.ref b) else Option.none) = some c
    rw [cls_some hd, ty, if_pos (by simp), s]
theorem eTab_ok {K : PySem.W.Frag} {as : List Addr} {root : Addr} (h : ETab K as root) {i : Nat} (hi : i < 19) : eB K (as.getD i 0) = true ∧ PySem.W.kitOne K (.ref (as.getD i 0)) (.ref root) = some true ∧ PySem.W.kitOne K (.ref (as.getD i 0)) (.type "ValueError") = some true ∧
    ∀ j, j < 19 → PySem.W.kitOne K (.ref (as.getD i 0)) (.ref (as.getD j 0)) = some (decide (i = j)) := by
  obtain ⟨e, ty, r, v, s⟩ := Tab.get h.t (j := i) (by rw [h.n]; exact hi)
  rw [Nat.zero_add] at s
  refine ⟨e, kit_of h.cr h.tr r (fun q => nomatch q), ?_, fun j hj => ?_⟩
  · unfold PySem.W.kitOne
    rw [if_neg (by simp)]
    show (if PySem.W.kitMeta "ValueError" = true then PySem.W.subIn K (.ref (as.getD i 0)) (.type "ValueError") else Option.none) = some true
    rw [if_pos (by decide +kernel), v]
  · obtain ⟨e2, ty2, _, _, s2⟩ := Tab.get h.t (j := j) (by rw [h.n]; exact hj)
    rw [Nat.zero_add] at s2
    have q := SubRow.get s (j := j) (by rw [h.n]; exact hj)
    rw [rowB_get hj] at q
    refine kit_of (eB_ok e2).1.hd ty2 q fun d z => ?_
    have q0 := SubRow.get s (j := i) (by rw [h.n]; exact hi)
    rw [rowB_get hi] at q0
    rw [← z, q0, d] at q
    simp at q
theorem errs_mk {K : PySem.W.Frag} {h : Heap} {mg : Str → Option Value} (X : K.In h) (G : h.Ns mainGlobals mg) {a0 a1 a2 a3 a4 a5 a6 a7 a8 a9 a10 a11 a12 a13 a14 a15 a16 a17 a18 root : Addr} (n0 : PySem.W.nsIn K mainGlobals "InvalidText" = some (some (.ref a0))) (n1 : PySem.W.nsIn K mainGlobals "InvalidLexer" = some (some (.ref a1))) (n2 : PySem.W.nsIn K mainGlobals "TooLarge" = some (some (.ref a2))) (n3 : PySem.W.nsIn K mainGlobals "UnknownMode" = some (some (.ref a3))) (n4 : PySem.W.nsIn K mainGlobals "UnknownRule" = some (some (.ref a4))) (n5 : PySem.W.nsIn K mainGlobals "Finished" = some (some (.ref a5))) (n6 : PySem.W.nsIn K mainGlobals "InvalidRange" = some (some (.ref a6))) (n7 : PySem.W.nsIn K mainGlobals "TooLong" = some (some (.ref a7))) (n8 : PySem.W.nsIn K mainGlobals "NotFlat" = some (some (.ref a8))) (n9 : PySem.W.nsIn K mainGlobals "AlphabetMismatch" = some (some (.ref a9))) (n10 : PySem.W.nsIn K mainGlobals "InvalidWord" = some (some (.ref a10))) (n11 : PySem.W.nsIn K mainGlobals "InvalidNotation" = some (some (.ref a11))) (n12 : PySem.W.nsIn K mainGlobals "InvalidName" = some (some (.ref a12))) (n13 : PySem.W.nsIn K mainGlobals "Incompatible" = some (some (.ref a13))) (n14 : PySem.W.nsIn K mainGlobals "UnknownName" = some (some (.ref a14))) (n15 : PySem.W.nsIn K mainGlobals "InUse" = some (some (.ref a15))) (n16 : PySem.W.nsIn K mainGlobals "NameInUse" = some (some (.ref a16))) (n17 : PySem.W.nsIn K mainGlobals "NothingToUndo" = some (some (.ref a17))) (n18 : PySem.W.nsIn K mainGlobals "NothingToRedo" = some (some (.ref a18))) (nR : PySem.W.nsIn K mainGlobals "CutError" = some (some (.ref root))) (t : ETab K [a0, a1, a2, a3, a4, a5, a6, a7, a8, a9, a10, a11, a12, a13, a14, a15, a16, a17, a18] root) : Errs K mg (fun i => [a0, a1, a2, a3, a4, a5, a6, a7, a8, a9, a10, a11, a12, a13, a14, a15, a16, a17, a18].getD i 0) root where
  c_InvalidText := ⟨_, PySem.W.mg_of X G n0, rfl⟩
  c_InvalidLexer := ⟨_, PySem.W.mg_of X G n1, rfl⟩
  c_TooLarge := ⟨_, PySem.W.mg_of X G n2, rfl⟩
  c_UnknownMode := ⟨_, PySem.W.mg_of X G n3, rfl⟩
  c_UnknownRule := ⟨_, PySem.W.mg_of X G n4, rfl⟩
  c_Finished := ⟨_, PySem.W.mg_of X G n5, rfl⟩
  c_InvalidRange := ⟨_, PySem.W.mg_of X G n6, rfl⟩
  c_TooLong := ⟨_, PySem.W.mg_of X G n7, rfl⟩
  c_NotFlat := ⟨_, PySem.W.mg_of X G n8, rfl⟩
  c_AlphabetMismatch := ⟨_, PySem.W.mg_of X G n9, rfl⟩
  c_InvalidWord := ⟨_, PySem.W.mg_of X G n10, rfl⟩
  c_InvalidNotation := ⟨_, PySem.W.mg_of X G n11, rfl⟩
  c_InvalidName := ⟨_, PySem.W.mg_of X G n12, rfl⟩
  c_Incompatible := ⟨_, PySem.W.mg_of X G n13, rfl⟩
  c_UnknownName := ⟨_, PySem.W.mg_of X G n14, rfl⟩
  c_InUse := ⟨_, PySem.W.mg_of X G n15, rfl⟩
  c_NameInUse := ⟨_, PySem.W.mg_of X G n16, rfl⟩
  c_NothingToUndo := ⟨_, PySem.W.mg_of X G n17, rfl⟩
  c_NothingToRedo := ⟨_, PySem.W.mg_of X G n18, rfl⟩
  c_CutError := ⟨_, PySem.W.mg_of X G nR, rfl⟩
  exc := fun i hi => (eB_ok (eTab_ok t hi).1).1
  xf := fun i hi => (eB_ok (eTab_ok t hi).1).2.1
  keep := fun i hi => (eB_ok (eTab_ok t hi).1).2.2
  kit := fun i j hi hj => (eTab_ok t hi).2.2.2 j hj
  kitR := fun i hi => (eTab_ok t hi).2.1
  kitV := fun i hi => (eTab_ok t hi).2.2.1
/-- an __init__, as the written part has it -/
theorem new_mk {P : Program} {w : World} {K : PySem.W.Frag} {mg : Str → Option Value} {base : Heap} {x qn : Str} {C fI : Addr} {names ps : List Str} {st : Stmt} {oc : Value} {od an : Option Addr} {osl : Array (Option Value)} {kV dc pm cd ct : Value}
    {nm q : Str} {N : Addr} {bs bm : List Value} {sn : List Str} {sub : List Value} {ab : Bool} {col : Option Bool} {dd : Option Addr} {k0 k1 k2 k3 k5 : Option Value}
    (g : mg x = some (.ref C)) (o : K.lookup C = some (PySem.excClassObj nm q C N bs bm true sn sub ab col dd k0 k1 k2 k3 k5 "ValueError.__new__")) (r : PySem.HandSPX.refsVE bm = true)
    (sa : PySem.W.findIn K (.ref C) "__setattr__" = some (some (.builtin "object.__setattr__"))) (tC : PySem.W.typeIn K (.ref C) = some (.type "type")) (e : eB K C = true)
    (iC : PySem.W.findIn K (.ref C) "__init__" = some (some (.ref fI))) (tI : PySem.W.typeIn K (.ref fI) = some (.type "function"))
    (l : K.lookup fI = some ⟨oc, od, .func (PySem.W.fnOf "__init__" qn (defArgs st) (defBody st) (defScope st) .none kV dc pm an cd ct), osl⟩) (c : PySem.W.codeIn K cd qn = true) (k : PySem.W.keepIn K (.ref fI) = true)
    (b : ∀ (kV dc pm : Value) (an : Option Addr) (cd ct : Value) (us : List Value), us.length = ps.length → bindArgs (PySem.W.fnOf "__init__" qn (defArgs st) (defBody st) (defScope st) .none kV dc pm an cd ct) ⟨us, []⟩ = pure (ps.zip us))
    (ok : OexC K C → ∀ {f : Addr} {fd : FuncData}, Fun K "__init__" qn st f fd → FnOk P w K mg base CX0 1 f fd ps (sp_init C names)) : NewAt P w K mg base x C names := by
  have hO : OexC K C := ⟨⟨nm, q, N, bs, bm, sn, sub, ab, col, dd, k0, k1, k2, k3, k5, o, r⟩, sa, (eB_ok e).1.hs, tC, (eB_ok e).2.2⟩
  have F := fun_mk l c k
  exact ⟨⟨fI, _, ps, g, hO, iC, tI, ok hO F, F.binds b⟩⟩

theorem all_mk {P : Program} {w : World} {K : PySem.W.Frag} {h : Heap} {mg : Str → Option Value} {base : Heap} (X : K.In h) (G : h.Ns mainGlobals mg) {a0 a1 a2 a3 a4 a5 a6 a7 a8 a9 a10 a11 a12 a13 a14 a15 a16 a17 a18 root : Addr} (n0 : PySem.W.nsIn K mainGlobals "InvalidText" = some (some (.ref a0))) (n1 : PySem.W.nsIn K mainGlobals "InvalidLexer" = some (some (.ref a1))) (n2 : PySem.W.nsIn K mainGlobals "TooLarge" = some (some (.ref a2))) (n3 : PySem.W.nsIn K mainGlobals "UnknownMode" = some (some (.ref a3))) (n4 : PySem.W.nsIn K mainGlobals "UnknownRule" = some (some (.ref a4))) (n5 : PySem.W.nsIn K mainGlobals "Finished" = some (some (.ref a5))) (n6 : PySem.W.nsIn K mainGlobals "InvalidRange" = some (some (.ref a6))) (n7 : PySem.W.nsIn K mainGlobals "TooLong" = some (some (.ref a7))) (n8 : PySem.W.nsIn K mainGlobals "NotFlat" = some (some (.ref a8))) (n9 : PySem.W.nsIn K mainGlobals "AlphabetMismatch" = some (some (.ref a9))) (n10 : PySem.W.nsIn K mainGlobals "InvalidWord" = some (some (.ref a10))) (n11 : PySem.W.nsIn K mainGlobals "InvalidNotation" = some (some (.ref a11))) (n12 : PySem.W.nsIn K mainGlobals "InvalidName" = some (some (.ref a12))) (n13 : PySem.W.nsIn K mainGlobals "Incompatible" = some (some (.ref a13))) (n14 : PySem.W.nsIn K mainGlobals "UnknownName" = some (some (.ref a14))) (n15 : PySem.W.nsIn K mainGlobals "InUse" = some (some (.ref a15))) (n16 : PySem.W.nsIn K mainGlobals "NameInUse" = some (some (.ref a16))) (n17 : PySem.W.nsIn K mainGlobals "NothingToUndo" = some (some (.ref a17))) (n18 : PySem.W.nsIn K mainGlobals "NothingToRedo" = some (some (.ref a18))) (nR : PySem.W.nsIn K mainGlobals "CutError" = some (some (.ref root))) (t : ETab K [a0, a1, a2, a3, a4, a5, a6, a7, a8, a9, a10, a11, a12, a13, a14, a15, a16, a17, a18] root) (N0 : NewAt P w K mg base "InvalidText" a0 ["position"])
    (f0_position : PySem.W.findIn K (.ref a0) "position" = some none)
    (N1 : NewAt P w K mg base "InvalidLexer" a1 ["reason", "mode", "rule"])
    (f1_reason : PySem.W.findIn K (.ref a1) "reason" = some none)
    (f1_mode : PySem.W.findIn K (.ref a1) "mode" = some none)
    (f1_rule : PySem.W.findIn K (.ref a1) "rule" = some none)
    (N2 : NewAt P w K mg base "TooLarge" a2 ["what"])
    (f2_what : PySem.W.findIn K (.ref a2) "what" = some none)
    (N3 : NewAt P w K mg base "UnknownMode" a3 ["name"])
    (f3_name : PySem.W.findIn K (.ref a3) "name" = some none)
    (N4 : NewAt P w K mg base "UnknownRule" a4 ["name"])
    (f4_name : PySem.W.findIn K (.ref a4) "name" = some none)
    (q5 : PySem.W.excIn K a5 vBm "ValueError.__new__" = true)
    (N6 : NewAt P w K mg base "InvalidRange" a6 ["position"])
    (f6_position : PySem.W.findIn K (.ref a6) "position" = some none)
    (N7 : NewAt P w K mg base "TooLong" a7 ["length"])
    (f7_length : PySem.W.findIn K (.ref a7) "length" = some none)
    (q8 : PySem.W.excIn K a8 vBm "ValueError.__new__" = true)
    (q9 : PySem.W.excIn K a9 vBm "ValueError.__new__" = true)
    (N10 : NewAt P w K mg base "InvalidWord" a10 ["index"])
    (f10_index : PySem.W.findIn K (.ref a10) "index" = some none)
    (N11 : NewAt P w K mg base "InvalidNotation" a11 ["index"])
    (f11_index : PySem.W.findIn K (.ref a11) "index" = some none)
    (N12 : NewAt P w K mg base "InvalidName" a12 ["name"])
    (f12_name : PySem.W.findIn K (.ref a12) "name" = some none)
    (N13 : NewAt P w K mg base "Incompatible" a13 ["document"])
    (f13_document : PySem.W.findIn K (.ref a13) "document" = some none)
    (N14 : NewAt P w K mg base "UnknownName" a14 ["name"])
    (f14_name : PySem.W.findIn K (.ref a14) "name" = some none)
    (N15 : NewAt P w K mg base "InUse" a15 ["document"])
    (f15_document : PySem.W.findIn K (.ref a15) "document" = some none)
    (N16 : NewAt P w K mg base "NameInUse" a16 ["document"])
    (f16_document : PySem.W.findIn K (.ref a16) "document" = some none)
    (q17 : PySem.W.excIn K a17 vBm "ValueError.__new__" = true)
    (q18 : PySem.W.excIn K a18 vBm "ValueError.__new__" = true) :
    ∃ (cl : Nat → Addr) (root : Addr), Errs K mg cl root ∧ News P w K mg base cl := by
  refine ⟨fun i => [a0, a1, a2, a3, a4, a5, a6, a7, a8, a9, a10, a11, a12, a13, a14, a15, a16, a17, a18].getD i 0, root, errs_mk X G n0 n1 n2 n3 n4 n5 n6 n7 n8 n9 n10 n11 n12 n13 n14 n15 n16 n17 n18 nR t, ?_⟩
  exact {
    n_InvalidText := N0
    f_InvalidText_position := f0_position
    n_InvalidLexer := N1
    f_InvalidLexer_reason := f1_reason
    f_InvalidLexer_mode := f1_mode
    f_InvalidLexer_rule := f1_rule
    n_TooLarge := N2
    f_TooLarge_what := f2_what
    n_UnknownMode := N3
    f_UnknownMode_name := f3_name
    n_UnknownRule := N4
    f_UnknownRule_name := f4_name
    q_Finished := q5
    g_Finished := PySem.W.mg_of X G n5
    k_Finished := (eB_ok (eTab_ok t (i := 5) (by decide)).1).2.2
    n_InvalidRange := N6
    f_InvalidRange_position := f6_position
    n_TooLong := N7
    f_TooLong_length := f7_length
    q_NotFlat := q8
    g_NotFlat := PySem.W.mg_of X G n8
    k_NotFlat := (eB_ok (eTab_ok t (i := 8) (by decide)).1).2.2
    q_AlphabetMismatch := q9
    g_AlphabetMismatch := PySem.W.mg_of X G n9
    k_AlphabetMismatch := (eB_ok (eTab_ok t (i := 9) (by decide)).1).2.2
    n_InvalidWord := N10
    f_InvalidWord_index := f10_index
    n_InvalidNotation := N11
    f_InvalidNotation_index := f11_index
    n_InvalidName := N12
    f_InvalidName_name := f12_name
    n_Incompatible := N13
    f_Incompatible_document := f13_document
    n_UnknownName := N14
    f_UnknownName_name := f14_name
    n_InUse := N15
    f_InUse_document := f15_document
    n_NameInUse := N16
    f_NameInUse_document := f16_document
    q_NothingToUndo := q17
    g_NothingToUndo := PySem.W.mg_of X G n17
    k_NothingToUndo := (eB_ok (eTab_ok t (i := 17) (by decide)).1).2.2
    q_NothingToRedo := q18
    g_NothingToRedo := PySem.W.mg_of X G n18
    k_NothingToRedo := (eB_ok (eTab_ok t (i := 18) (by decide)).1).2.2 }

end Cs

open PySem PySem.W PyProof.Rows in
set_option maxRecDepth 100000 in
set_option maxHeartbeats 0 in
theorem PySem.Challenge.cw_cutscribe_k92_errors_made_holds : PySem.Challenge.rw_cutscribe_k92_errors_made.Holds := by
  w_on; o_law; k_head; (case hw => w_witness2)
  k_fill
  refine Cs.walk_c (st := Cs.s_law) (l := PySem.Challenge.rw_cutscribe_k92_errors_made) rfl rfl rfl (fun w h Y => PySem.W.kIn_of Y) ?F
  case F =>
    intro w mg h KX G
    have B : Cs.Blt mg := by
      refine' Cs.blt_mk KX G ?z0 ?z1 ?z2 ?z3 ?z4 ?z5 ?z6 ?z7 ?z8 ?z9 ?z10 ?z11 ?z12 ?z13 ?z14 ?z15 ?z16
      (case z0 => k_is)
      (case z1 => k_is)
      (case z2 => k_is)
      (case z3 => k_is)
      (case z4 => k_is)
      (case z5 => k_is)
      (case z6 => k_is)
      (case z7 => k_is)
      (case z8 => k_is)
      (case z9 => k_is)
      (case z10 => k_is)
      (case z11 => k_is)
      (case z12 => k_is)
      (case z13 => k_is)
      (case z14 => k_is)
      (case z15 => k_is)
      (case z16 => k_is)
    have A__law_source : Cs.At (L2.KOf KX) mg "_law_source" Cs.s__law_source ["_law_script", "_law_k"] := by
      refine' Cs.at_mk KX G ?a ?l ?c ?k ?b
      (case a => k_is)
      (case l => k_is)
      (case c => k_is)
      (case k => k_is)
      (case b => exact fun _ _ _ _ _ _ us hl => match us, hl with | [_, _], _ => rfl)
    have A__law_draw : Cs.At (L2.KOf KX) mg "_law_draw" Cs.s__law_draw ["_law_source_here", "_law_many"] := by
      refine' Cs.at_mk KX G ?a ?l ?c ?k ?b
      (case a => k_is)
      (case l => k_is)
      (case c => k_is)
      (case k => k_is)
      (case b => exact fun _ _ _ _ _ _ us hl => match us, hl with | [_, _], _ => rfl)
    have A__law_value : Cs.At (L2.KOf KX) mg "_law_value" Cs.s__law_value ["_law_source_here"] := by
      refine' Cs.at_mk KX G ?a ?l ?c ?k ?b
      (case a => k_is)
      (case l => k_is)
      (case c => k_is)
      (case k => k_is)
      (case b => exact fun _ _ _ _ _ _ us hl => match us, hl with | [_], _ => rfl)
    have A__law_classes : Cs.At (L2.KOf KX) mg "_law_classes" Cs.s__law_classes ["_law_e"] := by
      refine' Cs.at_mk KX G ?a ?l ?c ?k ?b
      (case a => k_is)
      (case l => k_is)
      (case c => k_is)
      (case k => k_is)
      (case b => exact fun _ _ _ _ _ _ us hl => match us, hl with | [_], _ => rfl)
    have A__law_made : Cs.At (L2.KOf KX) mg "_law_made" Cs.s__law_made ["_law_way", "_law_a", "_law_b", "_law_c"] := by
      refine' Cs.at_mk KX G ?a ?l ?c ?k ?b
      (case a => k_is)
      (case l => k_is)
      (case c => k_is)
      (case k => k_is)
      (case b => exact fun _ _ _ _ _ _ us hl => match us, hl with | [_, _, _, _], _ => rfl)
    refine' Cs.law_mk ?a ?l ?c ?k ?b ?G2
    (case a => k_is)
    (case l => k_is)
    (case c => k_is)
    (case k => k_is)
    (case b => exact fun _ _ _ _ _ _ _ => rfl)
    (case G2 =>
      intro base f fd F
      have BV : mg "ValueError" = none := by
        refine' PySem.W.mg_none_of KX G ?a
        (case a => ((try dsimp only [L2.KOf]); k_is))
      have Gd := Cs.ok_draw (P := PySem.Challenge.rw_cutscribe_k92_errors_made.prog) (w := w) (base := base) A__law_draw
      have Gs := Cs.ok_source (P := PySem.Challenge.rw_cutscribe_k92_errors_made.prog) (w := w) (base := base) B A__law_source
      have Gv := Cs.ok_value (K := L2.KOf KX) Gd A__law_value
      have all : ∃ (cl : Nat → Addr) (root : Addr), Cs.Errs (L2.KOf KX) mg cl root ∧ Cs.News PySem.Challenge.rw_cutscribe_k92_errors_made.prog w (L2.KOf KX) mg base cl := by
        refine' Cs.all_mk KX G ?n0 ?n1 ?n2 ?n3 ?n4 ?n5 ?n6 ?n7 ?n8 ?n9 ?n10 ?n11 ?n12 ?n13 ?n14 ?n15 ?n16 ?n17 ?n18 ?nR ?t ?N0 ?f0_position ?N1 ?f1_reason ?f1_mode ?f1_rule ?N2 ?f2_what ?N3 ?f3_name ?N4 ?f4_name ?q5 ?N6 ?f6_position ?N7 ?f7_length ?q8 ?q9 ?N10 ?f10_index ?N11 ?f11_index ?N12 ?f12_name ?N13 ?f13_document ?N14 ?f14_name ?N15 ?f15_document ?N16 ?f16_document ?q17 ?q18
        (case n0 => ((try dsimp only [L2.KOf]); k_is))
        (case n1 => ((try dsimp only [L2.KOf]); k_is))
        (case n2 => ((try dsimp only [L2.KOf]); k_is))
        (case n3 => ((try dsimp only [L2.KOf]); k_is))
        (case n4 => ((try dsimp only [L2.KOf]); k_is))
        (case n5 => ((try dsimp only [L2.KOf]); k_is))
        (case n6 => ((try dsimp only [L2.KOf]); k_is))
        (case n7 => ((try dsimp only [L2.KOf]); k_is))
        (case n8 => ((try dsimp only [L2.KOf]); k_is))
        (case n9 => ((try dsimp only [L2.KOf]); k_is))
        (case n10 => ((try dsimp only [L2.KOf]); k_is))
        (case n11 => ((try dsimp only [L2.KOf]); k_is))
        (case n12 => ((try dsimp only [L2.KOf]); k_is))
        (case n13 => ((try dsimp only [L2.KOf]); k_is))
        (case n14 => ((try dsimp only [L2.KOf]); k_is))
        (case n15 => ((try dsimp only [L2.KOf]); k_is))
        (case n16 => ((try dsimp only [L2.KOf]); k_is))
        (case n17 => ((try dsimp only [L2.KOf]); k_is))
        (case n18 => ((try dsimp only [L2.KOf]); k_is))
        (case nR => ((try dsimp only [L2.KOf]); k_is))
        (case t =>
          refine' ⟨rfl, ?tt, ?tr, ?cr⟩
          (case tr => ((try dsimp only [L2.KOf]); k_is))
          (case cr => ((try dsimp only [L2.KOf]); k_is))
          (case tt =>
            (try dsimp only [L2.KOf])
            repeat' (first | exact Cs.Tab.nil | exact Cs.SubRow.nil | refine Cs.Tab.cons ?_ ?_ ?_ ?_ ?_ ?_ | refine Cs.SubRow.cons ?_ ?_ | refine Cs.eB_mk ?_ ?_ ?_ ?_ ?_ ?_ ?_ ?_ ?_)
            all_goals k_is))
        (case N0 =>
          refine' Cs.new_mk (st := Cs.s_i_InvalidText) (qn := "InvalidText.__init__") (ps := ["self", "position"]) (PySem.W.mg_of KX G ?g) ?o ?r ?sa ?tC ?e ?iC ?tI ?l ?c ?k ?b ?ok
          (case g => ((try dsimp only [L2.KOf]); k_is))
          (case o => ((try dsimp only [L2.KOf]); k_is))
          (case r => decide +kernel)
          (case sa => ((try dsimp only [L2.KOf]); k_is))
          (case tC => ((try dsimp only [L2.KOf]); k_is))
          (case e =>
            (try dsimp only [L2.KOf])
            refine Cs.eB_mk ?_ ?_ ?_ ?_ ?_ ?_ ?_ ?_ ?_
            all_goals k_is)
          (case iC => ((try dsimp only [L2.KOf]); k_is))
          (case tI => ((try dsimp only [L2.KOf]); k_is))
          (case l => ((try dsimp only [L2.KOf]); k_is))
          (case c => ((try dsimp only [L2.KOf]); k_is))
          (case k => ((try dsimp only [L2.KOf]); k_is))
          (case b => exact fun _ _ _ _ _ _ us hl => match us, hl with | [_, _], _ => rfl)
          (case ok => exact fun hO _ _ F => Cs.ok_i_InvalidText hO (by ((try dsimp only [L2.KOf]); k_is)) F))
        (case f0_position => ((try dsimp only [L2.KOf]); k_is))
        (case N1 =>
          refine' Cs.new_mk (st := Cs.s_i_InvalidLexer) (qn := "InvalidLexer.__init__") (ps := ["self", "reason", "mode", "rule"]) (PySem.W.mg_of KX G ?g) ?o ?r ?sa ?tC ?e ?iC ?tI ?l ?c ?k ?b ?ok
          (case g => ((try dsimp only [L2.KOf]); k_is))
          (case o => ((try dsimp only [L2.KOf]); k_is))
          (case r => decide +kernel)
          (case sa => ((try dsimp only [L2.KOf]); k_is))
          (case tC => ((try dsimp only [L2.KOf]); k_is))
          (case e =>
            (try dsimp only [L2.KOf])
            refine Cs.eB_mk ?_ ?_ ?_ ?_ ?_ ?_ ?_ ?_ ?_
            all_goals k_is)
          (case iC => ((try dsimp only [L2.KOf]); k_is))
          (case tI => ((try dsimp only [L2.KOf]); k_is))
          (case l => ((try dsimp only [L2.KOf]); k_is))
          (case c => ((try dsimp only [L2.KOf]); k_is))
          (case k => ((try dsimp only [L2.KOf]); k_is))
          (case b => exact fun _ _ _ _ _ _ us hl => match us, hl with | [_, _, _, _], _ => rfl)
          (case ok => exact fun hO _ _ F => Cs.ok_i_InvalidLexer hO (by ((try dsimp only [L2.KOf]); k_is)) (by ((try dsimp only [L2.KOf]); k_is)) (by ((try dsimp only [L2.KOf]); k_is)) F))
        (case f1_reason => ((try dsimp only [L2.KOf]); k_is))
        (case f1_mode => ((try dsimp only [L2.KOf]); k_is))
        (case f1_rule => ((try dsimp only [L2.KOf]); k_is))
        (case N2 =>
          refine' Cs.new_mk (st := Cs.s_i_TooLarge) (qn := "TooLarge.__init__") (ps := ["self", "what"]) (PySem.W.mg_of KX G ?g) ?o ?r ?sa ?tC ?e ?iC ?tI ?l ?c ?k ?b ?ok
          (case g => ((try dsimp only [L2.KOf]); k_is))
          (case o => ((try dsimp only [L2.KOf]); k_is))
          (case r => decide +kernel)
          (case sa => ((try dsimp only [L2.KOf]); k_is))
          (case tC => ((try dsimp only [L2.KOf]); k_is))
          (case e =>
            (try dsimp only [L2.KOf])
            refine Cs.eB_mk ?_ ?_ ?_ ?_ ?_ ?_ ?_ ?_ ?_
            all_goals k_is)
          (case iC => ((try dsimp only [L2.KOf]); k_is))
          (case tI => ((try dsimp only [L2.KOf]); k_is))
          (case l => ((try dsimp only [L2.KOf]); k_is))
          (case c => ((try dsimp only [L2.KOf]); k_is))
          (case k => ((try dsimp only [L2.KOf]); k_is))
          (case b => exact fun _ _ _ _ _ _ us hl => match us, hl with | [_, _], _ => rfl)
          (case ok => exact fun hO _ _ F => Cs.ok_i_TooLarge hO (by ((try dsimp only [L2.KOf]); k_is)) F))
        (case f2_what => ((try dsimp only [L2.KOf]); k_is))
        (case N3 =>
          refine' Cs.new_mk (st := Cs.s_i_UnknownMode) (qn := "UnknownMode.__init__") (ps := ["self", "name"]) (PySem.W.mg_of KX G ?g) ?o ?r ?sa ?tC ?e ?iC ?tI ?l ?c ?k ?b ?ok
          (case g => ((try dsimp only [L2.KOf]); k_is))
          (case o => ((try dsimp only [L2.KOf]); k_is))
          (case r => decide +kernel)
          (case sa => ((try dsimp only [L2.KOf]); k_is))
          (case tC => ((try dsimp only [L2.KOf]); k_is))
          (case e =>
            (try dsimp only [L2.KOf])
            refine Cs.eB_mk ?_ ?_ ?_ ?_ ?_ ?_ ?_ ?_ ?_
            all_goals k_is)
          (case iC => ((try dsimp only [L2.KOf]); k_is))
          (case tI => ((try dsimp only [L2.KOf]); k_is))
          (case l => ((try dsimp only [L2.KOf]); k_is))
          (case c => ((try dsimp only [L2.KOf]); k_is))
          (case k => ((try dsimp only [L2.KOf]); k_is))
          (case b => exact fun _ _ _ _ _ _ us hl => match us, hl with | [_, _], _ => rfl)
          (case ok => exact fun hO _ _ F => Cs.ok_i_UnknownMode hO (by ((try dsimp only [L2.KOf]); k_is)) F))
        (case f3_name => ((try dsimp only [L2.KOf]); k_is))
        (case N4 =>
          refine' Cs.new_mk (st := Cs.s_i_UnknownRule) (qn := "UnknownRule.__init__") (ps := ["self", "name"]) (PySem.W.mg_of KX G ?g) ?o ?r ?sa ?tC ?e ?iC ?tI ?l ?c ?k ?b ?ok
          (case g => ((try dsimp only [L2.KOf]); k_is))
          (case o => ((try dsimp only [L2.KOf]); k_is))
          (case r => decide +kernel)
          (case sa => ((try dsimp only [L2.KOf]); k_is))
          (case tC => ((try dsimp only [L2.KOf]); k_is))
          (case e =>
            (try dsimp only [L2.KOf])
            refine Cs.eB_mk ?_ ?_ ?_ ?_ ?_ ?_ ?_ ?_ ?_
            all_goals k_is)
          (case iC => ((try dsimp only [L2.KOf]); k_is))
          (case tI => ((try dsimp only [L2.KOf]); k_is))
          (case l => ((try dsimp only [L2.KOf]); k_is))
          (case c => ((try dsimp only [L2.KOf]); k_is))
          (case k => ((try dsimp only [L2.KOf]); k_is))
          (case b => exact fun _ _ _ _ _ _ us hl => match us, hl with | [_, _], _ => rfl)
          (case ok => exact fun hO _ _ F => Cs.ok_i_UnknownRule hO (by ((try dsimp only [L2.KOf]); k_is)) F))
        (case f4_name => ((try dsimp only [L2.KOf]); k_is))
        (case q5 => ((try dsimp only [L2.KOf]); k_exc))
        (case N6 =>
          refine' Cs.new_mk (st := Cs.s_i_InvalidRange) (qn := "InvalidRange.__init__") (ps := ["self", "position"]) (PySem.W.mg_of KX G ?g) ?o ?r ?sa ?tC ?e ?iC ?tI ?l ?c ?k ?b ?ok
          (case g => ((try dsimp only [L2.KOf]); k_is))
          (case o => ((try dsimp only [L2.KOf]); k_is))
          (case r => decide +kernel)
          (case sa => ((try dsimp only [L2.KOf]); k_is))
          (case tC => ((try dsimp only [L2.KOf]); k_is))
          (case e =>
            (try dsimp only [L2.KOf])
            refine Cs.eB_mk ?_ ?_ ?_ ?_ ?_ ?_ ?_ ?_ ?_
            all_goals k_is)
          (case iC => ((try dsimp only [L2.KOf]); k_is))
          (case tI => ((try dsimp only [L2.KOf]); k_is))
          (case l => ((try dsimp only [L2.KOf]); k_is))
          (case c => ((try dsimp only [L2.KOf]); k_is))
          (case k => ((try dsimp only [L2.KOf]); k_is))
          (case b => exact fun _ _ _ _ _ _ us hl => match us, hl with | [_, _], _ => rfl)
          (case ok => exact fun hO _ _ F => Cs.ok_i_InvalidRange hO (by ((try dsimp only [L2.KOf]); k_is)) F))
        (case f6_position => ((try dsimp only [L2.KOf]); k_is))
        (case N7 =>
          refine' Cs.new_mk (st := Cs.s_i_TooLong) (qn := "TooLong.__init__") (ps := ["self", "length"]) (PySem.W.mg_of KX G ?g) ?o ?r ?sa ?tC ?e ?iC ?tI ?l ?c ?k ?b ?ok
          (case g => ((try dsimp only [L2.KOf]); k_is))
          (case o => ((try dsimp only [L2.KOf]); k_is))
          (case r => decide +kernel)
          (case sa => ((try dsimp only [L2.KOf]); k_is))
          (case tC => ((try dsimp only [L2.KOf]); k_is))
          (case e =>
            (try dsimp only [L2.KOf])
            refine Cs.eB_mk ?_ ?_ ?_ ?_ ?_ ?_ ?_ ?_ ?_
            all_goals k_is)
          (case iC => ((try dsimp only [L2.KOf]); k_is))
          (case tI => ((try dsimp only [L2.KOf]); k_is))
          (case l => ((try dsimp only [L2.KOf]); k_is))
          (case c => ((try dsimp only [L2.KOf]); k_is))
          (case k => ((try dsimp only [L2.KOf]); k_is))
          (case b => exact fun _ _ _ _ _ _ us hl => match us, hl with | [_, _], _ => rfl)
          (case ok => exact fun hO _ _ F => Cs.ok_i_TooLong hO (by ((try dsimp only [L2.KOf]); k_is)) F))
        (case f7_length => ((try dsimp only [L2.KOf]); k_is))
        (case q8 => ((try dsimp only [L2.KOf]); k_exc))
        (case q9 => ((try dsimp only [L2.KOf]); k_exc))
        (case N10 =>
          refine' Cs.new_mk (st := Cs.s_i_InvalidWord) (qn := "InvalidWord.__init__") (ps := ["self", "index"]) (PySem.W.mg_of KX G ?g) ?o ?r ?sa ?tC ?e ?iC ?tI ?l ?c ?k ?b ?ok
          (case g => ((try dsimp only [L2.KOf]); k_is))
          (case o => ((try dsimp only [L2.KOf]); k_is))
          (case r => decide +kernel)
          (case sa => ((try dsimp only [L2.KOf]); k_is))
          (case tC => ((try dsimp only [L2.KOf]); k_is))
          (case e =>
            (try dsimp only [L2.KOf])
            refine Cs.eB_mk ?_ ?_ ?_ ?_ ?_ ?_ ?_ ?_ ?_
            all_goals k_is)
          (case iC => ((try dsimp only [L2.KOf]); k_is))
          (case tI => ((try dsimp only [L2.KOf]); k_is))
          (case l => ((try dsimp only [L2.KOf]); k_is))
          (case c => ((try dsimp only [L2.KOf]); k_is))
          (case k => ((try dsimp only [L2.KOf]); k_is))
          (case b => exact fun _ _ _ _ _ _ us hl => match us, hl with | [_, _], _ => rfl)
          (case ok => exact fun hO _ _ F => Cs.ok_i_InvalidWord hO (by ((try dsimp only [L2.KOf]); k_is)) F))
        (case f10_index => ((try dsimp only [L2.KOf]); k_is))
        (case N11 =>
          refine' Cs.new_mk (st := Cs.s_i_InvalidNotation) (qn := "InvalidNotation.__init__") (ps := ["self", "index"]) (PySem.W.mg_of KX G ?g) ?o ?r ?sa ?tC ?e ?iC ?tI ?l ?c ?k ?b ?ok
          (case g => ((try dsimp only [L2.KOf]); k_is))
          (case o => ((try dsimp only [L2.KOf]); k_is))
          (case r => decide +kernel)
          (case sa => ((try dsimp only [L2.KOf]); k_is))
          (case tC => ((try dsimp only [L2.KOf]); k_is))
          (case e =>
            (try dsimp only [L2.KOf])
            refine Cs.eB_mk ?_ ?_ ?_ ?_ ?_ ?_ ?_ ?_ ?_
            all_goals k_is)
          (case iC => ((try dsimp only [L2.KOf]); k_is))
          (case tI => ((try dsimp only [L2.KOf]); k_is))
          (case l => ((try dsimp only [L2.KOf]); k_is))
          (case c => ((try dsimp only [L2.KOf]); k_is))
          (case k => ((try dsimp only [L2.KOf]); k_is))
          (case b => exact fun _ _ _ _ _ _ us hl => match us, hl with | [_, _], _ => rfl)
          (case ok => exact fun hO _ _ F => Cs.ok_i_InvalidNotation hO (by ((try dsimp only [L2.KOf]); k_is)) F))
        (case f11_index => ((try dsimp only [L2.KOf]); k_is))
        (case N12 =>
          refine' Cs.new_mk (st := Cs.s_i_InvalidName) (qn := "InvalidName.__init__") (ps := ["self", "name"]) (PySem.W.mg_of KX G ?g) ?o ?r ?sa ?tC ?e ?iC ?tI ?l ?c ?k ?b ?ok
          (case g => ((try dsimp only [L2.KOf]); k_is))
          (case o => ((try dsimp only [L2.KOf]); k_is))
          (case r => decide +kernel)
          (case sa => ((try dsimp only [L2.KOf]); k_is))
          (case tC => ((try dsimp only [L2.KOf]); k_is))
          (case e =>
            (try dsimp only [L2.KOf])
            refine Cs.eB_mk ?_ ?_ ?_ ?_ ?_ ?_ ?_ ?_ ?_
            all_goals k_is)
          (case iC => ((try dsimp only [L2.KOf]); k_is))
          (case tI => ((try dsimp only [L2.KOf]); k_is))
          (case l => ((try dsimp only [L2.KOf]); k_is))
          (case c => ((try dsimp only [L2.KOf]); k_is))
          (case k => ((try dsimp only [L2.KOf]); k_is))
          (case b => exact fun _ _ _ _ _ _ us hl => match us, hl with | [_, _], _ => rfl)
          (case ok => exact fun hO _ _ F => Cs.ok_i_InvalidName hO (by ((try dsimp only [L2.KOf]); k_is)) F))
        (case f12_name => ((try dsimp only [L2.KOf]); k_is))
        (case N13 =>
          refine' Cs.new_mk (st := Cs.s_i_Incompatible) (qn := "Incompatible.__init__") (ps := ["self", "document"]) (PySem.W.mg_of KX G ?g) ?o ?r ?sa ?tC ?e ?iC ?tI ?l ?c ?k ?b ?ok
          (case g => ((try dsimp only [L2.KOf]); k_is))
          (case o => ((try dsimp only [L2.KOf]); k_is))
          (case r => decide +kernel)
          (case sa => ((try dsimp only [L2.KOf]); k_is))
          (case tC => ((try dsimp only [L2.KOf]); k_is))
          (case e =>
            (try dsimp only [L2.KOf])
            refine Cs.eB_mk ?_ ?_ ?_ ?_ ?_ ?_ ?_ ?_ ?_
            all_goals k_is)
          (case iC => ((try dsimp only [L2.KOf]); k_is))
          (case tI => ((try dsimp only [L2.KOf]); k_is))
          (case l => ((try dsimp only [L2.KOf]); k_is))
          (case c => ((try dsimp only [L2.KOf]); k_is))
          (case k => ((try dsimp only [L2.KOf]); k_is))
          (case b => exact fun _ _ _ _ _ _ us hl => match us, hl with | [_, _], _ => rfl)
          (case ok => exact fun hO _ _ F => Cs.ok_i_Incompatible hO (by ((try dsimp only [L2.KOf]); k_is)) F))
        (case f13_document => ((try dsimp only [L2.KOf]); k_is))
        (case N14 =>
          refine' Cs.new_mk (st := Cs.s_i_UnknownName) (qn := "UnknownName.__init__") (ps := ["self", "name"]) (PySem.W.mg_of KX G ?g) ?o ?r ?sa ?tC ?e ?iC ?tI ?l ?c ?k ?b ?ok
          (case g => ((try dsimp only [L2.KOf]); k_is))
          (case o => ((try dsimp only [L2.KOf]); k_is))
          (case r => decide +kernel)
          (case sa => ((try dsimp only [L2.KOf]); k_is))
          (case tC => ((try dsimp only [L2.KOf]); k_is))
          (case e =>
            (try dsimp only [L2.KOf])
            refine Cs.eB_mk ?_ ?_ ?_ ?_ ?_ ?_ ?_ ?_ ?_
            all_goals k_is)
          (case iC => ((try dsimp only [L2.KOf]); k_is))
          (case tI => ((try dsimp only [L2.KOf]); k_is))
          (case l => ((try dsimp only [L2.KOf]); k_is))
          (case c => ((try dsimp only [L2.KOf]); k_is))
          (case k => ((try dsimp only [L2.KOf]); k_is))
          (case b => exact fun _ _ _ _ _ _ us hl => match us, hl with | [_, _], _ => rfl)
          (case ok => exact fun hO _ _ F => Cs.ok_i_UnknownName hO (by ((try dsimp only [L2.KOf]); k_is)) F))
        (case f14_name => ((try dsimp only [L2.KOf]); k_is))
        (case N15 =>
          refine' Cs.new_mk (st := Cs.s_i_InUse) (qn := "InUse.__init__") (ps := ["self", "document"]) (PySem.W.mg_of KX G ?g) ?o ?r ?sa ?tC ?e ?iC ?tI ?l ?c ?k ?b ?ok
          (case g => ((try dsimp only [L2.KOf]); k_is))
          (case o => ((try dsimp only [L2.KOf]); k_is))
          (case r => decide +kernel)
          (case sa => ((try dsimp only [L2.KOf]); k_is))
          (case tC => ((try dsimp only [L2.KOf]); k_is))
          (case e =>
            (try dsimp only [L2.KOf])
            refine Cs.eB_mk ?_ ?_ ?_ ?_ ?_ ?_ ?_ ?_ ?_
            all_goals k_is)
          (case iC => ((try dsimp only [L2.KOf]); k_is))
          (case tI => ((try dsimp only [L2.KOf]); k_is))
          (case l => ((try dsimp only [L2.KOf]); k_is))
          (case c => ((try dsimp only [L2.KOf]); k_is))
          (case k => ((try dsimp only [L2.KOf]); k_is))
          (case b => exact fun _ _ _ _ _ _ us hl => match us, hl with | [_, _], _ => rfl)
          (case ok => exact fun hO _ _ F => Cs.ok_i_InUse hO (by ((try dsimp only [L2.KOf]); k_is)) F))
        (case f15_document => ((try dsimp only [L2.KOf]); k_is))
        (case N16 =>
          refine' Cs.new_mk (st := Cs.s_i_NameInUse) (qn := "NameInUse.__init__") (ps := ["self", "document"]) (PySem.W.mg_of KX G ?g) ?o ?r ?sa ?tC ?e ?iC ?tI ?l ?c ?k ?b ?ok
          (case g => ((try dsimp only [L2.KOf]); k_is))
          (case o => ((try dsimp only [L2.KOf]); k_is))
          (case r => decide +kernel)
          (case sa => ((try dsimp only [L2.KOf]); k_is))
          (case tC => ((try dsimp only [L2.KOf]); k_is))
          (case e =>
            (try dsimp only [L2.KOf])
            refine Cs.eB_mk ?_ ?_ ?_ ?_ ?_ ?_ ?_ ?_ ?_
            all_goals k_is)
          (case iC => ((try dsimp only [L2.KOf]); k_is))
          (case tI => ((try dsimp only [L2.KOf]); k_is))
          (case l => ((try dsimp only [L2.KOf]); k_is))
          (case c => ((try dsimp only [L2.KOf]); k_is))
          (case k => ((try dsimp only [L2.KOf]); k_is))
          (case b => exact fun _ _ _ _ _ _ us hl => match us, hl with | [_, _], _ => rfl)
          (case ok => exact fun hO _ _ F => Cs.ok_i_NameInUse hO (by ((try dsimp only [L2.KOf]); k_is)) F))
        (case f16_document => ((try dsimp only [L2.KOf]); k_is))
        (case q17 => ((try dsimp only [L2.KOf]); k_exc))
        (case q18 => ((try dsimp only [L2.KOf]); k_exc))
      obtain ⟨cl, root, T, N⟩ := all
      have Gc := Cs.ok_classes (P := PySem.Challenge.rw_cutscribe_k92_errors_made.prog) (w := w) (base := base) B T A__law_classes
      have Gm := Cs.ok_made B T N A__law_made
      exact Cs.ok_law B BV T Gs Gd Gv Gc Gm F)
#print axioms PySem.Challenge.cw_cutscribe_k92_errors_made_holds
