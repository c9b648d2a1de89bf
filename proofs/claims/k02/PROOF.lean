import PyProof.Rows.All
import Wide.All
import OpenK.AllK
import Wide.FinOn
import HandS.ForMost
import HandS.Flow
import HandS.TupAny
import HandS.TupMul
import HandS.Conv
import HandS.IsInst
import HandS.Strs
import HandS.SetFor
import HandS.ExcInit
import HandS.ExcValue
import HandS.ExcIs
import HandS.ExcField
import KE.KExcIs
import PySem.Challenge.RW_cutscribe_k02_patterns_at_the_bounds
set_option Elab.async false
set_option linter.all false
set_option maxRecDepth 100000
set_option maxHeartbeats 4000000
/-! What every law of this place leans on: callees by name, readings step by step, the heap beside the source of draws. -/
namespace Cs
open PySem L2
open PyProof.Rows (envOfC)

/-! ### callees -/
structure At (K : PySem.W.Frag) (mg : Str → Option Value) (x : Str) (st : Stmt) (ps : List Str) : Prop where
  ex : ∃ f fd, Fun K x x st f fd ∧ mg x = some (.ref f) ∧ Binds K fd ps []
structure Cal (P : Program) (w : World) (K : PySem.W.Frag) (mg : Str → Option Value) (base : Heap) (k : Nat) (x : Str) (ps : List Str) (sp : Sp) : Prop where
  ex : ∃ f fd, mg x = some (.ref f) ∧ PySem.W.keepIn K (.ref f) = true ∧ Binds K fd ps [] ∧ FnOk P w K mg base CX0 k f fd ps sp
section
variable {P : Program} {w : World} {K : PySem.W.Frag} {mg : Str → Option Value} {base : Heap}
theorem Cal.mono {j k : Nat} {x : Str} {ps : List Str} {sp : Sp} (C : Cal P w K mg base j x ps sp) (h : j ≤ k) : Cal P w K mg base k x ps sp := by
  obtain ⟨f, fd, a, b, c, d⟩ := C.ex
  exact ⟨f, fd, a, b, c, d.mono h⟩
theorem Cal.imp {k : Nat} {x : Str} {ps : List Str} {sp sp' : Sp} (C : Cal P w K mg base k x ps sp) (h : ∀ vs H Q E, sp' vs H Q E → sp vs H Q E) : Cal P w K mg base k x ps sp' := by
  obtain ⟨f, fd, a, b, c, d⟩ := C.ex
  exact ⟨f, fd, a, b, c, d.imp h⟩
theorem At.ok {x : Str} {st : Stmt} {N ps : List Str} {k : Nat} {sp : Sp} (F : At K mg x st ps) (S : FnScope N ps (defScope st)) (len : ∀ vs H Q E, sp vs H Q E → vs.length = ps.length)
    (hbody : ∀ (f : Addr) (cdv : Value) (A : Around) (outer : List Env) (s : Shared) (H : Hp) (vs : List V) (Q : VK) (E : XK), Room k (A.deeper (envOfC x (defScope st) s.heap.objs.size f cdv)) → sp vs H Q E →
      ∃ t, PSs (cxOf CX0 P w K mg base N x (defScope st) f cdv A outer s H E).nox (defBody st) t ∧ t { nx := fun _ H' => Q .non H', rt := Q } (start N vs) H) : Cal P w K mg base (k + 1) x ps sp := by
  obtain ⟨f, fd, F, m, b⟩ := F.ex
  exact ⟨f, fd, m, F.kp, b, F.ok S len (hbody f)⟩
end
section
variable {X : Cx} {k : Nat} {x : Str} {ps : List Str} {sp : Sp} {p pos : Pos} {e : Expr} {es : List Expr} {t : TA}
theorem pe_c (C : Cal X.prog X.w X.K X.mg X.base k x ps sp) (hr : Room k X.A) (ha : PA X (e :: es) t) (hg : Gl X x := by rfl) (hdb : (x == ("__debug__" : Str)) = false := by decide) (he : starEach (e :: es) X.env = (false, eval e X.env) :: starEach es X.env := by rfl)
    (hpl : (backTo pos (starEach es X.env)).any (·.1) = false := by rfl) : PE X (.Call (.Name x p) (e :: es) [] pos) (tCall sp [] E0 t) := by
  obtain ⟨f, fd, hm, hk, hb, F⟩ := C.ex
  exact pe_call F hr hg hm hk hb .nil pass0 ha hdb he hpl
end

/-- a built-in class as a value -/
theorem pe_ty {X : Cx} {x : Str} {T : String} {pos : Pos} (hm : X.mg x = none) (hv : bootBuiltins x = some (.type T)) (hg : Gl X x := by rfl) (hn : x ≠ "__name__" := by decide) (hd : (x == ("__debug__" : Str)) = false := by decide) : PE X (.Name x pos) (tC (.ty T)) := pe_bltn hg hm hv rfl hn hd
/-- a module's constant -/
theorem pe_k {X : Cx} {x : Str} {v : V} {pos : Pos} (h : ∃ u, X.mg x = some u ∧ RelV v u) (hg : Gl X x := by rfl) (hd : (x == ("__debug__" : Str)) = false := by decide) : PE X (.Name x pos) (tC v) := by
  obtain ⟨u, hm, r⟩ := h
  exact pe_glob hg hm r hd

/-! ### the rules whose reading names the written part, with that part given: within a comprehension's block it must not lean on the block -/
section
variable {X : Cx} {K : PySem.W.Frag} {tg : Expr}
def rLenQ (K : PySem.W.Frag) : List V → Hp → VK → Prop := fun xs H Q => ∃ p ys, xs = [.ref p] ∧ (SqL K H p ys ∨ SqT K H p ys) ∧ Q (.int ys.length) H
def rTupOf (K : PySem.W.Frag) : List V → Hp → VK → Prop := fun xs H Q => ∃ p ys, xs = [.ref p] ∧ ((SqL K H p ys ∧ ∀ l, H l = none → Q (.ref l) (upd H l (.tup ys))) ∨ (SqT K H p ys ∧ Q (.ref p) H))
def rLstOf (K : PySem.W.Frag) : List V → Hp → VK → Prop := fun xs H Q => ∃ p ys, xs = [.ref p] ∧ (SqL K H p ys ∨ SqT K H p ys) ∧ ∀ l, H l = none → Q (.ref l) (upd H l (.lst ys))
theorem call_len_seqK (h : X.K = K) : CallR X (.builtin "len") (rLenQ K) := by subst h; exact call_len_seq
theorem call_tuple_ofK (h : X.K = K) : CallR X (.type "tuple") (rTupOf K) := by subst h; exact call_tuple_of
theorem call_list_ofK (h : X.K = K) : CallR X (.type "list") (rLstOf K) := by subst h; exact call_list_of
theorem call_isiK' (h : X.K = K) : CallR X (.builtin "isinstance") (rIsi K) := by subst h; exact call_isi
theorem ix_listK (h : X.K = K) : IxR X (rIxL K) := by subst h; exact ix_list
theorem ix_tupK (h : X.K = K) : IxR X (rIxT K) := by subst h; exact ix_tup
theorem op_in_seqK (h : X.K = K) : OpR X (compareOp .In) (rIn K false) := by subst h; exact op_in_seq
theorem op_notIn_seqK (h : X.K = K) : OpR X (compareOp .NotIn) (rIn K true) := by subst h; exact op_notIn_seq
theorem op_eqDK (h : X.K = K) (hu : X.A.units + 64 < cLine) : OpR X (compareOp .Eq) (rEqD K) := by subst h; exact op_eqD hu
theorem op_neDK (h : X.K = K) (hu : X.A.units + 64 < cLine) : OpR X (compareOp .NotEq) (rNeD K) := by subst h; exact op_neD hu
theorem op_catTK (h : X.K = K) : OpR X (binaryOp .Add) (rCatT K) := by subst h; exact op_catT
theorem sl_listK (h : X.K = K) : SlR X (rSlL K) := by subst h; exact sl_list
theorem sl_tupAK (h : X.K = K) : SlR X (rSlA K) := by subst h; exact sl_tupA
theorem cr_sumK (h : X.K = K) (hc : X.calm = true) : CallR X (.builtin "sum") (rSum K) := by subst h; exact cr_sum hc
theorem cr_allK (h : X.K = K) (hc : X.calm = true) : CallR X (.builtin "all") (rAll K) := by subst h; exact cr_all hc
theorem cr_anyK (h : X.K = K) (hc : X.calm = true) : CallR X (.builtin "any") (rAny K) := by subst h; exact cr_any hc
theorem mt_indexK (h : X.K = K) : MtR X "list.index" (rIndex K) := by subst h; exact mt_index
theorem pi_listK {l : Expr} {tl : TE} (h : X.K = K) (hl : PE X l tl) : PI X tg l (iList K tl) := by subst h; exact pi_list hl
theorem pi_tupK {l : Expr} {tl : TE} (h : X.K = K) (hl : PE X l tl) : PI X tg l (iTup K tl) := by subst h; exact pi_tup hl
theorem pg_tupK {es : List Expr} {k : Nat} {t : TGs} {n : Nat} {pos : Pos} (hK : X.K = K) (hc : X.calm = true) (h : PGs X es t)
    (hn : (assignEach es X.env).length = n := by rfl) (hst : (assignEach es X.env).findIdx? (·.1) = none := by rfl) : PG X (.Tuple es k pos) (gTup K n t) := by subst hK; exact pg_tup hc h hn hst
def tTruth (K : PySem.W.Frag) (ta : TE) : TT := fun σ H Q => ta σ H fun x H' => ∃ k, TruV K x H' k ∧ Q k H'
theorem pt_truthK {a : Expr} {ta : TE} (h : X.K = K) (ha : PE X a ta) (he : ∀ whole, isTrue a X.env whole = (do let v ← whole; standAt a.pos; holding [v] (truthy v)) := by intro _; rfl) : PT X a (tTruth K ta) := by subst h; exact pt_truth ha he
variable {o e : Expr} {es : List Expr} {to te : TE} {t : TA} {name : Str} {apos cpos pos : Pos} {T id : String} {r : V → List V → Hp → VK → Prop}
theorem pe_bm0K (h : X.K = K) (pa : PlainAttrs T) (slot : Slot T name id) (hty : typeOf (.builtin id) = pure (.type "method_descriptor")) (hm : MtR X id r) (ho : PE X o to)
    (hbase : attributeBase o name X.env (eval o X.env) = eval o X.env := by rfl) (hline : (apos.endLine == cpos.line) = true := by rfl) : PE X (.Call (.Attribute o name apos) [] [] cpos) (tBM0 K T r to) := by subst h; exact pe_bm0 pa slot hty hm ho hbase hline
theorem pe_bmK (h : X.K = K) (pa : PlainAttrs T) (slot : Slot T name id) (hty : typeOf (.builtin id) = pure (.type "method_descriptor")) (hm : MtR X id r) (ho : PE X o to) (ha : PA X (e :: es) t)
    (hbase : attributeBase o name X.env (eval o X.env) = eval o X.env := by rfl)
    (hfew : ((backTo cpos (starEach (e :: es) X.env)).all (fun x => !x.1) && (backToKw cpos (keywordEach [] X.env)).all (fun x => x.1.isSome)
      && decide ((e :: es).length + ([] : List Keyword).length + (if ([] : List Keyword).isEmpty then 0 else 1) < 30)) = true := by rfl)
    (hline : (apos.endLine == cpos.line) = true := by rfl) (hs : starEach (e :: es) X.env = (false, eval e X.env) :: starEach es X.env := by rfl) (hplain : (backTo cpos (starEach es X.env)).any (·.1) = false := by rfl) :
    PE X (.Call (.Attribute o name apos) (e :: es) [] cpos) (tBM K T r to t) := by subst h; exact pe_bm pa slot hty hm ho ha hbase hfew hline hs hplain
def rJoin (K : PySem.W.Frag) : V → List V → Hp → VK → Prop := fun x xs H Q => ∃ a p, ∃ ys : List Str, x = .str a ∧ xs = [.ref p] ∧ (SqL K H p (ys.map V.str) ∨ SqT K H p (ys.map V.str)) ∧ (ys.map (·.length)).sum + ys.length * a.length ≤ 16777216 ∧ Q (.str (Txt.join a ys)) H
theorem pe_joinK (h : X.K = K) (ho : PE X o to) (he : PE X e te) (hs : starEach [e] X.env = [(false, eval e X.env)] := by rfl) (hbase : attributeBase o "join" X.env (eval o X.env) = eval o X.env := by rfl) (hline : (apos.endLine == pos.line) = true := by rfl) :
    PE X (.Call (.Attribute o "join" apos) [e] [] pos) (tM1 (rJoin K) to te) := by subst h; exact pe_join ho he hs hbase hline
end

/-! ### readings, step by step -/
section
variable {σ : St} {H : Hp} {D : Ends} {Q : VK} {t u : TS} {te ta tb tc : TE} {v x y : V} {i : Nat} {tt c c2 : TT} {tas : TA} {K : PySem.W.Frag}
theorem rd_seq (h : t { D with nx := u D } σ H) : tSeq t u D σ H := h
theorem rd_next (h : D.nx σ H) : tNext D σ H := h
theorem rd_asg {g : TG} (h : te σ H fun x H1 => g x σ H1 D.nx) : tAsg te g D σ H := h
theorem rd_gname {R : St → Hp → Prop} (h : R (σ.set i (some v)) H) : gName i v σ H R := h
theorem rd_var (e : σ[i]? = some (some v)) (q : Q v H) : tVar i σ H Q := ⟨v, e, q⟩
theorem rd_c (q : Q v H) : tC v σ H Q := q
theorem rd_op {r : R2} (h : ta σ H fun x H1 => tb σ H1 fun y H2 => r x y H2 Q) : tOp r ta tb σ H Q := h
theorem rd_un {r : V → Hp → VK → Prop} (h : ta σ H fun x H1 => r x H1 Q) : tUn r ta σ H Q := h
theorem rd_test {R : Bool → Hp → Prop} (h : te σ H fun x H' => ∃ k, x = .bl k ∧ R k H') : tTest te σ H R := h
theorem rd_tB {R : Bool → Hp → Prop} (h : te σ H fun x H' => ∃ k, x = .bl k ∧ R k H') : tB te σ H R := h
theorem rd_bl {b : Bool} {R : Bool → Prop} (q : R b) : ∃ k, V.bl b = .bl k ∧ R k := ⟨b, rfl, q⟩
theorem rd_ifs (h : c σ H fun b H1 => if b = true then t D σ H1 else u D σ H1) : tIfS c t u D σ H := h
theorem rd_ret (h : te σ H D.rt) : tRet te D σ H := h
theorem rd_retN (h : D.rt .non H) : tRetN D σ H := h
theorem rd_drop (h : te σ H fun _ H1 => D.nx σ H1) : tDrop te D σ H := h
theorem rd_nil {R : List V → Hp → Prop} (h : R [] H) : tNil σ H R := h
theorem rd_cons {R : List V → Hp → Prop} (h : te σ H fun x H1 => tas σ H1 fun xs H2 => R (x :: xs) H2) : tCons te tas σ H R := h
/-- a new object at any free place -/
def New (H : Hp) (o : HO) (R : Addr → Hp → Prop) : Prop := ∀ p, H p = none → R p (upd H p o)
theorem rd_tup (h : tas σ H fun xs H1 => xs.length ≤ sizeLine ∧ New H1 (.tup xs) fun p H2 => Q (.ref p) H2) : tTup tas σ H Q := h
theorem rd_lst (h : tas σ H fun xs H1 => xs.length ≤ sizeLine ∧ New H1 (.lst xs) fun p H2 => Q (.ref p) H2) : tLst tas σ H Q := h
theorem rd_catT {a b : Addr} {xs ys : List V} (h1 : SqT K H a xs) (h2 : SqT K H b ys) (h3 : xs ≠ []) (h4 : xs.length + ys.length ≤ sizeLine) (q1 : ys = [] → Q (.ref a) H) (q2 : ys ≠ [] → New H (.tup (xs ++ ys)) fun p H2 => Q (.ref p) H2) : rCatT K (.ref a) (.ref b) H Q := ⟨a, b, xs, ys, rfl, rfl, h1, h2, h3, h4, q1, q2⟩
theorem rd_tupl {a : Addr} {xs : List V} (h : SqL K H a xs) (q : New H (.tup xs) fun p H2 => Q (.ref p) H2) : rTupOf K [V.ref a] H Q := ⟨a, xs, rfl, .inl ⟨h, q⟩⟩
theorem rd_tupt {a : Addr} {xs : List V} (h : SqT K H a xs) (q : Q (.ref a) H) : rTupOf K [V.ref a] H Q := ⟨a, xs, rfl, .inr ⟨h, q⟩⟩
theorem rd_lstof {a : Addr} {xs : List V} (h : SqL K H a xs ∨ SqT K H a xs) (q : New H (.lst xs) fun p H2 => Q (.ref p) H2) : rLstOf K [V.ref a] H Q := ⟨a, xs, rfl, h, q⟩
theorem rd_cb {r : List V → Hp → VK → Prop} (h : tas σ H fun vs H1 => r vs H1 Q) : tCB r tas σ H Q := h
theorem rd_call {sp : Sp} {E : XK} (h : tas σ H fun vs H1 => sp (vs ++ []) H1 Q E) : tCall sp [] E tas σ H Q := h
theorem rd_and {R : Bool → Hp → Prop} (h : c σ H fun b H1 => if b = true then c2 σ H1 R else R false H1) : tAnd c c2 σ H R := h
theorem rd_or {R : Bool → Hp → Prop} (h : c σ H fun b H1 => if b = true then R true H1 else c2 σ H1 R) : tOr c c2 σ H R := h
theorem rd_not {R : Bool → Hp → Prop} (h : c σ H fun b H1 => R (!b) H1) : tNot c σ H R := h
theorem rd_andV (h : ta σ H fun x H1 => ∃ c, x = .bl c ∧ if c = true then tb σ H1 Q else Q (.bl false) H1) : tAndV ta tb σ H Q := h
theorem rd_orV (h : ta σ H fun x H1 => ∃ c, x = .bl c ∧ if c = true then Q (.bl true) H1 else tb σ H1 Q) : tOrV ta tb σ H Q := h
theorem rd_notV (h : ta σ H fun x H1 => ∃ c, x = .bl c ∧ Q (.bl (!c)) H1) : tNotV ta σ H Q := h
theorem rd_ife (h : c σ H fun b H1 => if b = true then ta σ H1 Q else tb σ H1 Q) : tIf c ta tb σ H Q := h
theorem rd_bm0 {T : String} {r : V → List V → Hp → VK → Prop} (h : te σ H fun x H1 => tyV K T x H1 ∧ r x [] H1 Q) : tBM0 K T r te σ H Q := h
theorem rd_bm {T : String} {r : V → List V → Hp → VK → Prop} (h : te σ H fun x H1 => tyV K T x H1 ∧ tas σ H1 fun xs H2 => r x xs H2 Q) : tBM K T r te tas σ H Q := h
theorem rd_gsub {to ti : TE} {s : TSet} {R : St → Hp → Prop} (h : to σ H fun o H1 => ti σ H1 fun i H2 => s o i v H2 fun H3 => R σ H3) : gSub to ti s v σ H R := h
theorem rd_i0 {g : Int → Int → V} {a b : Int} (q : Q (g a b) H) : rI0 g (.int a) (.int b) H Q := ⟨a, b, rfl, rfl, q⟩
theorem rd_i {C : Int → Int → Prop} {g : Int → Int → V} {a b : Int} (h : C a b) (q : Q (g a b) H) : rI C g (.int a) (.int b) H Q := ⟨a, b, rfl, rfl, h, q⟩
theorem rd_eq (h : scal x y = true) (q : Q (.bl (decide (x = y))) H) : rEq x y H Q := ⟨h, q⟩
theorem rd_ne (h : scal x y = true) (q : Q (.bl (!decide (x = y))) H) : rNe x y H Q := ⟨h, q⟩
theorem rd_ixl {a : Addr} {xs : List V} {n : Int} (h : SqL K H a xs) (e : atI xs n = some v) (q : Q v H) : rIxL K (.ref a) (.int n) H Q := ⟨a, xs, n, v, rfl, rfl, h, e, q⟩
theorem rd_ixt {a : Addr} {xs : List V} {n : Int} (h : SqT K H a xs) (e : atI xs n = some v) (q : Q v H) : rIxT K (.ref a) (.int n) H Q := ⟨a, xs, n, v, rfl, rfl, h, e, q⟩
theorem rd_setl {a : Addr} {xs : List V} {n : Int} {j : Nat} {R : Hp → Prop} (h : H a = some (.lst xs)) (e : ixN xs.length n = some j) (q : R (upd H a (.lst (xs.set j v)))) : rSetL (.ref a) (.int n) v H R := ⟨a, xs, n, j, rfl, rfl, h, e, q⟩
theorem rd_m1 {r : V → List V → Hp → VK → Prop} (h : ta σ H fun x H1 => (∃ a, x = .str a) ∧ tb σ H1 fun y H2 => r x [y] H2 Q) : tM1 r ta tb σ H Q := h
theorem rd_gtup {n : Nat} {a : Addr} {xs : List V} {ts : TGs} {R : St → Hp → Prop} (h : SqT K H a xs) (e : xs.length = n) (q : ts xs σ H R) : gTup K n ts (.ref a) σ H R := ⟨a, xs, rfl, h, e, q⟩
theorem rd_gcons {g : TG} {ts : TGs} {vs : List V} {R : St → Hp → Prop} (q : g v σ H fun σ' H' => ts vs σ' H' R) : gCons g ts (v :: vs) σ H R := ⟨v, vs, rfl, q⟩
theorem rd_gnil {R : St → Hp → Prop} (q : R σ H) : gNil [] σ H R := ⟨rfl, q⟩
theorem rd_truth {R : Bool → Hp → Prop} (h : te σ H fun x H' => ∃ k, TruV K x H' k ∧ R k H') : tTruth K te σ H R := h
theorem rd_yes {R : Bool → Hp → Prop} (h : R true H) : tYes σ H R := h
theorem rd_sl {r : V → Option Int → Option Int → Hp → VK → Prop} {tl th : TO} (h : te σ H fun x H1 => tl σ H1 fun l H2 => th σ H2 fun u H3 => r x l u H3 Q) : tSl r te tl th σ H Q := h
theorem rd_nopart {R : Option Int → Hp → Prop} (h : R none H) : tNoPart σ H R := h
theorem rd_part {R : Option Int → Hp → Prop} (h : te σ H fun x H1 => ∃ i, x = .int i ∧ R (some i) H1) : tPart te σ H R := h
theorem rd_int {n : Int} {R : Int → Prop} (q : R n) : ∃ k, V.int n = .int k ∧ R k := ⟨n, rfl, q⟩
theorem rd_strx {z : Str} {R : Prop} (q : R) : (∃ a, V.str z = .str a) ∧ R := ⟨⟨z, rfl⟩, q⟩
theorem rd_len {a : Addr} {xs : List V} (h : SqL K H a xs ∨ SqT K H a xs) (q : Q (.int xs.length) H) : rLenQ K [V.ref a] H Q := ⟨a, xs, rfl, h, q⟩
theorem rd_isi {v c : V} {tv u : Value} {b : Bool} (h1 : ClsV c u) (h2 : TyX K H v tv) (h3 : PySem.W.kitOne K tv u = some b) (q : Q (.bl b) H) : rIsi K [v, c] H Q := ⟨v, c, tv, u, b, rfl, h1, h2, h3, q⟩
theorem rd_in {x : V} {p : Addr} {xs : List V} {neg : Bool} (h : SqL K H p xs ∨ SqT K H p xs) (fx : flatV x = true) (fs : xs.all flatV = true) (q : Q (.bl (if neg then !inV x xs else inV x xs)) H) : rIn K neg x (.ref p) H Q := ⟨p, xs, rfl, h, fx, fs, q⟩
theorem rd_sla {a : Addr} {xs : List V} {lo hi : Option Int} (h : SqT K H a xs) (q1 : HT.sIx xs.length 0 lo = 0 ∧ HT.sIx xs.length xs.length hi = xs.length → Q (.ref a) H) (q2 : ¬ (HT.sIx xs.length 0 lo = 0 ∧ HT.sIx xs.length xs.length hi = xs.length) → New H (.tup (cutV xs lo hi)) fun p H2 => Q (.ref p) H2) : rSlA K (.ref a) lo hi H Q := ⟨a, xs, rfl, h, q1, q2⟩
theorem rd_sum {a : Addr} {ns : List Int} (h : SqL K H a (ns.map V.int)) (q : Q (.int ns.sum) H) : rSum K [V.ref a] H Q := ⟨a, ns, rfl, h, q⟩
theorem rd_all {a : Addr} {ns : List Bool} (h : SqL K H a (ns.map V.bl)) (q : Q (.bl (ns.all id)) H) : rAll K [V.ref a] H Q := ⟨a, ns, rfl, h, q⟩
theorem rd_any {a : Addr} {ns : List Bool} (h : SqL K H a (ns.map V.bl)) (q : Q (.bl (ns.any id)) H) : rAny K [V.ref a] H Q := ⟨a, ns, rfl, h, q⟩
theorem rd_chain {r r' : R2} (h : ta σ H fun x H1 => tb σ H1 fun y H2 => r x y H2 fun z H3 => ∃ k, z = .bl k ∧ (if k = true then tc σ H3 fun w' H4 => r' y w' H4 Q else Q (.bl false) H3)) : tChain r r' ta tb tc σ H Q := h
theorem rd_rng1 {R : It → Hp → Prop} (h : tas σ H fun vs H1 => ∃ j : Int, vs = [.int j] ∧ -(2 ^ 62) ≤ j ∧ j < 2 ^ 62 ∧ R (Itr 0 j.toNat) H1) : iRng1 tas σ H R := h
theorem rd_rng1j {n : Int} {R : Int → Prop} (h1 : -(2 ^ 62) ≤ n) (h2 : n < 2 ^ 62) (q : R n) : ∃ j : Int, ([V.int n] : List V) = [.int j] ∧ -(2 ^ 62) ≤ j ∧ j < 2 ^ 62 ∧ R j := ⟨n, rfl, h1, h2, q⟩
theorem rd_ilist {R : It → Hp → Prop} (h : te σ H fun x H1 => ∃ a, x = .ref a ∧ (∃ xs, SqL K H1 a xs) ∧ R (Itl K a) H1) : iList K te σ H R := h
theorem rd_itup {R : It → Hp → Prop} (h : te σ H fun x H1 => ∃ a, x = .ref a ∧ (∃ xs, SqT K H1 a xs) ∧ R (Itt K a) H1) : iTup K te σ H R := h
theorem rd_istr {R : It → Hp → Prop} (h : te σ H fun v H1 => ∃ x, v = .str x ∧ R (Its x) H1) : iStr te σ H R := h
theorem rd_strj {z : Str} {R : Str → Prop} (q : R z) : ∃ x, V.str z = .str x ∧ R x := ⟨z, rfl, q⟩
theorem rd_lc {wi : TI} {g : TG} {vs : List Nat} (h : wi σ H fun J H1 => ∀ D, H1 D = none → ∃ W : Nat → Nat → Hp → Prop, (∃ m, W 0 m (upd H1 D (.lst []))) ∧ ∀ i m H, W i m H →
  (J.stop i H ∧ Q (.ref D) H) ∨ (J.go i H ∧ ∃ Nx : Hp → Prop, (∀ H', Nx H' → ∃ m', m' < m ∧ W (i + 1) m' H') ∧ ∀ x H', J.yld i H x H' → g x (wipe σ vs) H' fun σ2 H2 => wipe σ2 vs = wipe σ vs ∧ tt σ2 H2 fun b H3 =>
    if b = true then te σ2 H3 fun y H4 => ∃ acc, H4 D = some (.lst acc) ∧ acc.length < sizeLine ∧ Nx (upd H4 D (.lst (acc ++ [y]))) else Nx H3)) : tLc wi g tt te vs σ H Q := h
theorem rd_for {wi : TI} {g : TG} (h : wi σ H fun J H1 => ∃ W : Nat → Nat → St → Hp → Prop, (∃ m, W 0 m σ H1) ∧ ∀ i m σ H, W i m σ H →
  (J.stop i H ∧ D.nx σ H) ∨ (J.go i H ∧ ∃ N : St → Hp → Prop, (∀ σ' H', N σ' H' → ∃ m', m' < m ∧ W (i + 1) m' σ' H') ∧ ∀ x H', J.yld i H x H' → g x σ H' fun σ2 H2 => t { D with nx := N, ct := N, bk := D.nx } σ2 H2)) : tFor wi g t D σ H := h
theorem rd_par {i j : Nat} (h : tas σ H fun vs H1 => ∃ v w, vs = [v, w] ∧ D.nx ((σ.set i (some v)).set j (some w)) H1) : tPar i j tas D σ H := h
theorem rd_parj {a b : V} {R : V → V → Prop} (q : R a b) : ∃ v w, ([a, b] : List V) = [v, w] ∧ R v w := ⟨a, b, rfl, q⟩
theorem rd_aug {ti : TIp} (e : σ[i]? = some (some x)) (h : te σ H fun y H1 => ti x y H1 fun z H2 => D.nx (σ.set i (some z)) H2) : tAug i te ti D σ H := ⟨x, e, h⟩
theorem rd_ipi {g : Int → Int → Int} {a b : Int} (q : Q (.int (g a b)) H) : ipI g (.int a) (.int b) H Q := ⟨a, b, rfl, rfl, q⟩
/-- while, by an invariant that bears a measure -/
theorem rd_while {m0 : Nat} (W : Nat → St → Hp → Prop) (w0 : W m0 σ H) (hs : ∀ m σ H, W m σ H → c σ H fun b H1 => if b = true then t { D with nx := fun σ' H' => ∃ m', m' < m ∧ W m' σ' H', ct := fun σ' H' => ∃ m', m' < m ∧ W m' σ' H', bk := D.nx } σ H1 else D.nx σ H1)
    (mono : ∀ σ H Q Q', (∀ b H1, Q b H1 → Q' b H1) → c σ H Q → c σ H Q') : tWhile c t D σ H := by
  refine ⟨W, ⟨m0, w0⟩, fun m σ H h => ?_⟩
  refine mono σ H _ _ (fun b H1 q => ?_) (hs m σ H h)
  cases b with
  | true => exact ⟨_, fun σ' H' z => z, q⟩
  | false => exact q
/-- a new object: what is said of the heap behind it -/
theorem rd_new {o : HO} {R : Addr → Hp → Prop} (k : ∀ p H', H p = none → H' p = some o → Same H H' → R p H') : New H o R := fun p hp =>
  k p _ hp upd_same fun b ob e => by rw [upd_ne (ne_of_none e hp)]; exact e
end
/-! ### the heap beside one list -/
def hid (a : Addr) (H : Hp) : Hp := fun b => if b = a then none else H b
theorem hid_ne {a b : Addr} {H : Hp} (h : b ≠ a) : hid a H b = H b := by unfold hid; rw [if_neg h]
theorem hid_sub {a b : Addr} {H : Hp} {o : HO} (h : hid a H b = some o) : b ≠ a ∧ H b = some o := by
  unfold hid at h
  by_cases e : b = a
  · rw [if_pos e] at h; cases h
  · rw [if_neg e] at h; exact ⟨e, h⟩
theorem hid_le {a : Addr} {H : Hp} : Same (hid a H) H := fun _ _ h => (hid_sub h).2
/-- all but a is kept -/
def Kp (a : Addr) (H H' : Hp) : Prop := Same (hid a H) (hid a H')
theorem Kp.refl {a : Addr} {H : Hp} : Kp a H H := Same.refl _
theorem Kp.trans {a : Addr} {H H1 H2 : Hp} (x : Kp a H H1) (y : Kp a H1 H2) : Kp a H H2 := Same.trans x y
theorem Kp.of {a : Addr} {H H' : Hp} (s : Same H H') : Kp a H H' := fun b o e => by
  obtain ⟨n, e⟩ := hid_sub e
  rw [hid_ne n]; exact s b o e
theorem Kp.set {a : Addr} {H : Hp} {o : HO} : Kp a H (upd H a o) := fun b u e => by
  obtain ⟨n, e⟩ := hid_sub e
  rw [hid_ne n, upd_ne n]; exact e
theorem Kp.at {a b : Addr} {H H' : Hp} {o : HO} (k : Kp a H H') (n : b ≠ a) (e : H b = some o) : H' b = some o := by
  have q : hid a H b = some o := by rw [hid_ne n]; exact e
  exact (hid_sub (k b o q)).2
theorem Same.seqT {K : PySem.W.Frag} {H H' : Hp} {a : Addr} {xs : List V} (e : Same H H') (h : SqT K H a xs) : SqT K H' a xs := by
  rcases h with (h | ⟨o, h⟩) | h
  · exact .inl (.inl (e _ _ h))
  · exact .inl (.inr ⟨o, e _ _ h⟩)
  · exact .inr h

/-! ### data that a heap bears -/
mutual
theorem Dp.mono {K : PySem.W.Frag} {H H' : Hp} (s : Same H H') : ∀ {v : V} {d : PyData}, Dp K H v d → Dp K H' v d
  | _, _, .non => .non
  | _, _, .bl b => .bl b
  | _, _, .int i => .int i
  | _, _, .str x => .str x
  | _, _, .lst h t => .lst (L2.Same.seq s h) (DpAll.mono s t)
  | _, _, .tup h t => .tup (Same.seqT s h) (DpAll.mono s t)
theorem DpAll.mono {K : PySem.W.Frag} {H H' : Hp} (s : Same H H') : ∀ {vs : List V} {ds : List PyData}, DpAll K H vs ds → DpAll K H' vs ds
  | _, _, .nil => .nil
  | _, _, .cons h t => .cons (Dp.mono s h) (DpAll.mono s t)
end
theorem DpAll.length {K : PySem.W.Frag} {H : Hp} : ∀ {vs : List V} {ds : List PyData}, DpAll K H vs ds → vs.length = ds.length
  | _, _, .nil => rfl
  | _, _, .cons _ t => by rw [List.length_cons, List.length_cons, DpAll.length t]
theorem DpAll.get {K : PySem.W.Frag} {H : Hp} : ∀ {vs : List V} {ds : List PyData} {i : Nat} {v : V}, DpAll K H vs ds → vs[i]? = some v → ∃ d, ds[i]? = some d ∧ Dp K H v d
  | _, _, _, _, .nil, e => by simp at e
  | _, _, 0, _, .cons h _, e => by
    simp at e; subst e; exact ⟨_, rfl, h⟩
  | _, _, i + 1, v, .cons _ t, e => by
    obtain ⟨d, a, b⟩ := DpAll.get (i := i) (v := v) t (by simpa using e)
    exact ⟨d, by simpa using a, b⟩
theorem DpAll.get' {K : PySem.W.Frag} {H : Hp} : ∀ {vs : List V} {ds : List PyData} {i : Nat} {d : PyData}, DpAll K H vs ds → ds[i]? = some d → ∃ v, vs[i]? = some v ∧ Dp K H v d
  | _, _, _, _, .nil, e => by simp at e
  | _, _, 0, _, .cons h _, e => by
    simp at e; subst e; exact ⟨_, rfl, h⟩
  | _, _, i + 1, v, .cons _ t, e => by
    obtain ⟨d, a, b⟩ := DpAll.get' (i := i) (d := v) t (by simpa using e)
    exact ⟨d, by simpa using a, b⟩
theorem DpAll.app {K : PySem.W.Frag} {H : Hp} : ∀ {vs ws : List V} {ds es : List PyData}, DpAll K H vs ds → DpAll K H ws es → DpAll K H (vs ++ ws) (ds ++ es)
  | _, _, _, _, .nil, t => t
  | _, _, _, _, .cons h t, u => .cons h (DpAll.app t u)
theorem DpAll.take {K : PySem.W.Frag} {H : Hp} : ∀ {vs : List V} {ds : List PyData} (n : Nat), DpAll K H vs ds → DpAll K H (vs.take n) (ds.take n)
  | _, _, 0, _ => .nil
  | _, _, _ + 1, .nil => .nil
  | _, _, n + 1, .cons h t => .cons h (DpAll.take n t)
theorem DpAll.drop {K : PySem.W.Frag} {H : Hp} : ∀ {vs : List V} {ds : List PyData} (n : Nat), DpAll K H vs ds → DpAll K H (vs.drop n) (ds.drop n)
  | _, _, 0, t => t
  | _, _, _ + 1, .nil => .nil
  | _, _, n + 1, .cons _ t => DpAll.drop n t

/-! ### the source of draws: a list of three ints at a; n draws may still be made -/
def Src (a : Addr) (n : Nat) (H : Hp) : Prop := ∃ d s c : Int, H a = some (.lst [.int d, .int s, .int c]) ∧ 0 ≤ s ∧ s < 2 ^ 40 ∧ 0 ≤ c ∧ c + (n : Int) ≤ 2 ^ 40
theorem Src.mono {a : Addr} {n m : Nat} {H : Hp} (h : Src a m H) (l : n ≤ m) : Src a n H := by
  obtain ⟨d, s, c, e, h1, h2, h3, h4⟩ := h
  exact ⟨d, s, c, e, h1, h2, h3, by omega⟩
theorem Src.same {a : Addr} {n : Nat} {H H' : Hp} (h : Src a n H) (s : Same H H') : Src a n H' := by
  obtain ⟨d, s', c, e, r⟩ := h
  exact ⟨d, s', c, s _ _ e, r⟩
theorem Src.ne {a p : Addr} {n : Nat} {H : Hp} (h : Src a n H) (e : H p = none) : p ≠ a := by
  obtain ⟨_, _, _, q, _⟩ := h
  rintro rfl
  rw [e] at q; cases q
end Cs
local macro_rules | `(tactic| walk_at "go") => `(tactic| repeat (first
  | with_reducible refine Cs.rd_seq ?_ | with_reducible refine Cs.rd_asg ?_ | with_reducible refine Cs.rd_gname ?_ | with_reducible refine Cs.rd_var rfl ?_ | with_reducible refine Cs.rd_c ?_ | with_reducible refine Cs.rd_op ?_
  | with_reducible refine Cs.rd_i0 ?_ | with_reducible refine Cs.rd_cons ?_ | with_reducible refine Cs.rd_nil ?_ | with_reducible refine Cs.rd_call ?_ | with_reducible refine Cs.rd_cb ?_ | with_reducible refine Cs.rd_ret ?_ | with_reducible refine Cs.rd_ifs ?_
  | with_reducible refine Cs.rd_test ?_ | with_reducible refine Cs.rd_tB ?_ | with_reducible refine Cs.rd_bl ?_ | with_reducible refine Cs.rd_eq rfl ?_ | with_reducible refine Cs.rd_ne rfl ?_ | with_reducible refine Cs.rd_tup ?_ | with_reducible refine Cs.rd_lst ?_
  | with_reducible refine Cs.rd_bm0 ?_ | with_reducible refine Cs.rd_bm ?_ | with_reducible refine Cs.rd_gsub ?_ | with_reducible refine Cs.rd_and ?_ | with_reducible refine Cs.rd_or ?_ | with_reducible refine Cs.rd_not ?_ | with_reducible refine Cs.rd_andV ?_
  | with_reducible refine Cs.rd_orV ?_ | with_reducible refine Cs.rd_notV ?_ | with_reducible refine Cs.rd_ife ?_ | with_reducible refine Cs.rd_drop ?_ | with_reducible refine Cs.rd_next ?_ | with_reducible refine Cs.rd_un ?_ | with_reducible refine L2.iteT ?_ | with_reducible refine L2.iteF ?_
  | with_reducible refine Cs.rd_m1 ?_ | with_reducible refine Cs.rd_gcons ?_ | with_reducible refine Cs.rd_gnil ?_ | with_reducible refine Cs.rd_truth ?_ | with_reducible refine Cs.rd_yes ?_ | with_reducible refine Cs.rd_sl ?_ | with_reducible refine Cs.rd_nopart ?_ | with_reducible refine Cs.rd_part ?_ | with_reducible refine Cs.rd_int ?_ | with_reducible refine Cs.rd_strx ?_
  | with_reducible refine Cs.rd_rng1 ?_ | with_reducible refine Cs.rd_ilist ?_ | with_reducible refine Cs.rd_itup ?_ | with_reducible refine Cs.rd_istr ?_ | with_reducible refine Cs.rd_strj ?_ | with_reducible refine Cs.rd_lc ?_ | with_reducible refine Cs.rd_for ?_
  | with_reducible refine Cs.rd_chain ?_
  | with_reducible refine Cs.rd_par ?_ | with_reducible refine Cs.rd_parj ?_ | with_reducible refine Cs.rd_aug rfl ?_ | with_reducible refine Cs.rd_ipi ?_))
namespace Cs
open PySem L2
open PyProof.Rows (envOfC)
def topS (i : Nat) : Stmt := PySem.Challenge.pw_cutscribe_k02_patterns_at_the_bounds.main.body.getD i (.Pass ⟨0, 0, 0, 0⟩)
abbrev s_is_pattern : Stmt := topS 4
theorem sc_is_pattern : FnScope ["alphabet", "value"] ["alphabet", "value"] (defScope s_is_pattern) := ⟨rfl, rfl, rfl, by decide +kernel, rfl, by decide +kernel, by decide +kernel⟩
abbrev s__is_small_expression : Stmt := topS 5
theorem sc__is_small_expression : FnScope ["alphabet", "value", "waiting", "tuples", "part", "must_be_plain", "plain_below", "inner"] ["alphabet", "value"] (defScope s__is_small_expression) := ⟨rfl, rfl, rfl, by decide +kernel, rfl, by decide +kernel, by decide +kernel⟩
abbrev s__is_well_formed : Stmt := topS 6
theorem sc__is_well_formed : FnScope ["alphabet", "value", "word"] ["alphabet", "value"] (defScope s__is_well_formed) := ⟨rfl, rfl, rfl, by decide +kernel, rfl, by decide +kernel, by decide +kernel⟩
abbrev s__is_selection : Stmt := topS 7
theorem sc__is_selection : FnScope ["alphabet", "value", "character"] ["alphabet", "value"] (defScope s__is_selection) := ⟨rfl, rfl, rfl, by decide +kernel, rfl, by decide +kernel, by decide +kernel⟩
abbrev s__is_range : Stmt := topS 8
theorem sc__is_range : FnScope ["low", "high"] ["low", "high"] (defScope s__is_range) := ⟨rfl, rfl, rfl, by decide +kernel, rfl, by decide +kernel, by decide +kernel⟩
abbrev s__is_integer_within : Stmt := topS 9
theorem sc__is_integer_within : FnScope ["value", "least", "most"] ["value", "least", "most"] (defScope s__is_integer_within) := ⟨rfl, rfl, rfl, by decide +kernel, rfl, by decide +kernel, by decide +kernel⟩
abbrev s__parts : Stmt := topS 10
theorem sc__parts : FnScope ["expression"] ["expression"] (defScope s__parts) := ⟨rfl, rfl, rfl, by decide +kernel, rfl, by decide +kernel, by decide +kernel⟩
abbrev s__width : Stmt := topS 11
theorem sc__width : FnScope ["expression", "width", "low", "high", "part"] ["expression"] (defScope s__width) := ⟨rfl, rfl, rfl, by decide +kernel, rfl, by decide +kernel, by decide +kernel⟩
abbrev s__law_source : Stmt := topS 13
theorem sc__law_source : FnScope ["_law_script", "_law_k", "_law_cell", "_law_deep"] ["_law_script", "_law_k"] (defScope s__law_source) := ⟨rfl, rfl, rfl, by decide +kernel, rfl, by decide +kernel, by decide +kernel⟩
abbrev s__law_draw : Stmt := topS 14
theorem sc__law_draw : FnScope ["_law_source_here", "_law_many", "_law_digit", "_law_seed"] ["_law_source_here", "_law_many"] (defScope s__law_draw) := ⟨rfl, rfl, rfl, by decide +kernel, rfl, by decide +kernel, by decide +kernel⟩
abbrev s__law_alphabet : Stmt := topS 15
theorem sc__law_alphabet : FnScope ["_law_source_here", "_law_many", "_law_left", "_law_k"] ["_law_source_here", "_law_many"] (defScope s__law_alphabet) := ⟨rfl, rfl, rfl, by decide +kernel, rfl, by decide +kernel, by decide +kernel⟩
abbrev s__law_set : Stmt := topS 16
theorem sc__law_set : FnScope ["_law_source_here", "_law_alphabet_here", "_law_many", "_law_taken", "_law_k", "_law_at"] ["_law_source_here", "_law_alphabet_here"] (defScope s__law_set) := ⟨rfl, rfl, rfl, by decide +kernel, rfl, by decide +kernel, by decide +kernel⟩
abbrev s__law_row : Stmt := topS 17
theorem sc__law_row : FnScope ["_law_source_here", "_law_alphabet_here", "_law_many", "_law_k"] ["_law_source_here", "_law_alphabet_here", "_law_many"] (defScope s__law_row) := ⟨rfl, rfl, rfl, by decide +kernel, rfl, by decide +kernel, by decide +kernel⟩
abbrev s__law_again : Stmt := topS 18
theorem sc__law_again : FnScope ["_law_source_here", "_law_part", "_law_low", "_law_high"] ["_law_source_here", "_law_part"] (defScope s__law_again) := ⟨rfl, rfl, rfl, by decide +kernel, rfl, by decide +kernel, by decide +kernel⟩
abbrev s__law_wrapped : Stmt := topS 19
theorem sc__law_wrapped : FnScope ["_law_source_here", "_law_part", "_law_depth", "_law_found", "_law_has_row", "_law_k", "_law_word"] ["_law_source_here", "_law_part", "_law_depth"] (defScope s__law_wrapped) := ⟨rfl, rfl, rfl, by decide +kernel, rfl, by decide +kernel, by decide +kernel⟩
abbrev s__law_with_agains : Stmt := topS 20
theorem sc__law_with_agains : FnScope ["_law_source_here", "_law_alphabet_here", "_law_many", "_law_none", "_law_one", "_law_word"] ["_law_source_here", "_law_alphabet_here", "_law_many"] (defScope s__law_with_agains) := ⟨rfl, rfl, rfl, by decide +kernel, rfl, by decide +kernel, by decide +kernel⟩
abbrev s__law_case : Stmt := topS 21
theorem sc__law_case : FnScope ["_law_source_here", "_law_alphabet_here", "_law_way", "_law_many", "_law_word", "_law_size", "_law_found", "_law_factor", "_law_inner", "_law_first", "_law_second", "_law_k", "_law_depth", "_law_has_row"] ["_law_source_here", "_law_alphabet_here"] (defScope s__law_case) := ⟨rfl, rfl, rfl, by decide +kernel, rfl, by decide +kernel, by decide +kernel⟩
abbrev s_law : Stmt := topS 22
theorem sc_law : FnScope ["_law_script", "_law_k", "_law_source_here", "_law_alphabet_here", "_law_value", "_law_wide", "_law_tuples", "_law_barred", "_law_found"] ["_law_script"] (defScope s_law) := ⟨rfl, rfl, rfl, by decide +kernel, rfl, by decide +kernel, by decide +kernel⟩
end Cs
namespace Cs
open PySem L2
open PyProof.Rows (envOfC)
/-! the built-in names, which no law's text binds anew -/
structure Blt (mg : Str → Option Value) : Prop where
  len : mg "len" = none
  range : mg "range" = none
  isinstance : mg "isinstance" = none
  max : mg "max" = none
  min : mg "min" = none
  sum : mg "sum" = none
  all : mg "all" = none
  any : mg "any" = none
  list : mg "list" = none
  tuple : mg "tuple" = none
  int : mg "int" = none
  str : mg "str" = none
  bool : mg "bool" = none
  sorted : mg "sorted" = none
  set : mg "set" = none
  enumerate : mg "enumerate" = none
  zip : mg "zip" = none

end Cs
namespace Cs
open PySem L2
open PyProof.Rows (envOfC)
/-! what the top has left, def by def -/
theorem at_mk {K : PySem.W.Frag} {h : Heap} {mg : Str → Option Value} (X : K.In h) (G : h.Ns mainGlobals mg) {x : Str} {st : Stmt} {ps : List Str} {f : Addr} {oc : Value} {od an : Option Addr} {osl : Array (Option Value)} {kV dc pm cd ct : Value}
    (a : PySem.W.nsIn K mainGlobals x = some (some (.ref f))) (l : K.lookup f = some ⟨oc, od, .func (PySem.W.fnOf x x (defArgs st) (defBody st) (defScope st) .none kV dc pm an cd ct), osl⟩) (c : PySem.W.codeIn K cd x = true) (k : PySem.W.keepIn K (.ref f) = true)
    (b : ∀ (kV dc pm : Value) (an : Option Addr) (cd ct : Value) (us : List Value), us.length = ps.length → bindArgs (PySem.W.fnOf x x (defArgs st) (defBody st) (defScope st) .none kV dc pm an cd ct) ⟨us, []⟩ = pure (ps.zip us)) : At K mg x st ps :=
  ⟨⟨f, _, fun_mk l c k, PySem.W.mg_of X G a, (fun_mk l c k).binds b⟩⟩
def spLaw (K : PySem.W.Frag) : Sp := fun vs H Q _ => ∃ (a : Addr) (ns : List Int), vs = [.ref a] ∧ SqL K H a (ns.map V.int) ∧ ns.length ≤ 63 ∧ ∀ H', Q (.bl true) H'
theorem walk_c {l : PySem.W.OpenLaw} {q : Program} {loose : List Str} {XP : (Str → Option Value) → Heap → Prop} {YP : World → Heap → Prop} {d : DefRec} {K : Params → PySem.W.Frag} {st : Stmt} (hn : l.most = some 63) (hdf : d.params.defaults = []) (hnm : d.name = "law")
    (hY : ∀ (w : World) (h : Heap), YP w h → (K w.params).In h)
    (F : ∀ (w : World) (mg : Str → Option Value) (h : Heap), (K w.params).In h → h.Ns mainGlobals mg →
      ∃ (f : Addr) (oc : Value) (od an : Option Addr) (osl : Array (Option Value)) (kV dc pm cd ct : Value), PySem.W.nsIn (K w.params) mainGlobals "law" = some (some (.ref f)) ∧ (K w.params).lookup f = some ⟨oc, od, .func (PySem.W.fnOf "law" "law" (defArgs st) (defBody st) (defScope st) .none kV dc pm an cd ct), osl⟩ ∧
        PySem.W.codeIn (K w.params) cd "law" = true ∧ PySem.W.keepIn (K w.params) (.ref f) = true ∧
        (∀ (kV dc pm : Value) (an : Option Addr) (cd ct u : Value), bindArgs (PySem.W.fnOf "law" "law" (defArgs st) (defBody st) (defScope st) .none kV dc pm an cd ct) ⟨[u], []⟩ = pure [(("_law_script" : Str), u)]) ∧
        ∀ (base : Heap) (f : Addr) (fd : FuncData), Fun (K w.params) "law" "law" st f fd → FnOk l.prog w (K w.params) mg base CX0 200 f fd ["_law_script"] (spLaw (K w.params))) :
    PySem.W.WalkO q loose XP YP l.row.toRowW d [] (fun f vs => PySem.call f vs) := by
  refine L2.walk_of (n := 63) (k := 200) (x := "_law_script") (CX := fun _ => CX0) (sp := fun w => spLaw (K w.params)) hn (by decide) hdf ⟨rfl, by decide, by decide⟩ hY (fun w mg fa h X G hfa => ?_) (fun _ _ a ns hl _ hS => ⟨a, ns, rfl, hS, hl, fun _ => rfl⟩) fun _ _ _ _ _ z => z
  obtain ⟨f, oc, od, an, osl, kV, dc, pm, cd, ct, a, lk, c, k, hb, G2⟩ := F w mg h X G
  rw [hnm] at hfa
  have e := hfa.symm.trans (PySem.W.mg_of X G a)
  cases e
  exact ⟨_, fun s v => .of_eq (hb _ _ _ _ _ _ _), fun base _ _ => G2 base _ _ (fun_mk lk c k)⟩
theorem blt_mk {K : PySem.W.Frag} {h : Heap} {mg : Str → Option Value} (X : K.In h) (G : h.Ns mainGlobals mg) (z0 : PySem.W.nsIn K mainGlobals "len" = some none) (z1 : PySem.W.nsIn K mainGlobals "range" = some none) (z2 : PySem.W.nsIn K mainGlobals "isinstance" = some none) (z3 : PySem.W.nsIn K mainGlobals "max" = some none) (z4 : PySem.W.nsIn K mainGlobals "min" = some none) (z5 : PySem.W.nsIn K mainGlobals "sum" = some none) (z6 : PySem.W.nsIn K mainGlobals "all" = some none) (z7 : PySem.W.nsIn K mainGlobals "any" = some none) (z8 : PySem.W.nsIn K mainGlobals "list" = some none) (z9 : PySem.W.nsIn K mainGlobals "tuple" = some none) (z10 : PySem.W.nsIn K mainGlobals "int" = some none) (z11 : PySem.W.nsIn K mainGlobals "str" = some none) (z12 : PySem.W.nsIn K mainGlobals "bool" = some none) (z13 : PySem.W.nsIn K mainGlobals "sorted" = some none) (z14 : PySem.W.nsIn K mainGlobals "set" = some none) (z15 : PySem.W.nsIn K mainGlobals "enumerate" = some none) (z16 : PySem.W.nsIn K mainGlobals "zip" = some none) : Blt mg :=
  ⟨PySem.W.mg_none_of X G z0, PySem.W.mg_none_of X G z1, PySem.W.mg_none_of X G z2, PySem.W.mg_none_of X G z3, PySem.W.mg_none_of X G z4, PySem.W.mg_none_of X G z5, PySem.W.mg_none_of X G z6, PySem.W.mg_none_of X G z7, PySem.W.mg_none_of X G z8, PySem.W.mg_none_of X G z9, PySem.W.mg_none_of X G z10, PySem.W.mg_none_of X G z11, PySem.W.mg_none_of X G z12, PySem.W.mg_none_of X G z13, PySem.W.mg_none_of X G z14, PySem.W.mg_none_of X G z15, PySem.W.mg_none_of X G z16⟩
theorem const_mk {K : PySem.W.Frag} {h : Heap} {mg : Str → Option Value} (X : K.In h) (G : h.Ns mainGlobals mg) {x : Str} {u : Value} {v : V} (a : PySem.W.nsIn K mainGlobals x = some (some u)) (r : RelV v u) : ∃ u, mg x = some u ∧ RelV v u := ⟨u, PySem.W.mg_of X G a, r⟩
theorem law_mk {P : Program} {w : World} {K : PySem.W.Frag} {mg : Str → Option Value} {st : Stmt} {f : Addr} {oc : Value} {od an : Option Addr} {osl : Array (Option Value)} {kV dc pm cd ct : Value}
    (a : PySem.W.nsIn K mainGlobals "law" = some (some (.ref f))) (l : K.lookup f = some ⟨oc, od, .func (PySem.W.fnOf "law" "law" (defArgs st) (defBody st) (defScope st) .none kV dc pm an cd ct), osl⟩) (c : PySem.W.codeIn K cd "law" = true) (k : PySem.W.keepIn K (.ref f) = true)
    (b : ∀ (kV dc pm : Value) (an : Option Addr) (cd ct u : Value), bindArgs (PySem.W.fnOf "law" "law" (defArgs st) (defBody st) (defScope st) .none kV dc pm an cd ct) ⟨[u], []⟩ = pure [(("_law_script" : Str), u)])
    (G2 : ∀ (base : Heap) (f : Addr) (fd : FuncData), Fun K "law" "law" st f fd → FnOk P w K mg base CX0 200 f fd ["_law_script"] (spLaw K)) :
    ∃ (f : Addr) (oc : Value) (od an : Option Addr) (osl : Array (Option Value)) (kV dc pm cd ct : Value), PySem.W.nsIn K mainGlobals "law" = some (some (.ref f)) ∧ K.lookup f = some ⟨oc, od, .func (PySem.W.fnOf "law" "law" (defArgs st) (defBody st) (defScope st) .none kV dc pm an cd ct), osl⟩ ∧
      PySem.W.codeIn K cd "law" = true ∧ PySem.W.keepIn K (.ref f) = true ∧
      (∀ (kV dc pm : Value) (an : Option Addr) (cd ct u : Value), bindArgs (PySem.W.fnOf "law" "law" (defArgs st) (defBody st) (defScope st) .none kV dc pm an cd ct) ⟨[u], []⟩ = pure [(("_law_script" : Str), u)]) ∧
      ∀ (base : Heap) (f : Addr) (fd : FuncData), Fun K "law" "law" st f fd → FnOk P w K mg base CX0 200 f fd ["_law_script"] (spLaw K) :=
  ⟨f, oc, od, an, osl, kV, dc, pm, cd, ct, a, l, c, k, b, G2⟩

end Cs
namespace Cs
open PySem L2
open PyProof.Rows (envOfC)
/-! list(text): a new list of its signs -/
section
open PySem.Calls PyProof.Rows PyProof.V PySem.Spec PySem.W
variable {prog : Program} {w : World} {A : Around} {E : Value → Shared → Prop} {s : Shared} {x : Str} {t : Tok}
theorem hint_str {Q : Bool → Shared → Prop} (h : Q false s) : wpAny (model prog w) A (Builtin.List.listLengthHint (.str x t)) Q E s := by
  have hT : s.TypeIs (.str x t) "str" := typeIs_str s x t
  unfold Builtin.List.listLengthHint
  refine wpAny_bind (wpAny_specialOf hT PySem.F.slot_str_len.lookup ?_)
  generalize hid : ("str.__len__" : String) = id0
  wp_delta
  rw [show splitId id0 = some ("str", "__len__") from by subst hid; decide +kernel]
  subst hid
  refine wpAny_bind (wpAny_isInstance (T := "str") (b := true) hT (by rw [isSubtype_type]; kernel_rfl) ?_)
  refine wpAny_ite_split (fun hab => absurd hab (by decide)) (fun _ => ?_)
  refine wpAny_ite_split (fun _ => ?_) (fun hab => absurd (by decide +kernel) hab)
  refine wpAny_bind (wpAny_typeOf hT ?_)
  exact wpAny_pure h
theorem extend_str {R : Result → Shared → Prop} (hh : A.handled = none) (S : Addr) (res : Value) (c₀ : Nat) (hS : s.heap.get? S = some { cls := .type "list", data := .seq #[] c₀ })
    (hR : ∀ h' tk acc' c', (∀ b o, b ≠ S → s.heap.get? b = some o → h'.get? b = some o) → h'.get? S = some { cls := .type "list", dict := none, data := .seq acc' c', slots := #[] } → ItemsOf (SignAt x) acc' x.cps.size → R (.ok (.ret res)) { s with heap := h', toks := tk }) (hn : x.cps.size ≤ sizeLine) :
    wpAny (model prog w) A.in1 (Builtin.List.listExtendWith (.ref S) (.str x t) res)
      (fun fin s' => match fin with | .done f => R (.ok f) s' | .again c' => c'.quiet = true ∧ codeAny (model prog w) A c' R s') (fun e s' => R (.error e) s') s := by
  have hSI : S ≠ s.heap.objs.size := Nat.ne_of_lt (Heap.lt_size hS)
  have hSf : S ∉ [s.heap.objs.size] := by simp only [List.mem_cons, List.not_mem_nil, or_false]; exact hSI
  obtain ⟨oI, St, hit, W, st⟩ : ∃ (oI : Obj) (St : Nat → Heap → Prop),
      (∀ (E : Value → Shared → Prop) (Q : Value → Shared → Prop), Q (.ref s.heap.objs.size) { s with heap := s.heap.push oI } → wpAny (model prog w) A.in1 (pyIter (.str x t)) Q E s) ∧
      Walks prog w A.in1 s.heap.objs.size [s.heap.objs.size] [s.heap.objs.size] x.cps.size (SignAt x) St ∧ St 0 (s.heap.push oI) := by
    cases ha : x.cps.all (· < 128)
    · exact ⟨_, _, fun _ _ hq => wpAny_pyIter_wide ha hq, Walks.strWide (A := A.in1) hh _ x t, ⟨_, Heap.get?_push_size _ rfl, rfl, rfl⟩⟩
    · exact ⟨_, _, fun _ _ hq => wpAny_pyIter_ascii ha hq, Walks.strAscii (A := A.in1) hh _ x t, ⟨_, Heap.get?_push_size _ rfl, rfl, rfl⟩⟩
  have key : ∀ (h : Heap) (c₁ tk : Nat), St 0 h → (∀ b o, b ≠ S → s.heap.get? b = some o → h.get? b = some o) →
      h.get? S = some { cls := .type "list", data := .seq #[] c₁ } → codeAny (model prog w) A (.builtin "list.extend.loop" ⟨[.ref S, .ref s.heap.objs.size, res], []⟩) R { s with heap := h, toks := tk } := by
    intro h c₁ tk hst hk hS₁
    refine codeAny_extend_loopS W.toS hn S hSf res x.cps.size 0 _ #[] c₁ rfl (Nat.zero_le _) hst hS₁ (ItemsOf.nil _) fun s' acc' c' hm hS' hacc => ?_
    rw [Moved.eq_with hm]
    refine hR s'.heap s'.toks acc' c' (fun b o hb e => hm.heap b o (fun hmem => ?_) (hk b o hb e)) hS' hacc
    rcases List.mem_cons.mp hmem with e' | hmem
    · exact hb e'
    · exact absurd (Heap.lt_size e) (by rw [List.mem_singleton.mp hmem]; exact Nat.lt_irrefl _)
  unfold Builtin.List.listExtendWith
  refine wpAny_bind (wpAny_typeOf (T := "str") (typeIs_str s x t) ?_)
  have h1 : Builtin.List.listSameRef (.ref S) (.str x t) = false := rfl
  have h2 : (Value.type "str" == Value.type "list") = false := by decide
  have h3 : (Value.type "str" == Value.type "tuple") = false := by decide
  simp only [h1, h2, h3, Bool.or_false, Bool.false_eq_true, if_false]
  refine wpAny_bind (hit _ _ ?_)
  have hS₁ := Heap.get?_push_of_some oI hS
  refine wpAny_bind (wpAny_holding (hint_str ?_))
  refine wpAny_ite_split (fun _ => ?_) (fun _ => wpAny_pure ⟨plainId_quiet PySem.F.plain_extend_loop _, key _ c₀ _ st (fun b o _ e => Heap.get?_push_of_some _ e) hS₁⟩)
  refine wpAny_bind (wpAny_rule ?_)
  refine wpAny_bind ?_
  show wpAny _ _ (updateSeq S (·.push .none) >>= fun _ => updateSeq S (·.pop)) _ _ _
  refine wpAny_bind (wpAny_updateSeq hS₁ rfl ?_)
  have hS₂ := Heap.get?_update_self (Obj.mapSeq (·.push Value.none)) hS₁ rfl
  refine wpAny_updateSeq (hz := by seq_fits) hS₂ rfl ?_
  have hS₃ := Heap.get?_update_self (Obj.mapSeq (·.pop)) hS₂ rfl
  refine wpAny_pure ⟨plainId_quiet PySem.F.plain_extend_loop _, key _ _ _ ?_ (fun b o hb e => ?_) hS₃⟩
  · refine W.frame 0 _ _ st fun b hb o e => ?_
    have hbS : b ≠ S := fun h => hSf (h ▸ hb)
    exact (Heap.get?_update_other _ _ (Ne.symm hbS)).trans ((Heap.get?_update_other _ _ (Ne.symm hbS)).trans e)
  · exact (Heap.get?_update_other _ _ (Ne.symm hb)).trans ((Heap.get?_update_other _ _ (Ne.symm hb)).trans (Heap.get?_push_of_some _ e))
theorem init_str {R : Result → Shared → Prop} (hh : A.handled = none) (S : Addr) (hS : s.heap.get? S = some { cls := .type "list", data := .seq #[] })
    (hR : ∀ h' tk acc' c', (∀ b o, b ≠ S → s.heap.get? b = some o → h'.get? b = some o) → h'.get? S = some { cls := .type "list", dict := none, data := .seq acc' c', slots := #[] } → ItemsOf (SignAt x) acc' x.cps.size → R (.ok (.ret .none)) { s with heap := h', toks := tk }) (hn : x.cps.size ≤ sizeLine) :
    wpAny (model prog w) A.in1 (Builtin.«list.__init__» ⟨[.ref S, .str x t], []⟩)
      (fun fin s' => match fin with | .done f => R (.ok f) s' | .again c' => c'.quiet = true ∧ codeAny (model prog w) A c' R s') (fun e s' => R (.error e) s') s := by
  show wpAny _ _ (do let old ← Builtin.List.listItems (.ref S); Builtin.List.listUpdate (.ref S) (fun _ => #[]); letGo old.toList.reverse; Builtin.List.listExtendWith (.ref S) (.str x t) .none) _ _ s
  refine wpAny_bind ?_
  unfold Builtin.List.listItems
  refine wpAny_bind (wpAny_seqItems hS rfl (wpAny_pure ?_))
  show wpAny _ _ (updateSeq S (fun _ => #[]) >>= fun _ => letGo (#[] : Array Value).toList.reverse >>= fun _ => Builtin.List.listExtendWith (.ref S) (.str x t) .none) _ _ s
  refine wpAny_bind (wpAny_updateSeq hS rfl ?_)
  have hS₂ := Heap.get?_update_self (Obj.mapSeq (fun _ => (#[] : Array Value))) hS rfl
  have oth : ∀ b o, b ≠ S → s.heap.get? b = some o → (s.heap.update S (Obj.mapSeq (fun _ => (#[] : Array Value)))).get? b = some o :=
    fun b o hb e => (Heap.get?_update_other _ _ (Ne.symm hb)).trans e
  refine wpAny_bind (wpAny_letGo ?_)
  refine extend_str hh S .none _ hS₂ (fun h' tk acc' c' hk hS' hacc => ?_) hn
  exact hR h' tk acc' c' (fun b o hb e => hk b o hb (oth b o hb e)) hS' hacc
theorem list_of_str {Q : Value → Shared → Prop} (hh : A.handled = none) (hn : x.cps.size ≤ sizeLine)
    (hQ : ∀ h' tk acc' c', (∀ b o, s.heap.get? b = some o → h'.get? b = some o) → h'.get? s.heap.objs.size = some { cls := .type "list", dict := none, data := .seq acc' c', slots := #[] } → ItemsOf (SignAt x) acc' x.cps.size → Q (.ref s.heap.objs.size) { s with heap := h', toks := tk }) :
    wpAny (model prog w) A (call (.type "list") [.str x t]) Q E s := by
  refine callType_codes (Q₁ := fun obj s₁ => obj = .ref s.heap.objs.size ∧ s₁ = { s with heap := s.heap.push { cls := .type "list", data := .seq #[] } }) PySem.F.called_list (PySem.F.typeCall_list_1 _) PySem.F.entry_list_init
    (code_list_new _ ⟨rfl, rfl⟩) fun obj s₁ h₁ => ?_
  obtain ⟨rfl, rfl⟩ := h₁
  have hS : (s.heap.push { cls := .type "list", data := .seq #[] }).get? s.heap.objs.size = some { cls := .type "list", data := .seq #[] } := Heap.get?_push_size _ rfl
  refine ⟨⟨_, hS, rfl⟩, PySem.F.args_list_init_2 _ _, init_str (A := A.in1) hh _ hS (fun h' tk acc' c' hk hS' hacc => ?_) hn⟩
  exact ⟨rfl, hQ h' tk acc' c' (fun b o e => hk b o (Nat.ne_of_lt (Heap.lt_size e)) (Heap.get?_push_of_some _ e)) hS' hacc⟩
end
def signs (z : Str) : List Str := z.cps.toList.map fun c => ⟨#[c]⟩
theorem vals_signs : ∀ (zs : List Nat) (us : List Value), us.length = zs.length → (∀ (i : Nat) (v : Value), us[i]? = some v → ∃ c u, zs[i]? = some c ∧ v = .str ⟨#[c]⟩ u) → Vals ((zs.map fun c => (⟨#[c]⟩ : Str)).map V.str) us
  | [], [], _, _ => .nil
  | [], _ :: _, e, _ => by simp at e
  | _ :: _, [], e, _ => by simp at e
  | z :: zs, u :: us, e, h => by
    obtain ⟨c, t, h1, h2⟩ := h 0 u rfl
    have h1 : z = c := by simpa using h1
    subst h1
    refine .cons ⟨t, h2⟩ (vals_signs zs us (by simpa using e) fun i v hv => ?_)
    obtain ⟨c, t', a, b⟩ := h (i + 1) v (by simpa using hv)
    exact ⟨c, t', by simpa using a, b⟩
theorem call_list_str {X : Cx} (hc : X.calm = true) : CallR X (.type "list") (fun xs H Q => ∃ z : Str, xs = [.str z] ∧ z.cps.size ≤ sizeLine ∧ ∀ l, H l = none → Q (.ref l) (upd H l (.lst ((signs z).map V.str)))) := by
  intro pins s σ H xs us Q I r h
  obtain ⟨z, rfl, hz, q⟩ := h
  obtain ⟨u, rfl, t, rfl⟩ := vals1 r
  refine list_of_str (I.ok.hd hc) hz fun h' tk acc' c' kp e it => ?_
  have vs : Vals ((signs z).map V.str) acc'.toList := by
    refine vals_signs z.cps.toList acc'.toList (by rw [Array.length_toList, Array.length_toList]; exact it.1) fun i v hv => ?_
    obtain ⟨c, u, a, b⟩ := it.2 i v (by rw [← Array.getElem?_toList]; exact hv)
    exact ⟨c, u, by rw [Array.getElem?_toList]; exact a, b⟩
  have hl : ((signs z).map V.str).length ≤ sizeLine := by
    rw [List.length_map, signs, List.length_map, Array.length_toList]; exact hz
  refine ⟨.ref s.heap.objs.size, _, I.laid (t' := tk) kp (Nat.le_refl _) (show ObjOk X.prog X.w _ h' _ (.lst _) from ⟨hl, acc'.toList, c', vs, by rw [e]⟩), rfl, q _ (I.hok.fresh (Nat.le_refl _))⟩

end Cs
namespace Cs
open PySem L2
open PyProof.Rows (envOfC)
/-! texts as lists of codes -/
abbrev S (l : List Nat) : Str := ⟨l.toArray⟩
theorem S_len (a : List Nat) : (S a).length = a.length := by simp [S, Str.length]
theorem S_cps (x : Str) : S x.cps.toList = x := by cases x; rfl
theorem S_inj {a b : List Nat} (h : S a = S b) : a = b := congrArg (fun x : Str => x.cps.toList) h
theorem signs_S (l : List Nat) : signs (S l) = l.map fun c => S [c] := rfl
theorem joinL_nil : ∀ ys : List (List Nat), TL.joinL [] ys = ys.flatten
  | [] => rfl
  | [p] => by show p = [p].flatten; simp
  | p :: q :: r => by
    show p ++ ([] ++ TL.joinL [] (q :: r)) = (p :: q :: r).flatten
    rw [joinL_nil (q :: r)]; simp
theorem map_tl_S : ∀ l : List (List Nat), (l.map S).map TL.tl = l
  | [] => rfl
  | x :: l => congrArg (fun z => x :: z) (map_tl_S l)
theorem join_nil (ys : List (List Nat)) : Txt.join (S []) (ys.map S) = S ys.flatten := by
  have e := TL.tl_join (S []) (ys.map S)
  rw [map_tl_S] at e
  have e2 : TL.tl (Txt.join (S []) (ys.map S)) = TL.tl (S (TL.joinL [] ys)) := (congrArg TL.tl (TL.join_eq (S []) (ys.map S))).trans e
  exact (TL.ext_tl e2).trans (by rw [joinL_nil])
theorem flat1 : ∀ cs : List Nat, (cs.map fun c => [c]).flatten = cs
  | [] => rfl
  | c :: cs => by
    show [c] ++ (cs.map fun c => [c]).flatten = c :: cs
    rw [flat1 cs]; rfl
theorem join_signs (cs : List Nat) : Txt.join (S []) (cs.map fun c => S [c]) = S cs := by
  have e := join_nil (cs.map fun c => [c])
  rw [flat1, List.map_map] at e
  exact e
theorem sum_signs (cs : List Nat) : ((cs.map fun c => S [c]).map (·.length)).sum = cs.length := by
  induction cs with
  | nil => rfl
  | cons c cs ih =>
    show 1 + ((cs.map fun c => S [c]).map (·.length)).sum = cs.length + 1
    omega
theorem empty_S : Str.ofString "" = S [] := by decide +kernel
/-- a heap that keeps all but a, and lays what was not there -/
theorem Kp.lay {a p : Addr} {H0 H : Hp} {o : HO} (k : Kp a H0 H) (n : H0 p = none) : Kp a H0 (upd H p o) := fun b u e => by
  obtain ⟨nb, e0⟩ := hid_sub e
  have q : b ≠ p := fun z => by rw [z, n] at e0; cases e0
  have z := k b u e
  obtain ⟨_, z⟩ := hid_sub z
  rw [hid_ne nb, upd_ne q]; exact z
theorem Kp.none {a b : Addr} {H H' : Hp} (k : Kp a H H') (n : b ≠ a) (h : H' b = none) : H b = none := by
  cases e : H b with
  | none => rfl
  | some o => rw [k.at n e] at h; cases h
theorem Src.lay {a p : Addr} {n : Nat} {H : Hp} {o : HO} (h : Src a n H) (e : p ≠ a) : Src a n (upd H p o) := by
  obtain ⟨d, s, c, q, r⟩ := h
  exact ⟨d, s, c, by rw [upd_ne (Ne.symm e)]; exact q, r⟩
theorem Same.lay {p : Addr} {H : Hp} {o : HO} (n : H p = none) : Same H (upd H p o) := fun b u e => by rw [upd_ne (ne_of_none e n)]; exact e
theorem Same.lay2 {p : Addr} {H0 H : Hp} {o : HO} (k : Same H0 H) (n : H0 p = none) : Same H0 (upd H p o) := fun b u e => by rw [upd_ne (ne_of_none e n)]; exact k b u e
/-- an alphabet: distinct small codes -/
structure Alp (al : List Nat) : Prop where
  nd : al.Nodup
  lo : 1 ≤ al.length
  hi : al.length ≤ 6
  asc : ∀ c ∈ al, c ∈ [97, 98, 99, 100, 101, 102, 103, 104, 105, 106, 107, 108, 109, 110, 111, 112, 113, 114, 115, 116, 117, 118, 119, 120, 121, 122, 48, 49, 50, 51, 52, 53, 54, 55, 56, 57, 32, 45, 46, 95]
theorem seqIx {j n : Nat} (h : j < n) : seqIndex? (j : Int) n = some j := by
  unfold seqIndex?
  have a : ¬ ((j : Int) < 0) := by omega
  simp only [a, if_false]
  have b : (decide (0 ≤ (j : Int)) && decide ((j : Int) < (n : Int))) = true := by simp; omega
  rw [if_pos b]; simp
theorem map_erase {α β : Type} (f : α → β) : ∀ (l : List α) (j : Nat), (l.map f).eraseIdx j = (l.eraseIdx j).map f
  | [], _ => rfl
  | _ :: _, 0 => rfl
  | a :: l, j + 1 => congrArg (fun z => f a :: z) (map_erase f l j)

end Cs
namespace Cs
open PySem L2
open PyProof.Rows (envOfC)
/-! a draw: some number below m, one draw less -/
def sp_draw : Sp := fun vs H Q _ => ∃ (a : Addr) (m : Int) (n : Nat), vs = [.ref a, .int m] ∧ Src a (n + 1) H ∧ 0 < m ∧ m < 2 ^ 30 ∧ ∀ (i : Int) (H' : Hp), 0 ≤ i → i < m → Src a n H' → Kp a H H' → Q (.int i) H'
theorem use_draw {a : Addr} {m : Int} {n : Nat} {H : Hp} {Q : VK} {E : XK} (h : Src a (n + 1) H) (h0 : 0 < m) (h1 : m < 2 ^ 30) (k : ∀ (i : Int) (H' : Hp), 0 ≤ i → i < m → Src a n H' → Kp a H H' → Q (.int i) H') : sp_draw [.ref a, .int m] H Q E :=
  ⟨a, m, n, rfl, h, h0, h1, k⟩
theorem cpow5 {s c : Int} (h1 : 0 ≤ s) (h2 : s < 2 ^ 40) (h3 : 0 ≤ c) (h4 : c ≤ 2 ^ 40) : CPow (s + 7919 * c) 5 := by
  refine ⟨by decide, by decide, ?_⟩
  omega
section
variable {P : Program} {w : World} {K : PySem.W.Frag} {mg : Str → Option Value} {base : Heap}
theorem ok_draw (F : At K mg "_law_draw" s__law_draw ["_law_source_here", "_law_many"]) : Cal P w K mg base 1 "_law_draw" ["_law_source_here", "_law_many"] sp_draw := by
  refine F.ok sc__law_draw (fun vs H Q E h => ?_) (fun f cdv A outer s H vs Q E hr h => ?_)
  · obtain ⟨a, m, n, rfl, _⟩ := h
    rfl
  · obtain ⟨a, m, n, rfl, ⟨d, s', c, e, h1, h2, h3, h4⟩, m0, m1, k⟩ := h
    refine ⟨_, (pss_cons (ps_asg (pe_op op_add (pe_ix (ix_listK (K := K) (by rfl)) (pv 0) pe_int (fun _ _ => rfl)) pe_int) (pg_sub (pv 0) pe_int set_list))
    (pss_cons (ps_if (pt_cmpR op_gt (pe_ix (ix_listK (K := K) (by rfl)) (pv 0) pe_int (fun _ _ => rfl)) pe_int (nomark _))
    (pss_cons (ps_set (i := 2) sc__law_draw.nd rfl (Or.inl rfl) (pe_op op_mod (pe_ix (ix_listK (K := K) (by rfl)) (pv 0) pe_int (fun _ _ => rfl)) (pv 1)))
    (pss_cons (ps_asg (pe_op op_fdiv (pe_ix (ix_listK (K := K) (by rfl)) (pv 0) pe_int (fun _ _ => rfl)) (pv 1)) (pg_sub (pv 0) pe_int set_list))
    (pss_one (ps_ret (pv 2)))))
    pss_nil)
    (pss_cons (ps_set (i := 3) sc__law_draw.nd rfl (Or.inl rfl) (pe_op op_mod (pe_op op_pow (pe_op op_add (pe_ix (ix_listK (K := K) (by rfl)) (pv 0) pe_int (fun _ _ => rfl)) (pe_op op_mul pe_int (pe_ix (ix_listK (K := K) (by rfl)) (pv 0) pe_int (fun _ _ => rfl)))) pe_int) pe_int))
    (pss_one (ps_ret (pe_op op_mod (pe_op op_fdiv (pe_op op_mod (pe_op op_mul (pe_op op_add (pv 3) (pe_ix (ix_listK (K := K) (by rfl)) (pv 0) pe_int (fun _ _ => rfl))) pe_int) pe_int) pe_int) (pv 1))))))), ?_⟩
    walk_at "go"
    refine rd_ixl (SqL.of e) (at_of (j := 2) rfl rfl) ?_
    walk_at "go"
    refine rd_setl e (j := 2) rfl ?_
    have e1 : upd H a (.lst ([V.int d, .int s', .int c].set 2 (.int (c + 1)))) a = some (.lst [.int d, .int s', .int (c + 1)]) := upd_same
    have k1 : Kp a H (upd H a (.lst ([V.int d, .int s', .int c].set 2 (.int (c + 1))))) := Kp.set
    generalize upd H a (.lst ([V.int d, .int s', .int c].set 2 (.int (c + 1)))) = H1 at e1 k1
    walk_at "go"
    refine rd_ixl (SqL.of e1) (at_of (j := 0) rfl rfl) ?_
    walk_at "go"
    refine ite2 (fun hd => ?_) (fun hd => ?_)
    · walk_at "go"
      refine rd_ixl (SqL.of e1) (at_of (j := 0) rfl rfl) ?_
      walk_at "go"
      refine rd_i m0 ?_
      walk_at "go"
      refine rd_ixl (SqL.of e1) (at_of (j := 0) rfl rfl) ?_
      walk_at "go"
      refine rd_i ⟨m0, by omega⟩ ?_
      walk_at "go"
      refine rd_setl e1 (j := 0) rfl ?_
      walk_at "go"
      refine k _ _ (Int.emod_nonneg _ (by omega)) (Int.emod_lt_of_pos _ m0) ⟨d / m, s', c + 1, upd_same, h1, h2, by omega, by omega⟩ (k1.trans Kp.set)
    · walk_at "go"
      refine rd_ixl (SqL.of e1) (at_of (j := 1) rfl rfl) ?_
      walk_at "go"
      refine rd_ixl (SqL.of e1) (at_of (j := 2) rfl rfl) ?_
      refine rd_i (.inl ⟨by decide, by decide⟩) ?_
      walk_at "go"
      refine rd_i (cpow5 h1 h2 (by omega) (by omega)) ?_
      walk_at "go"
      refine rd_i (by decide) ?_
      walk_at "go"
      refine rd_ixl (SqL.of e1) (at_of (j := 2) rfl rfl) ?_
      walk_at "go"
      refine rd_i (.inr ⟨by decide, by decide⟩) ?_
      walk_at "go"
      refine rd_i (by decide) ?_
      walk_at "go"
      refine rd_i ⟨by decide, by decide⟩ ?_
      walk_at "go"
      refine rd_i m0 ?_
      exact k _ _ (Int.emod_nonneg _ (by omega)) (Int.emod_lt_of_pos _ m0) ⟨d, s', c + 1, e1, h1, h2, by omega, by omega⟩ k1
end

end Cs
namespace Cs
open PySem L2
open PyProof.Rows (envOfC)
/-! data beside the source -/
theorem at_mem {xs : List V} {i : Int} (h0 : 0 ≤ i) (h1 : i < xs.length) : ∃ v, atI xs i = some v ∧ v ∈ xs := by
  obtain ⟨j, rfl⟩ : ∃ j : Nat, i = (j : Int) := ⟨i.toNat, by omega⟩
  have hj : j < xs.length := by omega
  exact ⟨xs[j], atI_nat (List.getElem?_eq_getElem hj), List.getElem_mem hj⟩
theorem hid_at {a b : Addr} {H : Hp} {o : HO} (n : b ≠ a) (e : H b = some o) : hid a H b = some o := by rw [hid_ne n]; exact e
abbrev DV (K : PySem.W.Frag) (a : Addr) (H : Hp) (v : V) (d : PyData) : Prop := Dp K (hid a H) v d
theorem DV.tup {K : PySem.W.Frag} {a p : Addr} {H : Hp} {xs : List V} {ds : List PyData} (n : p ≠ a) (e : H p = some (.tup xs)) (h : DpAll K (hid a H) xs ds) : DV K a H (.ref p) (.tuple ds) := L2.Dp.tup (SqT.of (hid_at n e)) h
theorem DV.lst {K : PySem.W.Frag} {a p : Addr} {H : Hp} {xs : List V} {ds : List PyData} (n : p ≠ a) (e : H p = some (.lst xs)) (h : DpAll K (hid a H) xs ds) : DV K a H (.ref p) (.list ds) := L2.Dp.lst (SqL.of (hid_at n e)) h
theorem DV.kp {K : PySem.W.Frag} {a : Addr} {H H' : Hp} {v : V} {d : PyData} (k : Kp a H H') (h : DV K a H v d) : DV K a H' v d := Dp.mono k h
theorem DV.at {K : PySem.W.Frag} {a : Addr} {H : Hp} {v : V} {d : PyData} (h : DV K a H v d) : Dp K H v d := Dp.mono hid_le h
theorem DVs.kp {K : PySem.W.Frag} {a : Addr} {H H' : Hp} {v : List V} {d : List PyData} (k : Kp a H H') (h : DpAll K (hid a H) v d) : DpAll K (hid a H') v d := DpAll.mono k h
/-- a new object, beside the source and what is kept -/
theorem rd_newK {a : Addr} {n : Nat} {H : Hp} {o : HO} {R : Addr → Hp → Prop} (hS : Src a n H) (k : ∀ p H', p ≠ a → H p = none → H' p = some o → Src a n H' → Kp a H H' → R p H') : New H o R := fun p hp =>
  k p _ (hS.ne hp) hp upd_same (hS.lay (hS.ne hp)) (Kp.refl.lay hp)
def dSet (cs : List Nat) : PyData := .tuple [.str (Str.ofString "set"), .str (S cs)]
theorem at_c {α : Type} {xs : List α} {z : Int} {j : Nat} {v : α} (e : z = 0 + (j : Int)) (h : xs[j]? = some v) : atI xs z = some v := by
  rw [e, Int.zero_add]
  exact atI_nat h
/-! data without lists: tuples that stand -/
def TS (H H' : Hp) : Prop := ∀ b xs, H b = some (.tup xs) → H' b = some (.tup xs)
theorem TS.refl {H : Hp} : TS H H := fun _ _ e => e
theorem TS.trans {H H1 H2 : Hp} (x : TS H H1) (y : TS H1 H2) : TS H H2 := fun b xs e => y b xs (x b xs e)
theorem TS.same {H H' : Hp} (s : Same H H') : TS H H' := fun b xs e => s b _ e
theorem TS.kp {a : Addr} {n : Nat} {H H' : Hp} (hS : Src a n H) (k : Kp a H H') : TS H H' := fun b xs e => by
  refine k.at (fun z => ?_) e
  obtain ⟨_, _, _, q, _⟩ := hS
  rw [z, q] at e; cases e
theorem TS.lay {p : Addr} {H : Hp} {o : HO} (n : H p = none) : TS H (upd H p o) := TS.same (Same.lay n)
theorem TS.set {p : Addr} {H : Hp} {xs : List V} {o : HO} (e : H p = some (.lst xs)) : TS H (upd H p o) := fun b ys q => by
  rw [upd_ne (fun z => by rw [z, e] at q; cases q)]; exact q
mutual
inductive Tp (H : Hp) : V → PyData → Prop
  | non : Tp H .non .none
  | bl (b : Bool) : Tp H (.bl b) (.bool b)
  | int (i : Int) : Tp H (.int i) (.int i)
  | str (x : Str) : Tp H (.str x) (.str x)
  | tup {a : Addr} {xs : List V} {ds : List PyData} : H a = some (.tup xs) → TpAll H xs ds → Tp H (.ref a) (.tuple ds)
inductive TpAll (H : Hp) : List V → List PyData → Prop
  | nil : TpAll H [] []
  | cons {v : V} {vs : List V} {d : PyData} {ds : List PyData} : Tp H v d → TpAll H vs ds → TpAll H (v :: vs) (d :: ds)
end
mutual
theorem Tp.ts {H H' : Hp} (s : TS H H') : ∀ {v : V} {d : PyData}, Tp H v d → Tp H' v d
  | _, _, .non => .non
  | _, _, .bl b => .bl b
  | _, _, .int i => .int i
  | _, _, .str x => .str x
  | _, _, .tup h t => .tup (s _ _ h) (TpAll.ts s t)
theorem TpAll.ts {H H' : Hp} (s : TS H H') : ∀ {vs : List V} {ds : List PyData}, TpAll H vs ds → TpAll H' vs ds
  | _, _, .nil => .nil
  | _, _, .cons h t => .cons (Tp.ts s h) (TpAll.ts s t)
end
mutual
theorem Tp.dp {K : PySem.W.Frag} {H : Hp} : ∀ {v : V} {d : PyData}, Tp H v d → Dp K H v d
  | _, _, .non => .non
  | _, _, .bl b => .bl b
  | _, _, .int i => .int i
  | _, _, .str x => .str x
  | _, _, .tup h t => .tup (SqT.of h) (TpAll.dp t)
theorem TpAll.dp {K : PySem.W.Frag} {H : Hp} : ∀ {vs : List V} {ds : List PyData}, TpAll H vs ds → DpAll K H vs ds
  | _, _, .nil => .nil
  | _, _, .cons h t => .cons (Tp.dp h) (TpAll.dp t)
end
theorem TS.hid {a : Addr} {n : Nat} {H : Hp} (hS : Src a n H) : TS H (Cs.hid a H) := fun b xs e => by
  rw [hid_ne (fun z => ?_)]; exact e
  obtain ⟨_, _, _, q, _⟩ := hS
  rw [z, q] at e; cases e
theorem Tp.dv {K : PySem.W.Frag} {a : Addr} {n : Nat} {H : Hp} {v : V} {d : PyData} (hS : Src a n H) (h : Tp H v d) : DV K a H v d := Tp.dp (Tp.ts (TS.hid hS) h)
theorem TpAll.length {H : Hp} : ∀ {vs : List V} {ds : List PyData}, TpAll H vs ds → vs.length = ds.length
  | _, _, .nil => rfl
  | _, _, .cons _ t => by rw [List.length_cons, List.length_cons, TpAll.length t]
theorem TpAll.app {H : Hp} : ∀ {vs ws : List V} {ds es : List PyData}, TpAll H vs ds → TpAll H ws es → TpAll H (vs ++ ws) (ds ++ es)
  | _, _, _, _, .nil, t => t
  | _, _, _, _, .cons h t, u => .cons h (TpAll.app t u)
theorem TpAll.drop {H : Hp} : ∀ {vs : List V} {ds : List PyData} (n : Nat), TpAll H vs ds → TpAll H (vs.drop n) (ds.drop n)
  | _, _, 0, t => t
  | _, _, _ + 1, .nil => .nil
  | _, _, n + 1, .cons _ t => TpAll.drop n t

end Cs
namespace Cs
open PySem L2
open PyProof.Rows (envOfC)
/-! the mirror of is_pattern over data -/
abbrev kS (s : String) : Str := Str.ofString s
def isStr : PyData → Bool | .str _ => true | _ => false
def isTup : PyData → Bool | .tuple _ => true | _ => false
def isIntB : PyData → Bool | .int _ => true | .bool _ => true | _ => false
def isBool : PyData → Bool | .bool _ => true | _ => false
theorem tyx_lst {K : PySem.W.Frag} {H : Hp} {a : Addr} {xs : List V} (h : SqL K H a xs) : TyX K H (.ref a) (.type "list") := by
  rcases h with (h | ⟨o, h⟩) | ⟨o, its, n, h, c, _⟩
  · exact .base (.lst h)
  · exact .base (.frz h)
  · exact .kList h c
theorem tyx_tup {K : PySem.W.Frag} {H : Hp} {a : Addr} {xs : List V} (h : SqT K H a xs) : TyX K H (.ref a) (.type "tuple") := by
  rcases h with (h | ⟨o, h⟩) | ⟨o, its, n, h, c, _⟩
  · exact .base (.tup h)
  · exact .fTuple h
  · exact .kTuple h c
section
variable {K : PySem.W.Frag} {H : Hp} {Q : VK} {v : V} {d : PyData}
theorem rd_isStr (h : Dp K H v d) (q : Q (.bl (isStr d)) H) : rIsi K [v, .ty "str"] H Q := by
  cases h with
  | non => exact rd_isi (.ty _) (.base .non) (kit_ty (b := "str") (r := false) (by decide +kernel)) q
  | bl b => exact rd_isi (.ty _) (.base (.bl b)) (kit_ty (b := "str") (r := false) (by decide +kernel)) q
  | int i => exact rd_isi (.ty _) (.base (.int i)) (kit_ty (b := "str") (r := false) (by decide +kernel)) q
  | str x => exact rd_isi (.ty _) (.base (.str x)) (kit_ty (b := "str") (r := true) (by decide +kernel)) q
  | lst e _ => exact rd_isi (.ty _) (tyx_lst e) (kit_ty (b := "str") (r := false) (by decide +kernel)) q
  | tup e _ => exact rd_isi (.ty _) (tyx_tup e) (kit_ty (b := "str") (r := false) (by decide +kernel)) q
theorem rd_isTup (h : Dp K H v d) (q : Q (.bl (isTup d)) H) : rIsi K [v, .ty "tuple"] H Q := by
  cases h with
  | non => exact rd_isi (.ty _) (.base .non) (kit_ty (b := "tuple") (r := false) (by decide +kernel)) q
  | bl b => exact rd_isi (.ty _) (.base (.bl b)) (kit_ty (b := "tuple") (r := false) (by decide +kernel)) q
  | int i => exact rd_isi (.ty _) (.base (.int i)) (kit_ty (b := "tuple") (r := false) (by decide +kernel)) q
  | str x => exact rd_isi (.ty _) (.base (.str x)) (kit_ty (b := "tuple") (r := false) (by decide +kernel)) q
  | lst e _ => exact rd_isi (.ty _) (tyx_lst e) (kit_ty (b := "tuple") (r := false) (by decide +kernel)) q
  | tup e _ => exact rd_isi (.ty _) (tyx_tup e) (kit_ty (b := "tuple") (r := true) (by decide +kernel)) q
theorem rd_isInt (h : Dp K H v d) (q : Q (.bl (isIntB d)) H) : rIsi K [v, .ty "int"] H Q := by
  cases h with
  | non => exact rd_isi (.ty _) (.base .non) (kit_ty (b := "int") (r := false) (by decide +kernel)) q
  | bl b => exact rd_isi (.ty _) (.base (.bl b)) (kit_ty (b := "int") (r := true) (by decide +kernel)) q
  | int i => exact rd_isi (.ty _) (.base (.int i)) (kit_ty (b := "int") (r := true) (by decide +kernel)) q
  | str x => exact rd_isi (.ty _) (.base (.str x)) (kit_ty (b := "int") (r := false) (by decide +kernel)) q
  | lst e _ => exact rd_isi (.ty _) (tyx_lst e) (kit_ty (b := "int") (r := false) (by decide +kernel)) q
  | tup e _ => exact rd_isi (.ty _) (tyx_tup e) (kit_ty (b := "int") (r := false) (by decide +kernel)) q
theorem rd_isBool (h : Dp K H v d) (q : Q (.bl (isBool d)) H) : rIsi K [v, .ty "bool"] H Q := by
  cases h with
  | non => exact rd_isi (.ty _) (.base .non) (kit_ty (b := "bool") (r := false) (by decide +kernel)) q
  | bl b => exact rd_isi (.ty _) (.base (.bl b)) (kit_ty (b := "bool") (r := true) (by decide +kernel)) q
  | int i => exact rd_isi (.ty _) (.base (.int i)) (kit_ty (b := "bool") (r := false) (by decide +kernel)) q
  | str x => exact rd_isi (.ty _) (.base (.str x)) (kit_ty (b := "bool") (r := false) (by decide +kernel)) q
  | lst e _ => exact rd_isi (.ty _) (tyx_lst e) (kit_ty (b := "bool") (r := false) (by decide +kernel)) q
  | tup e _ => exact rd_isi (.ty _) (tyx_tup e) (kit_ty (b := "bool") (r := false) (by decide +kernel)) q
theorem rd_isBl {b : Bool} (q : Q (.bl true) H) : rIsi K [.bl b, .ty "bool"] H Q := rd_isBool (.bl b) q
end
/-- an int, no bool, from lo to hi -/
def mWithin (lo hi : Int) : PyData → Bool
  | .int i => decide (lo ≤ i) && decide (i ≤ hi)
  | _ => false
def mHigh (l : Int) : PyData → Bool
  | .none => true
  | d => mWithin l 4 d
def mRange (lo hi : PyData) : Bool := match lo with
  | .int l => mWithin 0 4 (.int l) && mHigh l hi
  | _ => false
/-- a text of distinct characters of the alphabet in its order -/
def mSel (al : List Nat) : PyData → Bool
  | .str x => decide (x = S (al.filter fun c => decide (c ∈ x.cps.toList)))
  | _ => false
def mOne (al : List Nat) : List PyData → Bool
  | [p] => mSel al p
  | _ => false
def mThree : List PyData → Bool
  | [_, lo, hi] => mRange lo hi
  | _ => false
/-- an expression as far as can be told without its parts -/
def mWF (al : List Nat) : PyData → Bool
  | .tuple (.str w :: ps) =>
    if w = kS "set" then mOne al ps
    else if w = kS "not" then decide (ps.length = 1)
    else if w = kS "again" then mThree ps
    else decide (w = kS "row") || decide (w = kS "any") || decide (w = kS "all")
  | _ => false
def mParts : PyData → List PyData
  | .tuple (.str w :: ps) => if w = kS "set" then [] else if w = kS "again" then ps.take 1 else ps
  | _ => []
theorem mWF_eq (al : List Nat) (w : Str) (ps : List PyData) : mWF al (.tuple (.str w :: ps)) = if w = kS "set" then mOne al ps else if w = kS "not" then decide (ps.length = 1) else if w = kS "again" then mThree ps else (decide (w = kS "row") || decide (w = kS "any") || decide (w = kS "all")) := rfl
theorem mParts_eq (w : Str) (ps : List PyData) : mParts (.tuple (.str w :: ps)) = if w = kS "set" then [] else if w = kS "again" then ps.take 1 else ps := rfl

end Cs
namespace Cs
open PySem L2
open PyProof.Rows (envOfC)
/-! measures of expressions, by one fold over the parts -/
def rel {α : Type} (w : Str) (vs : List α) : List α := if w = kS "set" then [] else if w = kS "again" then vs.take 1 else vs
mutual
def foldD {α : Type} (f : Str → List PyData → List α → α) (z : α) : PyData → α
  | .tuple (.str w :: ps) => f w ps (rel w (foldDs f z ps))
  | _ => z
def foldDs {α : Type} (f : Str → List PyData → List α → α) (z : α) : List PyData → List α
  | [] => []
  | p :: ps => foldD f z p :: foldDs f z ps
end
theorem foldDs_map {α : Type} (f : Str → List PyData → List α → α) (z : α) : ∀ ps, foldDs f z ps = ps.map (foldD f z)
  | [] => by unfold foldDs; rfl
  | p :: ps => by unfold foldDs; rw [foldDs_map f z ps]; rfl
theorem rel_map {α β : Type} (w : Str) (g : α → β) (vs : List α) : rel w (vs.map g) = (rel w vs).map g := by
  unfold rel
  split
  · rfl
  · split
    · rw [List.map_take]
    · rfl
theorem mParts_rel (w : Str) (ps : List PyData) : mParts (.tuple (.str w :: ps)) = rel w ps := rfl
theorem foldD_eq {α : Type} (f : Str → List PyData → List α → α) (z : α) (w : Str) (ps : List PyData) : foldD f z (.tuple (.str w :: ps)) = f w ps ((rel w ps).map (foldD f z)) := by
  rw [foldD, foldDs_map, rel_map]
def mD : PyData → Nat := foldD (fun _ _ vs => 1 + vs.foldr max 0) 1
def mT : PyData → Nat := foldD (fun _ _ vs => 1 + vs.sum) 1
def mF (al : List Nat) : PyData → Bool := foldD (fun w ps vs => mWF al (.tuple (.str w :: ps)) && vs.all id) false
def isBar (w : Str) : Bool := decide (w = kS "all") || decide (w = kS "not")
def isRow (w : Str) : Bool := decide (w = kS "row") || decide (w = kS "again")
def mP : PyData → Bool := foldD (fun w _ vs => !isBar w && vs.all id) true
def mRP : PyData → Bool × Bool := foldD (fun w _ vs => (if isRow w then vs.all (·.2) else vs.all (·.1), !isBar w && vs.all (·.2))) (true, true)
def m1 (s : Int) : Int := if s > 1 then s else 1
def mFac : List PyData → Int
  | [_, .int l, .none] => l + 1
  | [_, _, .int h] => m1 h
  | _ => 1
def mW : PyData → Int := foldD (fun w ps vs => if w = kS "again" then m1 vs.sum * mFac ps else m1 vs.sum) 0
theorem mD_eq (w : Str) (ps : List PyData) : mD (.tuple (.str w :: ps)) = 1 + ((rel w ps).map mD).foldr max 0 := foldD_eq _ _ w ps
theorem mT_eq (w : Str) (ps : List PyData) : mT (.tuple (.str w :: ps)) = 1 + ((rel w ps).map mT).sum := foldD_eq _ _ w ps
theorem mF_eq (al : List Nat) (w : Str) (ps : List PyData) : mF al (.tuple (.str w :: ps)) = (mWF al (.tuple (.str w :: ps)) && ((rel w ps).map (mF al)).all id) := foldD_eq _ _ w ps
theorem mP_eq (w : Str) (ps : List PyData) : mP (.tuple (.str w :: ps)) = (!isBar w && ((rel w ps).map mP).all id) := foldD_eq _ _ w ps
theorem mRP_eq (w : Str) (ps : List PyData) : mRP (.tuple (.str w :: ps)) = (if isRow w then ((rel w ps).map mRP).all (·.2) else ((rel w ps).map mRP).all (·.1), !isBar w && ((rel w ps).map mRP).all (·.2)) := foldD_eq _ _ w ps
theorem mW_eq (w : Str) (ps : List PyData) : mW (.tuple (.str w :: ps)) = if w = kS "again" then m1 ((rel w ps).map mW).sum * mFac ps else m1 ((rel w ps).map mW).sum := foldD_eq _ _ w ps
def mR (d : PyData) : Bool := (mRP d).1
theorem foldr_max_le {l : List Nat} {n : Nat} (h : ∀ x ∈ l, x ≤ n) : l.foldr max 0 ≤ n := by
  induction l with
  | nil => exact Nat.zero_le _
  | cons a l ih =>
    rw [List.foldr_cons]
    exact Nat.max_le.mpr ⟨h a (by simp), ih fun x hx => h x (by simp [hx])⟩
theorem le_foldr_max {l : List Nat} {x : Nat} (h : x ∈ l) : x ≤ l.foldr max 0 := by
  induction l with
  | nil => simp at h
  | cons a l ih =>
    rw [List.foldr_cons]
    rcases List.mem_cons.mp h with rfl | h
    · exact Nat.le_max_left _ _
    · exact Nat.le_trans (ih h) (Nat.le_max_right _ _)
theorem mem_sum_le {l : List Nat} {x : Nat} (h : x ∈ l) : x ≤ l.sum := by
  induction l with
  | nil => simp at h
  | cons a l ih =>
    rw [List.sum_cons]
    rcases List.mem_cons.mp h with rfl | h
    · exact Nat.le_add_right _ _
    · exact Nat.le_trans (ih h) (Nat.le_add_left _ _)
theorem mD_part {w : Str} {ps : List PyData} {p : PyData} (h : p ∈ rel w ps) : mD p < mD (.tuple (.str w :: ps)) := by
  rw [mD_eq]
  have := le_foldr_max (List.mem_map_of_mem (f := mD) h)
  omega
/-- induction over the parts -/
theorem by_parts {C : PyData → Prop} (h0 : ∀ w ps, (∀ p ∈ rel w ps, C p) → C (.tuple (.str w :: ps))) (h1 : ∀ d, (∀ w ps, d ≠ .tuple (.str w :: ps)) → C d) : ∀ d, C d := by
  have key : ∀ n d, mD d ≤ n → C d := by
    intro n
    induction n with
    | zero =>
      intro d hd
      refine h1 d fun w ps e => ?_
      subst e
      rw [mD_eq] at hd; omega
    | succ n ih =>
      intro d hd
      by_cases hx : ∃ w ps, d = .tuple (.str w :: ps)
      · obtain ⟨w, ps, rfl⟩ := hx
        exact h0 w ps fun p hp => ih p (by have := mD_part hp; omega)
      · exact h1 d fun w ps e => hx ⟨w, ps, e⟩
  exact fun d => key _ d (Nat.le_refl _)
theorem foldD_no {α : Type} (f : Str → List PyData → List α → α) (z : α) (d : PyData) (h : ∀ w ps, d ≠ .tuple (.str w :: ps)) : foldD f z d = z := by
  unfold foldD
  split
  · exact absurd rfl (h _ _)
  · rfl
theorem mD_le_mT : ∀ d, mD d ≤ mT d := by
  refine by_parts (fun w ps ih => ?_) (fun d h => ?_)
  · rw [mD_eq, mT_eq]
    refine Nat.add_le_add_left (foldr_max_le fun x hx => ?_) 1
    obtain ⟨p, hp, rfl⟩ := List.mem_map.mp hx
    exact Nat.le_trans (ih p hp) (mem_sum_le (List.mem_map_of_mem (f := mT) hp))
  · exact Nat.le_of_eq ((foldD_no _ _ d h).trans (foldD_no _ _ d h).symm)
theorem all_mem {α : Type} {f g : α → Bool} : ∀ {l : List α}, (∀ x ∈ l, f x = g x) → l.all f = l.all g
  | [], _ => rfl
  | a :: l, h => by
    rw [List.all_cons, List.all_cons, h a (by simp), all_mem fun x hx => h x (by simp [hx])]
theorem mP_snd : ∀ d, (mRP d).2 = mP d := by
  refine by_parts (fun w ps ih => ?_) (fun d h => ?_)
  · rw [mRP_eq, mP_eq]
    show (!isBar w && _) = _
    congr 1
    rw [List.all_map, List.all_map]
    exact all_mem fun p hp => ih p hp
  · exact (congrArg Prod.snd (foldD_no _ _ d h)).trans (foldD_no _ _ d h).symm
theorem mR_eq (w : Str) (ps : List PyData) : mR (.tuple (.str w :: ps)) = if isRow w then (rel w ps).all mP else (rel w ps).all mR := by
  unfold mR
  rw [mRP_eq]
  show (if isRow w then _ else _) = _
  have e : ((rel w ps).map mRP).all (·.2) = (rel w ps).all mP := by
    rw [List.all_map]
    exact all_mem fun p _ => mP_snd p
  rw [e, List.all_map]
  rfl
theorem plain_right : ∀ d, mP d = true → mR d = true := by
  refine by_parts (fun w ps ih => ?_) (fun d h => ?_)
  · intro hp
    rw [mP_eq, Bool.and_eq_true, List.all_map, List.all_eq_true] at hp
    rw [mR_eq]
    split
    · exact List.all_eq_true.mpr fun p hq => hp.2 p hq
    · exact List.all_eq_true.mpr fun p hq => ih p hq (hp.2 p hq)
  · intro _
    unfold mR
    have e : mRP d = (true, true) := foldD_no _ _ d h
    rw [e]
/-! the loop over the parts -/
def mHead : PyData → Str
  | .tuple (.str w :: _) => w
  | _ => kS ""
def loopS (al : List Nat) : Nat → List (PyData × Bool) → Bool
  | _, [] => true
  | 0, _ :: _ => false
  | r + 1, (d, b) :: st => if mWF al d = false then false else if (b && isBar (mHead d)) = true then false else loopS al r (((mParts d).map fun p => (p, b || isRow (mHead d))).reverse ++ st)
theorem mWF_form {al : List Nat} {d : PyData} (h : mWF al d = true) : ∃ w ps, d = .tuple (.str w :: ps) ∧ (w = kS "set" ∨ w = kS "not" ∨ w = kS "again" ∨ w = kS "row" ∨ w = kS "any" ∨ w = kS "all") ∧ (w = kS "set" → mOne al ps = true) ∧ (w = kS "not" → ps.length = 1) ∧ (w = kS "again" → mThree ps = true) := by
  unfold mWF at h
  split at h
  · rename_i w ps
    refine ⟨w, ps, rfl, ?_⟩
    have d1 : kS "not" ≠ kS "set" := by decide +kernel
    have d2 : kS "again" ≠ kS "set" := by decide +kernel
    have d3 : kS "again" ≠ kS "not" := by decide +kernel
    by_cases h1 : w = kS "set"
    · rw [if_pos h1] at h
      exact ⟨.inl h1, fun _ => h, fun z => absurd (z.symm.trans h1) d1, fun z => absurd (z.symm.trans h1) d2⟩
    · rw [if_neg h1] at h
      by_cases h2 : w = kS "not"
      · rw [if_pos h2] at h
        exact ⟨.inr (.inl h2), fun z => absurd z h1, fun _ => of_decide_eq_true h, fun z => absurd (z.symm.trans h2) d3⟩
      · rw [if_neg h2] at h
        by_cases h3 : w = kS "again"
        · rw [if_pos h3] at h
          exact ⟨.inr (.inr (.inl h3)), fun z => absurd z h1, fun z => absurd z h2, fun _ => h⟩
        · rw [if_neg h3] at h
          simp only [Bool.or_eq_true, decide_eq_true_eq] at h
          refine ⟨?_, fun z => absurd z h1, fun z => absurd z h2, fun z => absurd z h3⟩
          rcases h with (h | h) | h
          · exact .inr (.inr (.inr (.inl h)))
          · exact .inr (.inr (.inr (.inr (.inl h))))
          · exact .inr (.inr (.inr (.inr (.inr h))))
  · cases h
def Good (al : List Nat) (x : PyData × Bool) : Prop := mF al x.1 = true ∧ mR x.1 = true ∧ (x.2 = true → mP x.1 = true)
theorem good_step {al : List Nat} {w : Str} {ps : List PyData} {b : Bool} : Good al (.tuple (.str w :: ps), b) ↔ mWF al (.tuple (.str w :: ps)) = true ∧ (b && isBar w) = false ∧ ∀ p ∈ rel w ps, Good al (p, b || isRow w) := by
  unfold Good
  show mF al (.tuple (.str w :: ps)) = true ∧ mR (.tuple (.str w :: ps)) = true ∧ (b = true → mP (.tuple (.str w :: ps)) = true) ↔ _
  rw [mF_eq, mR_eq, mP_eq, Bool.and_eq_true, List.all_map, List.all_eq_true, Bool.and_eq_true, List.all_map, List.all_eq_true]
  have nb : isRow w = true → isBar w = false := by
    intro h
    unfold isRow at h
    unfold isBar
    rw [Bool.or_eq_true, decide_eq_true_eq, decide_eq_true_eq] at h
    rcases h with rfl | rfl <;> decide +kernel
  constructor
  · rintro ⟨⟨h1, h2⟩, h3, h4⟩
    refine ⟨h1, ?_, fun p hp => ⟨h2 p hp, ?_, fun hb => ?_⟩⟩
    · cases b with
      | false => rfl
      | true => have := (h4 rfl).1; simpa using this
    · split at h3
      · exact plain_right p (List.all_eq_true.mp h3 p hp)
      · exact List.all_eq_true.mp h3 p hp
    · cases b with
      | true => exact (h4 rfl).2 p hp
      | false =>
        have hr : isRow w = true := by simpa using hb
        rw [if_pos hr] at h3
        exact List.all_eq_true.mp h3 p hp
  · rintro ⟨h1, h2, h3⟩
    refine ⟨⟨h1, fun p hp => (h3 p hp).1⟩, ?_, fun hb => ⟨?_, fun p hp => (h3 p hp).2.2 (by simp [hb])⟩⟩
    · split
      · rename_i hr
        exact List.all_eq_true.mpr fun p hp => (h3 p hp).2.2 (by simp [hr])
      · exact List.all_eq_true.mpr fun p hp => (h3 p hp).2.1
    · rw [hb] at h2
      simpa using h2
theorem sum_rev (l : List Nat) : l.reverse.sum = l.sum := by
  induction l with
  | nil => rfl
  | cons a l ih => rw [List.reverse_cons, List.sum_append, ih, List.sum_cons, List.sum_cons]; simp; omega
theorem mT_pos (d : PyData) : 1 ≤ mT d := by
  by_cases hx : ∃ w ps, d = .tuple (.str w :: ps)
  · obtain ⟨w, ps, rfl⟩ := hx
    rw [mT_eq]; omega
  · exact Nat.le_of_eq (foldD_no _ _ d fun w ps e => hx ⟨w, ps, e⟩).symm
theorem loopS_iff (al : List Nat) : ∀ (r : Nat) (st : List (PyData × Bool)), loopS al r st = true ↔ (∀ x ∈ st, Good al x) ∧ (st.map fun x => mT x.1).sum ≤ r := by
  intro r
  induction r with
  | zero =>
    intro st
    cases st with
    | nil => simp [loopS]
    | cons x st =>
      have := mT_pos x.1
      simp only [loopS, List.map_cons, List.sum_cons]
      constructor
      · intro h; cases h
      · rintro ⟨_, h⟩; omega
  | succ r ih =>
    intro st
    cases st with
    | nil => simp [loopS]
    | cons x st =>
      obtain ⟨d, b⟩ := x
      unfold loopS
      by_cases hw : mWF al d = true
      · obtain ⟨w, ps, rfl, -⟩ := mWF_form hw
        rw [if_neg (by rw [hw]; simp)]
        show (if (b && isBar w) = true then false else loopS al r (((rel w ps).map fun p => (p, b || isRow w)).reverse ++ st)) = true ↔ _
        have e1 : ((((rel w ps).map fun p => (p, b || isRow w)).reverse ++ st).map fun x => mT x.1).sum = ((rel w ps).map mT).sum + (st.map fun x => mT x.1).sum := by
          rw [List.map_append, List.sum_append, List.map_reverse, sum_rev, List.map_map]
          rfl
        by_cases hb : (b && isBar w) = true
        · rw [if_pos hb]
          constructor
          · intro h; cases h
          · rintro ⟨h, _⟩
            have := (good_step.mp (h (.tuple (.str w :: ps), b) (by simp))).2.1
            rw [hb] at this; cases this
        · rw [if_neg hb, ih, e1]
          have hb' : (b && isBar w) = false := by simpa using hb
          have e2 : (((.tuple (.str w :: ps), b) :: st).map fun x : PyData × Bool => mT x.1).sum = 1 + ((rel w ps).map mT).sum + (st.map fun x => mT x.1).sum := by
            rw [List.map_cons, List.sum_cons, mT_eq]
          rw [e2]
          constructor
          · rintro ⟨h, hs⟩
            refine ⟨fun x hx => ?_, by omega⟩
            rcases List.mem_cons.mp hx with rfl | hx
            · refine good_step.mpr ⟨hw, hb', fun p hp => h (p, b || isRow w) ?_⟩
              exact List.mem_append_left _ (List.mem_reverse.mpr (List.mem_map_of_mem (f := fun p => (p, b || isRow w)) hp))
            · exact h x (List.mem_append_right _ hx)
          · rintro ⟨h, hs⟩
            refine ⟨fun x hx => ?_, by omega⟩
            rcases List.mem_append.mp hx with hx | hx
            · obtain ⟨p, hp, rfl⟩ := List.mem_map.mp (List.mem_reverse.mp hx)
              exact (good_step.mp (h (.tuple (.str w :: ps), b) (by simp))).2.2 p hp
            · exact h x (List.mem_cons_of_mem _ hx)
      · have hw' : mWF al d = false := by simpa using hw
        rw [if_pos hw']
        constructor
        · intro h; cases h
        · rintro ⟨h, _⟩
          have g := (h (d, b) (by simp)).1
          exfalso
          by_cases hx : ∃ w ps, d = .tuple (.str w :: ps)
          · obtain ⟨w, ps, rfl⟩ := hx
            have g : mF al (.tuple (.str w :: ps)) = true := g
            rw [mF_eq, hw'] at g
            simp at g
          · have e : mF al d = false := foldD_no _ _ d fun w ps e => hx ⟨w, ps, e⟩
            have g : mF al d = true := g
            rw [e] at g; cases g
/-- what is_pattern answers -/
def mPat (al : List Nat) (d : PyData) : Bool := loopS al 20 [(d, false)] && decide (mW d ≤ 10)
theorem mPat_iff {al : List Nat} {d : PyData} : mPat al d = true ↔ mF al d = true ∧ mR d = true ∧ mT d ≤ 20 ∧ mW d ≤ 10 := by
  unfold mPat
  rw [Bool.and_eq_true, loopS_iff, decide_eq_true_eq]
  simp [Good]
  constructor
  · rintro ⟨⟨⟨a, b⟩, c⟩, e⟩; exact ⟨a, b, c, e⟩
  · rintro ⟨a, b, c, e⟩; exact ⟨⟨⟨a, b⟩, c⟩, e⟩

end Cs
namespace Cs
open PySem L2
open PyProof.Rows (envOfC)
/-! a set over the alphabet -/
def sp_set : Sp := fun vs H Q _ => ∃ (a : Addr) (al : List Nat) (n : Nat), vs = [.ref a, .str (S al)] ∧ Alp al ∧ Src a (n + 7) H ∧ ∀ (p : Addr) (cs : List Nat) (H' : Hp), cs.Sublist al → Tp H' (.ref p) (dSet cs) → Src a n H' → Kp a H H' → Q (.ref p) H'
theorem use_set {a : Addr} {al : List Nat} {n : Nat} {H : Hp} {Q : VK} {E : XK} (hA : Alp al) (h : Src a (n + 7) H) (k : ∀ (p : Addr) (cs : List Nat) (H' : Hp), cs.Sublist al → Tp H' (.ref p) (dSet cs) → Src a n H' → Kp a H H' → Q (.ref p) H') : sp_set [.ref a, .str (S al)] H Q E :=
  ⟨a, al, n, rfl, hA, h, k⟩
theorem sub_snoc {α : Type} {m l : List α} {i : Nat} {x : α} (h : m.Sublist (l.take i)) (e : l[i]? = some x) : (m ++ [x]).Sublist (l.take (i + 1)) := by
  rw [List.take_add_one, e]
  exact List.Sublist.append h (List.Sublist.refl _)
theorem sub_more {α : Type} {m l : List α} {i : Nat} (h : m.Sublist (l.take i)) : m.Sublist (l.take (i + 1)) := by
  rw [List.take_add_one]
  exact h.trans (List.sublist_append_left _ _)
section
variable {P : Program} {w : World} {K : PySem.W.Frag} {mg : Str → Option Value} {base : Heap}
theorem ok_set (B : Blt mg) (G__law_draw : Cal P w K mg base 1 "_law_draw" ["_law_source_here", "_law_many"] sp_draw) (F : At K mg "_law_set" s__law_set ["_law_source_here", "_law_alphabet_here"]) : Cal P w K mg base 2 "_law_set" ["_law_source_here", "_law_alphabet_here"] sp_set := by
  refine F.ok sc__law_set (fun vs H Q E h => ?_) (fun f cdv A outer s H vs Q E hr h => ?_)
  · obtain ⟨a, al, n, rfl, _⟩ := h
    rfl
  · obtain ⟨a, al, n, rfl, hA, hS, k⟩ := h
    have zal : (S al).length ≤ sizeLine := by rw [S_len, PySem.sizeLine_eq]; have := hA.hi; omega
    refine ⟨_, (pss_cons (ps_set (i := 2) sc__law_set.nd rfl (Or.inl rfl) (pe_ix (ix_listK (K := K) (by rfl)) (pe_lst (pa_cons pe_int (pa_cons pe_int (pa_cons pe_int (pa_cons pe_int (pa_cons pe_int (pa_cons pe_int (pa_cons pe_int (pa_cons pe_int pa_nil))))))))) (pe_c G__law_draw (hr.mono (by first | decide | omega)) (pa_cons (pv 0) (pa_cons pe_int pa_nil))) (fun _ _ => rfl)))
    (pss_cons (ps_set (i := 3) sc__law_set.nd rfl (Or.inr rfl) (pe_lc (own := [("_law_k", 4)]) rfl sc__law_set.nd (pi_range1 (by rfl) B.range (pa_cons (pv 2) pa_nil)) (blkOk_by (N := ["_law_source_here", "_law_alphabet_here", "_law_many", "_law_taken", "_law_k", "_law_at"]) (sc := defScope s__law_set) (by decide +kernel)) (fun _ _ _ _ _ => (pg_name (i := 4) sc__law_set.nd rfl (Or.inl rfl))) (fun _ _ _ _ _ => pts_nil) (fun _ _ _ _ _ => (pe_c G__law_draw (hr.mono (by first | decide | omega)) (pa_cons (pv 0) (pa_cons (pe_callB call_len_str (by rfl) B.len PySem.boot_len (pa_cons (pv 1) pa_nil)) pa_nil))))))
    (pss_one (ps_ret (pe_tup (pa_cons pe_str (pa_cons (pe_joinK (K := K) (by rfl) pe_str (pe_lc (own := [("_law_at", 5)]) rfl sc__law_set.nd (pi_range1 (by rfl) B.range (pa_cons (pe_callB call_len_str (by rfl) B.len PySem.boot_len (pa_cons (pv 1) pa_nil)) pa_nil)) (blkOk_by (N := ["_law_source_here", "_law_alphabet_here", "_law_many", "_law_taken", "_law_k", "_law_at"]) (sc := defScope s__law_set) (by decide +kernel)) (fun _ _ _ _ _ => (pg_name (i := 5) sc__law_set.nd rfl (Or.inl rfl))) (fun _ _ _ _ _ => (pts_one (pt_cmpR (op_in_seqK (K := K) (by rfl)) (pv 5) (pv 3) (by first | rfl | decide)))) (fun _ _ _ _ _ => (pe_ix ix_str (pv 1) (pv 5) (fun _ _ => rfl))))) pa_nil))))))), ?_⟩
    walk_at "go"
    refine ⟨by show 8 ≤ sizeLine; decide, rd_newK hS fun p H1 pa hp eP hS1 k1 => ?_⟩
    walk_at "go"
    refine use_draw (n := n + 6) hS1 (by decide) (by decide) fun i H2 i0 i1 hS2 k2 => ?_
    walk_at "go"
    obtain ⟨v, hv, hm⟩ := at_mem (xs := [V.int 1, .int 1, .int 1, .int 1, .int 1, .int 2, .int 2, .int 6]) i0 i1
    refine rd_ixl (SqL.of (k2.at pa eP)) hv ?_
    walk_at "go"
    obtain ⟨m, rfl, m0, m1⟩ : ∃ m : Int, v = .int m ∧ 1 ≤ m ∧ m ≤ 6 := by
      simp only [List.mem_cons, List.not_mem_nil, or_false] at hm
      rcases hm with rfl | rfl | rfl | rfl | rfl | rfl | rfl | rfl <;> exact ⟨_, rfl, by decide, by decide⟩
    refine rd_rng1j (by omega) (by omega) ?_
    intro T hT
    have Ta : T ≠ a := hS2.ne hT
    have hT0 : H T = none := (k1.trans k2).none Ta hT
    refine lc_range (lo := 0) (n := m.toNat) (fun i H' => ∃ ms : List Int, H' T = some (.lst (ms.map V.int)) ∧ ms.length = i ∧ Src a (n + (6 - i)) H' ∧ Kp a H H') ?_ ?_ ?_
    · exact ⟨[], upd_same, rfl, (hS2.lay Ta).mono (by omega), (k1.trans k2).lay hT0⟩
    · rintro i H' hi ⟨ms, eT, hl, hS', kp⟩
      walk_at "go"
      refine ⟨rfl, ?_⟩
      walk_at "go"
      refine ⟨S al, rfl, zal, ?_⟩
      walk_at "go"
      have e6 : n + (6 - i) = n + (6 - (i + 1)) + 1 := by omega
      rw [e6] at hS'
      refine use_draw hS' (by rw [S_len]; have := hA.lo; omega) (by rw [S_len]; have := hA.hi; omega) fun d H2 d0 d1 hS2 k2 => ?_
      refine ⟨_, k2.at Ta eT, by rw [List.length_map, PySem.sizeLine_eq]; omega, ms ++ [d], ?_, by rw [List.length_append, hl]; rfl, hS2.lay Ta, (kp.trans k2).lay hT0⟩
      rw [upd_same, List.map_append]; rfl
    · rintro H3 ⟨ms, eT, hl, hS3, kp⟩
      walk_at "go"
      refine ⟨S al, rfl, zal, ?_⟩
      have hz : (((S al).length : Nat) : Int) = (al.length : Int) := by rw [S_len]
      have hlo := hA.lo
      have hhi := hA.hi
      refine rd_rng1j (by omega) (by omega) ?_
      intro D hD
      have Da : D ≠ a := hS3.ne hD
      have DT : D ≠ T := fun z => by rw [z, eT] at hD; cases hD
      have hD0 : H D = none := kp.none Da hD
      refine lc_range (lo := 0) (n := ((((S al).length : Nat) : Int)).toNat) (fun i H' => ∃ made : List Nat, H' T = some (.lst (ms.map V.int)) ∧ H' D = some (.lst (made.map fun c => V.str (S [c]))) ∧ made.Sublist (al.take i) ∧ Src a n H' ∧ Kp a H H') ?_ ?_ ?_
      · exact ⟨[], by rw [upd_ne DT.symm]; exact eT, upd_same, List.nil_sublist _, (hS3.lay Da).mono (by omega), kp.lay hD0⟩
      · rintro i H' hi ⟨made, eT', eD, hs, hS', kp'⟩
        have hi2 : i < al.length := by rw [S_len] at hi; omega
        have hml : made.length ≤ i := by
          have := hs.length_le
          rw [List.length_take] at this
          omega
        walk_at "go"
        refine ⟨rfl, ?_⟩
        walk_at "go"
        refine rd_in (.inl (SqL.of eT')) rfl (by rw [List.all_map]; exact List.all_eq_true.mpr fun _ _ => rfl) ?_
        walk_at "go"
        refine ite2 (fun _ => ?_) (fun _ => ?_)
        · walk_at "go"
          have hc : al[i]? = some al[i] := List.getElem?_eq_getElem hi2
          refine ⟨S al, _, al[i], rfl, rfl, zal, at_c rfl hc, made.map (fun c => V.str (S [c])), eD, by rw [List.length_map, PySem.sizeLine_eq]; omega, made ++ [al[i]], ?_, ?_, sub_snoc hs hc, hS'.lay Da, kp'.lay hD0⟩
          · rw [upd_ne DT.symm]; exact eT'
          · rw [upd_same, List.map_append]; rfl
        · exact ⟨made, eT', eD, sub_more hs, hS', kp'⟩
      · rintro H4 ⟨made, eT', eD, hs, hS4, kp4⟩
        have hs' : made.Sublist al := hs.trans (List.take_sublist _ _)
        walk_at "go"
        refine ⟨_, D, made.map fun c => S [c], rfl, rfl, .inl (SqL.of (by rw [eD, List.map_map]; rfl)), ?_, ?_⟩
        · rw [sum_signs, List.length_map]
          have := hs'.length_le
          show made.length + made.length * 0 ≤ _
          omega
        · walk_at "go"
          rw [empty_S, join_signs]
          refine ⟨by show 2 ≤ sizeLine; decide, rd_newK hS4 fun p H5 pa hp eP hS5 k5 => ?_⟩
          walk_at "go"
          exact k p made H5 hs' (.tup eP (.cons (.str _) (.cons (.str _) .nil))) hS5 (kp4.trans k5)
end

end Cs
namespace Cs
open PySem L2
open PyProof.Rows (envOfC)
/-! a row of m sets -/
def dRow (css : List (List Nat)) : PyData := .tuple (.str (Str.ofString "row") :: css.map dSet)
def sp_row : Sp := fun vs H Q _ => ∃ (a : Addr) (al : List Nat) (m : Int) (n : Nat), vs = [.ref a, .str (S al), .int m] ∧ Alp al ∧ 0 ≤ m ∧ m ≤ 1000 ∧ Src a (n + 7 * m.toNat) H ∧
  ∀ (p : Addr) (css : List (List Nat)) (H' : Hp), (css.length : Int) = m → (∀ cs ∈ css, cs.Sublist al) → Tp H' (.ref p) (dRow css) → Src a n H' → Kp a H H' → Q (.ref p) H'
theorem use_row {a : Addr} {al : List Nat} {m : Int} {n : Nat} {H : Hp} {Q : VK} {E : XK} (hA : Alp al) (m0 : 0 ≤ m) (m1 : m ≤ 1000) (h : Src a (n + 7 * m.toNat) H)
    (k : ∀ (p : Addr) (css : List (List Nat)) (H' : Hp), (css.length : Int) = m → (∀ cs ∈ css, cs.Sublist al) → Tp H' (.ref p) (dRow css) → Src a n H' → Kp a H H' → Q (.ref p) H') : sp_row [.ref a, .str (S al), .int m] H Q E :=
  ⟨a, al, m, n, rfl, hA, m0, m1, h, k⟩
section
variable {P : Program} {w : World} {K : PySem.W.Frag} {mg : Str → Option Value} {base : Heap}
theorem ok_row (B : Blt mg) (G__law_set : Cal P w K mg base 2 "_law_set" ["_law_source_here", "_law_alphabet_here"] sp_set) (F : At K mg "_law_row" s__law_row ["_law_source_here", "_law_alphabet_here", "_law_many"]) : Cal P w K mg base 3 "_law_row" ["_law_source_here", "_law_alphabet_here", "_law_many"] sp_row := by
  refine F.ok sc__law_row (fun vs H Q E h => ?_) (fun f cdv A outer s H vs Q E hr h => ?_)
  · obtain ⟨a, al, m, n, rfl, _⟩ := h
    rfl
  · obtain ⟨a, al, m, n, rfl, hA, m0, m1, hS, k⟩ := h
    refine ⟨_, (pss_one (ps_ret (pe_op (op_catTK (K := K) (by rfl)) (pe_tup (pa_cons pe_str pa_nil)) (pe_callTy (call_tuple_ofK (K := K) (by rfl)) (by rfl) B.tuple (by decide +kernel) (pa_cons (pe_lc (own := [("_law_k", 3)]) rfl sc__law_row.nd (pi_range1 (by rfl) B.range (pa_cons (pv 2) pa_nil)) (blkOk_by (N := ["_law_source_here", "_law_alphabet_here", "_law_many", "_law_k"]) (sc := defScope s__law_row) (by decide +kernel)) (fun _ _ _ _ _ => (pg_name (i := 3) sc__law_row.nd rfl (Or.inl rfl))) (fun _ _ _ _ _ => pts_nil) (fun _ _ _ _ _ => (pe_c G__law_set (hr.mono (by first | decide | omega)) (pa_cons (pv 0) (pa_cons (pv 1) pa_nil))))) pa_nil))))), ?_⟩
    walk_at "go"
    refine ⟨by show 1 ≤ sizeLine; decide, rd_newK hS fun p H1 pa hp eP hS1 k1 => ?_⟩
    walk_at "go"
    refine rd_rng1j (by omega) (by omega) ?_
    intro D hD
    have Da : D ≠ a := hS1.ne hD
    have Dp' : D ≠ p := fun z => by rw [z, eP] at hD; cases hD
    have hD0 : H D = none := k1.none Da hD
    refine lc_range (lo := 0) (n := m.toNat) (fun i H' => ∃ (vs : List V) (css : List (List Nat)), H' p = some (.tup [.str (Str.ofString "row")]) ∧ H' D = some (.lst vs) ∧ TpAll H' vs (css.map dSet) ∧ css.length = i ∧ (∀ cs ∈ css, cs.Sublist al) ∧ Src a (n + 7 * (m.toNat - i)) H' ∧ Kp a H H') ?_ ?_ ?_
    · exact ⟨[], [], by rw [upd_ne Dp'.symm]; exact eP, upd_same, .nil, rfl, by simp, (hS1.lay Da).mono (by omega), k1.lay hD0⟩
    · rintro i H' hi ⟨vs, css, eP', eD, hv, hl, hsub, hS', kp⟩
      walk_at "go"
      refine ⟨rfl, ?_⟩
      walk_at "go"
      have e7 : n + 7 * (m.toNat - i) = n + 7 * (m.toNat - (i + 1)) + 7 := by omega
      rw [e7] at hS'
      refine use_set hA hS' fun q cs H2 hs hq hS2 k2 => ?_
      have lv : vs.length = i := by rw [hv.length, List.length_map, hl]
      have eD2 := k2.at Da eD
      have t2 : TS H2 (upd H2 D (.lst (vs ++ [V.ref q]))) := TS.set eD2
      refine ⟨vs, eD2, by rw [lv, PySem.sizeLine_eq]; omega, vs ++ [.ref q], css ++ [cs], t2 _ _ (k2.at pa eP'), upd_same, ?_, by rw [List.length_append, hl]; rfl, ?_, hS2.lay Da, (kp.trans k2).lay hD0⟩
      · rw [List.map_append]
        exact ((hv.ts (TS.kp hS' k2)).app (.cons hq .nil)).ts t2
      · intro c hc
        rcases List.mem_append.mp hc with hc | hc
        · exact hsub c hc
        · rw [List.mem_singleton.mp hc]; exact hs
    · rintro H4 ⟨vs, css, eP', eD, hv, hl, hsub, hS4, kp⟩
      walk_at "go"
      have lv : vs.length = m.toNat := by rw [hv.length, List.length_map, hl]
      refine rd_tupl (SqL.of eD) (rd_newK hS4 fun q H5 qa hq eQ hS5 k5 => ?_)
      have pq := k5.at pa eP'
      have t5 := TS.kp hS4 k5
      refine rd_catT (SqT.of pq) (SqT.of eQ) (by simp) (by rw [lv, PySem.sizeLine_eq]; show 1 + _ ≤ _; omega) (fun e => ?_) (fun _ => rd_newK hS5 fun r H6 ra hr6 eR hS6 k6 => ?_)
      · walk_at "go"
        subst e
        have e0 : css = [] := by
          have := hv.length
          rw [List.length_map] at this
          exact List.length_eq_zero_iff.mp this.symm
        subst e0
        exact k p [] H5 (by simp at hl; omega) hsub (.tup pq (.cons (.str _) .nil)) (hS5.mono (by omega)) (kp.trans k5)
      · walk_at "go"
        exact k r css H6 (by omega) hsub (.tup eR (.cons (.str _) ((hv.ts t5).ts (TS.kp hS5 k6)))) (hS6.mono (by omega)) ((kp.trans k5).trans k6)
end

end Cs
namespace Cs
open PySem L2
open PyProof.Rows (envOfC)
/-! tuples by their parts -/
theorem Tp.tupI {H : Hp} {v : V} {ds : List PyData} (h : Tp H v (.tuple ds)) : ∃ p xs, v = .ref p ∧ H p = some (.tup xs) ∧ TpAll H xs ds := by
  cases h with
  | tup e h => exact ⟨_, _, rfl, e, h⟩
theorem TpAll.rep {H : Hp} {v : V} {d : PyData} (h : Tp H v d) : ∀ n : Nat, TpAll H (List.replicate n v) (List.replicate n d)
  | 0 => .nil
  | n + 1 => .cons h (TpAll.rep h n)
theorem flat_rep {α : Type} (v : α) : ∀ n : Nat, (List.replicate n [v]).flatten = List.replicate n v
  | 0 => rfl
  | n + 1 => by
    rw [List.replicate_succ, List.flatten_cons, flat_rep v n, List.replicate_succ]; rfl
theorem pick3 {y : V} (h : y ∈ ([V.str (kS "row"), .str (kS "any"), .str (kS "all")] : List V)) : ∃ u : Str, y = .str u ∧ (u = kS "row" ∨ u = kS "any" ∨ u = kS "all") := by
  simp only [List.mem_cons, List.not_mem_nil, or_false] at h
  rcases h with rfl | rfl | rfl
  · exact ⟨_, rfl, .inl rfl⟩
  · exact ⟨_, rfl, .inr (.inl rfl)⟩
  · exact ⟨_, rfl, .inr (.inr rfl)⟩
theorem if_tt {b : Bool} : (if b = true then true else true) = true := by cases b <;> rfl
theorem cut1 {x : V} {xs : List V} : cutV (x :: xs) (some 1) none = xs := by
  unfold cutV
  have e : HT.sIx (x :: xs).length 0 (some 1) = 1 := by
    show HT.sIx (x :: xs).length 0 (some ((1 : Nat) : Int)) = 1
    rw [HT.sIx_nat, List.length_cons]; omega
  rw [e, HT.sIx_none]
  show ((x :: xs).drop 1).take _ = xs
  rw [List.drop_one, List.tail_cons, List.take_of_length_le]
  rw [List.length_cons]; omega

end Cs
namespace Cs
open PySem L2
open PyProof.Rows (envOfC)
def sp_selection (K : PySem.W.Frag) : Sp := fun vs H Q _ => ∃ (al : List Nat) (v : V) (d : PyData), vs = [.str (S al), v] ∧ al.length ≤ 1000 ∧ Dp K H v d ∧ ∀ H', Same H H' → Q (.bl (mSel al d)) H'
theorem use_selection {K : PySem.W.Frag} {al : List Nat} {v : V} {d : PyData} {H : Hp} {Q : VK} {E : XK} (hA : al.length ≤ 1000) (h : Dp K H v d) (k : ∀ H', Same H H' → Q (.bl (mSel al d)) H') : sp_selection K [.str (S al), v] H Q E := ⟨al, v, d, rfl, hA, h, k⟩
/-- over a text, turn by turn -/
theorem lc_str {x : List Nat} {g : TG} {tt : TT} {te : TE} {vs : List Nat} {σ : St} {H1 : Hp} {D : Addr} {Qd : Hp → Prop} (Pv : Nat → Hp → Prop) (h0 : Pv 0 (upd H1 D (.lst [])))
    (hs : ∀ i c H, x[i]? = some c → Pv i H → g (.str (S [c])) (wipe σ vs) H fun σ2 H2 => wipe σ2 vs = wipe σ vs ∧ tt σ2 H2 fun b H3 =>
      if b = true then te σ2 H3 fun y H4 => ∃ acc, H4 D = some (.lst acc) ∧ acc.length < sizeLine ∧ Pv (i + 1) (upd H4 D (.lst (acc ++ [y]))) else Pv (i + 1) H3) (hd : ∀ H, Pv x.length H → Qd H) :
    ∃ W : Nat → Nat → Hp → Prop, (∃ m, W 0 m (upd H1 D (.lst []))) ∧ ∀ i m H, W i m H →
      ((Its (S x)).stop i H ∧ Qd H) ∨ ((Its (S x)).go i H ∧ ∃ Nx : Hp → Prop, (∀ H', Nx H' → ∃ m', m' < m ∧ W (i + 1) m' H') ∧ ∀ y H', (Its (S x)).yld i H y H' → g y (wipe σ vs) H' fun σ2 H2 => wipe σ2 vs = wipe σ vs ∧ tt σ2 H2 fun b H3 =>
        if b = true then te σ2 H3 fun y H4 => ∃ acc, H4 D = some (.lst acc) ∧ acc.length < sizeLine ∧ Nx (upd H4 D (.lst (acc ++ [y]))) else Nx H3) := by
  refine ⟨fun i m H => m = x.length - i ∧ i ≤ x.length ∧ Pv i H, ⟨x.length, by simp, Nat.zero_le _, h0⟩, ?_⟩
  rintro i m H ⟨rfl, hi, p⟩
  have sz : (S x).cps.size = x.length := by simp [S]
  by_cases hlt : i < x.length
  · refine .inr ⟨show i < (S x).cps.size by omega, Pv (i + 1), fun H' p' => ⟨x.length - (i + 1), by omega, rfl, hlt, p'⟩, fun y H' hy => ?_⟩
    obtain ⟨e, c, hc, y⟩ := hy
    subst e y
    exact hs i c _ (by rw [← Array.getElem?_toList] at hc; exact hc) p
  · have e : i = x.length := by omega
    subst e
    exact .inl ⟨show (S x).cps.size ≤ x.length by omega, hd H p⟩
theorem filter_snoc {α : Type} {p : α → Bool} {l : List α} {i : Nat} {c : α} (h : l[i]? = some c) : (l.take (i + 1)).filter p = (l.take i).filter p ++ (if p c = true then [c] else []) := by
  rw [List.take_add_one, h, List.filter_append]
  congr 1
  show List.filter p [c] = _
  rw [List.filter_cons, List.filter_nil]
section
variable {P : Program} {w : World} {K : PySem.W.Frag} {mg : Str → Option Value} {base : Heap}
theorem ok_selection (B : Blt mg) (F : At K mg "_is_selection" s__is_selection ["alphabet", "value"]) : Cal P w K mg base 1 "_is_selection" ["alphabet", "value"] (sp_selection K) := by
  refine F.ok sc__is_selection (fun vs H Q E h => ?_) (fun f cdv A outer s H vs Q E hr h => ?_)
  · obtain ⟨al, v, d, rfl, _⟩ := h
    rfl
  · obtain ⟨al, v, d, rfl, hA, hd, k⟩ := h
    refine ⟨_, (pss_one (ps_ret (pe_and (pe_callB (call_isiK' (K := K) (by rfl)) (by rfl) B.isinstance (by decide +kernel) (pa_cons (pv 1) (pa_cons (pe_ty (T := "str") B.str (by decide +kernel)) pa_nil))) (pe_one (pe_cmpR op_eq (pv 1) (pe_joinK (K := K) (by rfl) pe_str (pe_lc (own := [("character", 2)]) rfl sc__is_selection.nd (pi_str (pv 0)) (blkOk_by (N := ["alphabet", "value", "character"]) (sc := defScope s__is_selection) (by decide +kernel)) (fun _ _ _ _ _ => (pg_name (i := 2) sc__is_selection.nd rfl (Or.inl rfl))) (fun _ _ _ _ _ => (pts_one (pt_cmpR op_in_sign (pv 2) (pv 1) rfl))) (fun _ _ _ _ _ => (pv 2)))) (nomark _)))))), ?_⟩
    walk_at "go"
    refine rd_isStr hd ?_
    walk_at "go"
    cases hd with
    | str x =>
      refine iteT ?_
      walk_at "go"
      intro D hD
      refine lc_str (x := al) (fun i H' => H' D = some (.lst (((al.take i).filter fun c => decide (c ∈ x.cps.toList)).map fun c => V.str (S [c]))) ∧ Same H H') ⟨upd_same, Same.lay hD⟩ ?_ ?_
      · rintro i c H' hc ⟨eD, sm⟩
        walk_at "go"
        refine ⟨rfl, ?_⟩
        walk_at "go"
        refine ⟨c, x, rfl, rfl, ?_⟩
        walk_at "go"
        have hlen : ((al.take i).filter fun c => decide (c ∈ x.cps.toList)).length ≤ 1000 := Nat.le_trans (List.length_filter_le _ _) (by rw [List.length_take]; omega)
        refine ite2 (fun h1 => ?_) (fun h1 => ?_)
        · walk_at "go"
          refine ⟨_, eD, by rw [List.length_map, PySem.sizeLine_eq]; omega, ?_, Same.lay2 sm hD⟩
          rw [upd_same, filter_snoc hc, if_pos h1, List.map_append]; rfl
        · refine ⟨?_, sm⟩
          rw [filter_snoc hc, if_neg h1, List.append_nil]; exact eD
      · rintro H' ⟨eD, sm⟩
        rw [List.take_length] at eD
        have hlen : (al.filter fun c => decide (c ∈ x.cps.toList)).length ≤ 1000 := Nat.le_trans (List.length_filter_le _ _) hA
        refine ⟨_, D, (al.filter fun c => decide (c ∈ x.cps.toList)).map fun c => S [c], rfl, rfl, .inl (SqL.of (by rw [eD, List.map_map]; rfl)), ?_, ?_⟩
        · rw [sum_signs, List.length_map]
          show _ + _ * 0 ≤ _
          omega
        · walk_at "go"
          rw [empty_S, join_signs]
          have e : mSel al (.str x) = decide (V.str x = V.str (S (al.filter fun c => decide (c ∈ x.cps.toList)))) := by
            show decide (x = _) = _
            simp
          rw [← e]
          exact k _ sm
    | non => exact iteF (k _ (Same.refl _))
    | bl b => exact iteF (k _ (Same.refl _))
    | int b => exact iteF (k _ (Same.refl _))
    | lst _ _ => exact iteF (k _ (Same.refl _))
    | tup _ _ => exact iteF (k _ (Same.refl _))
end

end Cs
namespace Cs
open PySem L2
open PyProof.Rows (envOfC)
def sp_within (K : PySem.W.Frag) : Sp := fun vs H Q _ => ∃ (v : V) (d : PyData) (lo hi : Int), vs = [v, .int lo, .int hi] ∧ Dp K H v d ∧ Q (.bl (mWithin lo hi d)) H
theorem use_within {K : PySem.W.Frag} {v : V} {d : PyData} {lo hi : Int} {H : Hp} {Q : VK} {E : XK} (h : Dp K H v d) (k : Q (.bl (mWithin lo hi d)) H) : sp_within K [v, .int lo, .int hi] H Q E := ⟨v, d, lo, hi, rfl, h, k⟩
section
variable {P : Program} {w : World} {K : PySem.W.Frag} {mg : Str → Option Value} {base : Heap}
theorem ok_within (B : Blt mg) (F : At K mg "_is_integer_within" s__is_integer_within ["value", "least", "most"]) : Cal P w K mg base 1 "_is_integer_within" ["value", "least", "most"] (sp_within K) := by
  refine F.ok sc__is_integer_within (fun vs H Q E h => ?_) (fun f cdv A outer s H vs Q E hr h => ?_)
  · obtain ⟨v, d, lo, hi, rfl, _⟩ := h
    rfl
  · obtain ⟨v, d, lo, hi, rfl, hd, k⟩ := h
    refine ⟨_, (pss_one (ps_ret (pe_and (pe_callB (call_isiK' (K := K) (by rfl)) (by rfl) B.isinstance (by decide +kernel) (pa_cons (pv 0) (pa_cons (pe_ty (T := "int") B.int (by decide +kernel)) pa_nil))) (pe_and (pe_not (pe_callB (call_isiK' (K := K) (by rfl)) (by rfl) B.isinstance (by decide +kernel) (pa_cons (pv 0) (pa_cons (pe_ty (T := "bool") B.bool (by decide +kernel)) pa_nil)))) (pe_one (pe_chain op_le op_le (pv 1) (pv 0) (pv 2))))))), ?_⟩
    walk_at "go"
    refine rd_isInt hd ?_
    walk_at "go"
    cases hd with
    | int i =>
      refine iteT ?_
      walk_at "go"
      refine rd_isBool (.int i) ?_
      walk_at "go"
      refine iteT ?_
      walk_at "go"
      refine ite2 (fun h1 => ?_) (fun h1 => ?_)
      · walk_at "go"
        have e : mWithin lo hi (.int i) = decide (i ≤ hi) := by
          show (decide (lo ≤ i) && decide (i ≤ hi)) = decide (i ≤ hi)
          rw [h1]; rfl
        rw [e] at k; exact k
      · have h1' : decide (lo ≤ i) = false := by cases e : decide (lo ≤ i) <;> simp_all
        have e : mWithin lo hi (.int i) = false := by
          show (decide (lo ≤ i) && decide (i ≤ hi)) = false
          rw [h1']; rfl
        rw [e] at k; exact k
    | bl b =>
      refine iteT ?_
      walk_at "go"
      refine rd_isBool (.bl b) ?_
      walk_at "go"
      exact iteF k
    | non => exact iteF k
    | str x => exact iteF k
    | lst _ _ => exact iteF k
    | tup _ _ => exact iteF k
end

end Cs
namespace Cs
open PySem L2
open PyProof.Rows (envOfC)
structure PatK (mg : Str → Option Value) : Prop where
  c_MOST_TUPLES : ∃ u, mg "MOST_TUPLES" = some u ∧ RelV (.int 20) u
  c_MOST_WIDTH : ∃ u, mg "MOST_WIDTH" = some u ∧ RelV (.int 10) u
  c_MOST_REPEATS : ∃ u, mg "MOST_REPEATS" = some u ∧ RelV (.int 4) u

end Cs
namespace Cs
open PySem L2
open PyProof.Rows (envOfC)
def sp_range (K : PySem.W.Frag) : Sp := fun vs H Q _ => ∃ (v1 v2 : V) (d1 d2 : PyData), vs = [v1, v2] ∧ Dp K H v1 d1 ∧ Dp K H v2 d2 ∧ Q (.bl (mRange d1 d2)) H
theorem use_range {K : PySem.W.Frag} {v1 v2 : V} {d1 d2 : PyData} {H : Hp} {Q : VK} {E : XK} (h1 : Dp K H v1 d1) (h2 : Dp K H v2 d2) (k : Q (.bl (mRange d1 d2)) H) : sp_range K [v1, v2] H Q E := ⟨v1, v2, d1, d2, rfl, h1, h2, k⟩
section
variable {P : Program} {w : World} {K : PySem.W.Frag} {mg : Str → Option Value} {base : Heap}
theorem ok_range (B : Blt mg) (T : PatK mg) (G__is_integer_within : Cal P w K mg base 1 "_is_integer_within" ["value", "least", "most"] (sp_within K)) (F : At K mg "_is_range" s__is_range ["low", "high"]) : Cal P w K mg base 2 "_is_range" ["low", "high"] (sp_range K) := by
  refine F.ok sc__is_range (fun vs H Q E h => ?_) (fun f cdv A outer s H vs Q E hr h => ?_)
  · obtain ⟨v1, v2, d1, d2, rfl, _⟩ := h
    rfl
  · obtain ⟨v1, v2, d1, d2, rfl, h1, h2, k⟩ := h
    refine ⟨_, (pss_cons (ps_if (pt_not (pt_val (pe_c G__is_integer_within (hr.mono (by first | decide | omega)) (pa_cons (pv 0) (pa_cons pe_int (pa_cons (pe_k T.c_MOST_REPEATS) pa_nil))))))
    (pss_one (ps_ret pe_bl))
    pss_nil)
    (pss_one (ps_ret (pe_or (pe_cmpR op_isN (pv 1) pe_non (nomark _)) (pe_one (pe_c G__is_integer_within (hr.mono (by first | decide | omega)) (pa_cons (pv 1) (pa_cons (pv 0) (pa_cons (pe_k T.c_MOST_REPEATS) pa_nil))))))))), ?_⟩
    walk_at "go"
    refine use_within h1 ?_
    walk_at "go"
    cases h1 with
    | int l =>
      refine ite2 (fun h1 => ?_) (fun h1 => ?_)
      · walk_at "go"
        have h1' : mWithin 0 4 (.int l) = false := by cases e : mWithin 0 4 (.int l) <;> simp_all
        have e : mRange (.int l) d2 = false := by
          show (mWithin 0 4 (.int l) && _) = false
          rw [h1']; rfl
        rw [e] at k; exact k
      · walk_at "go"
        have h1' : mWithin 0 4 (.int l) = true := by cases e : mWithin 0 4 (.int l) <;> simp_all
        have e : mRange (.int l) d2 = mHigh l d2 := by
          show (mWithin 0 4 (.int l) && _) = _
          rw [h1']; rfl
        rw [e] at k
        refine ⟨rfl, ?_⟩
        walk_at "go"
        cases h2 with
        | non => exact iteT k
        | int i =>
          refine iteF ?_
          walk_at "go"
          exact use_within (.int i) k
        | bl i =>
          refine iteF ?_
          walk_at "go"
          exact use_within (.bl i) k
        | str i =>
          refine iteF ?_
          walk_at "go"
          exact use_within (.str i) k
        | lst a b =>
          refine iteF ?_
          walk_at "go"
          exact use_within (.lst a b) k
        | tup a b =>
          refine iteF ?_
          walk_at "go"
          exact use_within (.tup a b) k
    | non => refine iteT ?_; walk_at "go"; exact k
    | bl b => refine iteT ?_; walk_at "go"; exact k
    | str x => refine iteT ?_; walk_at "go"; exact k
    | lst _ _ => refine iteT ?_; walk_at "go"; exact k
    | tup _ _ => refine iteT ?_; walk_at "go"; exact k
end

end Cs
namespace Cs
open PySem L2
open PyProof.Rows (envOfC)
def sp_wf (K : PySem.W.Frag) : Sp := fun vs H Q _ => ∃ (al : List Nat) (v : V) (d : PyData), vs = [.str (S al), v] ∧ al.length ≤ 1000 ∧ Dp K H v d ∧ ∀ H', Same H H' → Q (.bl (mWF al d)) H'
theorem use_wf {K : PySem.W.Frag} {al : List Nat} {v : V} {d : PyData} {H : Hp} {Q : VK} {E : XK} (hA : al.length ≤ 1000) (h : Dp K H v d) (k : ∀ H', Same H H' → Q (.bl (mWF al d)) H') : sp_wf K [.str (S al), v] H Q E := ⟨al, v, d, rfl, hA, h, k⟩
theorem beq_dec {a b : Str} : (a == b) = decide (b = a) := by
  by_cases h : b = a
  · subst h; simp
  · rw [decide_eq_false h]; exact beq_eq_false_iff_ne.mpr (Ne.symm h)
theorem dec_S {a b : Str} : decide (V.str a = V.str b) = decide (a = b) := by simp
theorem dec_len {n m : Nat} : decide (V.int (n : Nat) = V.int (m : Nat)) = decide (n = m) := by
  by_cases h : n = m
  · subst h; simp
  · rw [decide_eq_false h]
    refine decide_eq_false fun e => h ?_
    injection e with e
    omega
theorem dpAll3 {K : PySem.W.Frag} {H : Hp} {vs : List V} {ps : List PyData} (h : DpAll K H vs ps) (l : vs.length = 3) : ∃ v1 v2 v3 d1 d2 d3, vs = [v1, v2, v3] ∧ ps = [d1, d2, d3] ∧ Dp K H v1 d1 ∧ Dp K H v2 d2 ∧ Dp K H v3 d3 := by
  cases h with
  | nil => simp at l
  | cons a1 h => cases h with
    | nil => simp at l
    | cons a2 h => cases h with
      | nil => simp at l
      | cons a3 h => cases h with
        | nil => exact ⟨_, _, _, _, _, _, rfl, rfl, a1, a2, a3⟩
        | cons a4 h => simp at l
theorem mOne_no {al : List Nat} {ps : List PyData} (h : ps.length ≠ 1) : mOne al ps = false := by
  match ps with
  | [] => rfl
  | [_] => exact absurd rfl h
  | _ :: _ :: _ => rfl
theorem mThree_no {ps : List PyData} (h : ps.length ≠ 3) : mThree ps = false := by
  match ps with
  | [] => rfl
  | [_] => rfl
  | [_, _] => rfl
  | [_, _, _] => exact absurd rfl h
  | _ :: _ :: _ :: _ :: _ => rfl
section
variable {P : Program} {w : World} {K : PySem.W.Frag} {mg : Str → Option Value} {base : Heap}
theorem ok_wf (B : Blt mg) (G__is_selection : Cal P w K mg base 1 "_is_selection" ["alphabet", "value"] (sp_selection K)) (G__is_range : Cal P w K mg base 2 "_is_range" ["low", "high"] (sp_range K)) (F : At K mg "_is_well_formed" s__is_well_formed ["alphabet", "value"]) : Cal P w K mg base 3 "_is_well_formed" ["alphabet", "value"] (sp_wf K) := by
  refine F.ok sc__is_well_formed (fun vs H Q E h => ?_) (fun f cdv A outer s H vs Q E hr h => ?_)
  · obtain ⟨al, v, d, rfl, _⟩ := h
    rfl
  · obtain ⟨al, v, d, rfl, hA, hd, k⟩ := h
    refine ⟨_, (pss_cons (ps_if (PW.pt (pw_or (pt_not (pt_val (pe_callB (call_isiK' (K := K) (by rfl)) (by rfl) B.isinstance (by decide +kernel) (pa_cons (pv 1) (pa_cons (pe_ty (T := "tuple") B.tuple (by decide +kernel)) pa_nil))))) (pw_or (pt_cmpR op_eq (pe_callB (call_len_seqK (K := K) (by rfl)) (by rfl) B.len PySem.boot_len (pa_cons (pv 1) pa_nil)) pe_int (nomark _)) (pw_or1 (pt_not (pt_val (pe_callB (call_isiK' (K := K) (by rfl)) (by rfl) B.isinstance (by decide +kernel) (pa_cons (pe_ix (ix_tupK (K := K) (by rfl)) (pv 1) pe_int (fun _ _ => rfl)) (pa_cons (pe_ty (T := "str") B.str (by decide +kernel)) pa_nil)))))))))
    (pss_one (ps_ret pe_bl))
    pss_nil)
    (pss_cons (ps_set (i := 2) sc__is_well_formed.nd rfl (Or.inl rfl) (pe_ix (ix_tupK (K := K) (by rfl)) (pv 1) pe_int (fun _ _ => rfl)))
    (pss_cons (ps_if (pt_cmpR op_eq (pv 2) pe_str (nomark _))
    (pss_one (ps_ret (pe_and (pe_cmpR op_eq (pe_callB (call_len_seqK (K := K) (by rfl)) (by rfl) B.len PySem.boot_len (pa_cons (pv 1) pa_nil)) pe_int (nomark _)) (pe_one (pe_c G__is_selection (hr.mono (by first | decide | omega)) (pa_cons (pv 0) (pa_cons (pe_ix (ix_tupK (K := K) (by rfl)) (pv 1) pe_int (fun _ _ => rfl)) pa_nil)))))))
    pss_nil)
    (pss_cons (ps_if (pt_cmpR op_eq (pv 2) pe_str (nomark _))
    (pss_one (ps_ret (pe_cmpR op_eq (pe_callB (call_len_seqK (K := K) (by rfl)) (by rfl) B.len PySem.boot_len (pa_cons (pv 1) pa_nil)) pe_int (nomark _))))
    pss_nil)
    (pss_cons (ps_if (pt_cmpR op_eq (pv 2) pe_str (nomark _))
    (pss_one (ps_ret (pe_and (pe_cmpR op_eq (pe_callB (call_len_seqK (K := K) (by rfl)) (by rfl) B.len PySem.boot_len (pa_cons (pv 1) pa_nil)) pe_int (nomark _)) (pe_one (pe_c G__is_range (hr.mono (by first | decide | omega)) (pa_cons (pe_ix (ix_tupK (K := K) (by rfl)) (pv 1) pe_int (fun _ _ => rfl)) (pa_cons (pe_ix (ix_tupK (K := K) (by rfl)) (pv 1) pe_int (fun _ _ => rfl)) pa_nil)))))))
    pss_nil)
    (pss_one (ps_ret (pe_cmpR (op_in_seqK (K := K) (by rfl)) (pv 2) (pe_tup (pa_cons pe_str (pa_cons pe_str (pa_cons pe_str pa_nil)))) (by first | rfl | decide))))))))), ?_⟩
    walk_at "go"
    refine rd_isTup hd ?_
    walk_at "go"
    cases hd with
    | @tup a xs ds ha hx =>
      refine iteF ?_
      walk_at "go"
      refine rd_len (.inr ha) ?_
      walk_at "go"
      cases hx with
      | nil =>
        refine iteT ?_
        walk_at "go"
        exact k _ (Same.refl _)
      | @cons v0 vs d0 ps h0 hx =>
        have e0 : decide (V.int ((v0 :: vs).length : Nat) = V.int 0) = false := (dec_len (m := 0)).trans rfl
        rw [e0]
        refine iteF ?_
        walk_at "go"
        refine rd_ixt ha (at_of (j := 0) rfl rfl) ?_
        walk_at "go"
        refine rd_isStr h0 ?_
        walk_at "go"
        cases h0 with
        | str w =>
          refine iteF ?_
          walk_at "go"
          refine rd_ixt ha (at_of (j := 0) rfl rfl) ?_
          walk_at "go"
          rw [dec_S]
          refine ite2 (fun h1 => ?_) (fun h1 => ?_)
          · have w1 := of_decide_eq_true h1
            subst w1
            walk_at "go"
            refine rd_len (.inr ha) ?_
            walk_at "go"
            refine ite2 (fun h2 => ?_) (fun h2 => ?_)
            · walk_at "go"
              have h2 : vs.length = 1 := by
                have := of_decide_eq_true ((dec_len (m := 2)).symm.trans h2)
                rw [List.length_cons] at this; omega
              cases hx with
              | nil => simp at h2
              | @cons v1 vs1 d1 ps1 h1' hx1 =>
                cases hx1 with
                | nil =>
                  refine rd_ixt ha (at_of (j := 1) rfl rfl) ?_
                  walk_at "go"
                  exact use_selection hA h1' k
                | cons _ _ => simp at h2
            · have h2 : ¬ vs.length = 1 := fun z => h2 ((dec_len (m := 2)).trans (decide_eq_true (by rw [List.length_cons]; omega)))
              have e : mWF al (.tuple (.str (kS "set") :: ps)) = false := by
                rw [mWF_eq, if_pos rfl]
                exact mOne_no (by rw [← DpAll.length hx]; exact h2)
              have kk := k H (Same.refl _)
              rw [e] at kk
              exact kk
          · have n1 : ¬ w = kS "set" := fun z => h1 (decide_eq_true z)
            walk_at "go"
            rw [dec_S]
            refine ite2 (fun h2 => ?_) (fun h2 => ?_)
            · have w1 := of_decide_eq_true h2
              subst w1
              walk_at "go"
              refine rd_len (.inr ha) ?_
              walk_at "go"
              have e : mWF al (.tuple (.str (kS "not") :: ps)) = decide (V.int ((V.str (kS "not") :: vs).length : Nat) = V.int 2) := by
                rw [mWF_eq, if_neg n1, if_pos rfl]
                refine Eq.trans ?_ (dec_len (m := 2)).symm
                rw [List.length_cons, (DpAll.length hx)]
                simp
              rw [← e]
              exact k _ (Same.refl _)
            · have n2 : ¬ w = kS "not" := fun z => h2 (decide_eq_true z)
              walk_at "go"
              rw [dec_S]
              refine ite2 (fun h3 => ?_) (fun h3 => ?_)
              · have w1 := of_decide_eq_true h3
                subst w1
                walk_at "go"
                refine rd_len (.inr ha) ?_
                walk_at "go"
                refine ite2 (fun h2 => ?_) (fun h2 => ?_)
                · walk_at "go"
                  have h2 : vs.length = 3 := by
                    have := of_decide_eq_true ((dec_len (m := 4)).symm.trans h2)
                    rw [List.length_cons] at this; omega
                  obtain ⟨v1, v2, v3, d1, d2, d3, rfl, rfl, a1, a2, a3⟩ := dpAll3 hx h2
                  refine rd_ixt ha (at_of (j := 2) rfl rfl) ?_
                  walk_at "go"
                  refine rd_ixt ha (at_of (j := 3) rfl rfl) ?_
                  walk_at "go"
                  exact use_range a2 a3 (k _ (Same.refl _))
                · have h2 : ¬ vs.length = 3 := fun z => h2 ((dec_len (m := 4)).trans (decide_eq_true (by rw [List.length_cons]; omega)))
                  have e : mWF al (.tuple (.str (kS "again") :: ps)) = false := by
                    rw [mWF_eq, if_neg n1, if_neg n2, if_pos rfl]
                    exact mThree_no (by rw [← DpAll.length hx]; exact h2)
                  have kk := k H (Same.refl _)
                  rw [e] at kk
                  exact kk
              · have n3 : ¬ w = kS "again" := fun z => h3 (decide_eq_true z)
                walk_at "go"
                refine ⟨by show 3 ≤ sizeLine; decide, rd_new fun p H' hp eP sm => ?_⟩
                walk_at "go"
                refine rd_in (.inr (SqT.of eP)) rfl rfl ?_
                have e : mWF al (.tuple (.str w :: ps)) = inV (.str w) [.str (kS "row"), .str (kS "any"), .str (kS "all")] := by
                  rw [mWF_eq, if_neg n1, if_neg n2, if_neg n3]
                  show _ = ((kS "row" == w) || ((kS "any" == w) || ((kS "all" == w) || false)))
                  rw [Bool.or_false, Bool.or_assoc, beq_dec, beq_dec, beq_dec]
                have kk := k _ sm
                rw [e] at kk
                exact kk
        | non => refine iteT ?_; walk_at "go"; exact k _ (Same.refl _)
        | bl b => refine iteT ?_; walk_at "go"; exact k _ (Same.refl _)
        | int b => refine iteT ?_; walk_at "go"; exact k _ (Same.refl _)
        | lst _ _ => refine iteT ?_; walk_at "go"; exact k _ (Same.refl _)
        | tup _ _ => refine iteT ?_; walk_at "go"; exact k _ (Same.refl _)
    | non => refine iteT ?_; walk_at "go"; exact k _ (Same.refl _)
    | bl b => refine iteT ?_; walk_at "go"; exact k _ (Same.refl _)
    | int b => refine iteT ?_; walk_at "go"; exact k _ (Same.refl _)
    | str b => refine iteT ?_; walk_at "go"; exact k _ (Same.refl _)
    | lst _ _ => refine iteT ?_; walk_at "go"; exact k _ (Same.refl _)
end

end Cs
namespace Cs
open PySem L2
open PyProof.Rows (envOfC)
/-! the parts: w is known to be a text, an again has a part -/
def sp_parts (K : PySem.W.Frag) : Sp := fun vs H Q _ => ∃ (Hd : Hp) (v : V) (w : Str) (ps : List PyData), vs = [v] ∧ Same Hd H ∧ Dp K Hd v (.tuple (.str w :: ps)) ∧ (w = kS "again" → 1 ≤ ps.length) ∧ ∀ (p : Addr) (xs : List V) (H' : Hp), Same H H' → SqT K H' p xs → DpAll K Hd xs (mParts (.tuple (.str w :: ps))) → Q (.ref p) H'
theorem use_parts {K : PySem.W.Frag} {Hd : Hp} {v : V} {w : Str} {ps : List PyData} {H : Hp} {Q : VK} {E : XK} (s : Same Hd H) (h : Dp K Hd v (.tuple (.str w :: ps))) (ha : w = kS "again" → 1 ≤ ps.length) (k : ∀ (p : Addr) (xs : List V) (H' : Hp), Same H H' → SqT K H' p xs → DpAll K Hd xs (mParts (.tuple (.str w :: ps))) → Q (.ref p) H') : sp_parts K [v] H Q E := ⟨Hd, v, w, ps, rfl, s, h, ha, k⟩
section
variable {P : Program} {w : World} {K : PySem.W.Frag} {mg : Str → Option Value} {base : Heap}
theorem ok_parts (F : At K mg "_parts" s__parts ["expression"]) : Cal P w K mg base 1 "_parts" ["expression"] (sp_parts K) := by
  refine F.ok sc__parts (fun vs H Q E h => ?_) (fun f cdv A outer s H vs Q E hr h => ?_)
  · obtain ⟨_, v, w, ps, rfl, _⟩ := h
    rfl
  · obtain ⟨Hd, v, w, ps, rfl, hs0, hd, ha, k⟩ := h
    refine ⟨_, (pss_cons (ps_if (pt_cmpR op_eq (pe_ix (ix_tupK (K := K) (by rfl)) (pv 0) pe_int (fun _ _ => rfl)) pe_str (nomark _))
    (pss_one (ps_ret (pe_tup pa_nil)))
    pss_nil)
    (pss_cons (ps_if (pt_cmpR op_eq (pe_ix (ix_tupK (K := K) (by rfl)) (pv 0) pe_int (fun _ _ => rfl)) pe_str (nomark _))
    (pss_one (ps_ret (pe_tup (pa_cons (pe_ix (ix_tupK (K := K) (by rfl)) (pv 0) pe_int (fun _ _ => rfl)) pa_nil))))
    pss_nil)
    (pss_one (ps_ret (pe_slice (sl_tupAK (K := K) (by rfl)) (pv 0) (po_some pe_int) po_none))))), ?_⟩
    walk_at "go"
    cases hd with
    | @tup a xs ds hs hx =>
      have hs := Same.seqT hs0 hs
      cases hx with
      | @cons v0 vs _ _ h0 hx =>
        cases h0
        refine rd_ixt hs (at_of (j := 0) rfl rfl) ?_
        walk_at "go"
        rw [dec_S]
        refine ite2 (fun h1 => ?_) (fun h1 => ?_)
        · have w1 := of_decide_eq_true h1
          subst w1
          walk_at "go"
          refine ⟨by show 0 ≤ sizeLine; decide, rd_new fun p H' hp eP sm => ?_⟩
          exact k p [] H' sm (SqT.of eP) (by rw [mParts_eq, if_pos rfl]; exact .nil)
        · have n1 : ¬ w = kS "set" := fun z => h1 (decide_eq_true z)
          walk_at "go"
          refine rd_ixt hs (at_of (j := 0) rfl rfl) ?_
          walk_at "go"
          rw [dec_S]
          refine ite2 (fun h2 => ?_) (fun h2 => ?_)
          · have w1 := of_decide_eq_true h2
            subst w1
            walk_at "go"
            cases hx with
            | nil => exact absurd (ha rfl) (by simp)
            | @cons v1 vs1 d1 ps1 a1 hx1 =>
              refine rd_ixt hs (at_of (j := 1) rfl rfl) ?_
              walk_at "go"
              refine ⟨by show 1 ≤ sizeLine; decide, rd_new fun p H' hp eP sm => ?_⟩
              exact k p [v1] H' sm (SqT.of eP) (by rw [mParts_eq, if_neg n1, if_pos rfl]; exact .cons a1 .nil)
          · have n2 : ¬ w = kS "again" := fun z => h2 (decide_eq_true z)
            walk_at "go"
            refine rd_sla hs (fun z => ?_) (fun _ => ?_)
            · exfalso
              have z1 := z.1
              have e : HT.sIx (V.str w :: vs).length 0 (some 1) = 1 := by
                show HT.sIx (V.str w :: vs).length 0 (some ((1 : Nat) : Int)) = 1
                rw [HT.sIx_nat, List.length_cons]; omega
              omega
            · rw [cut1]
              refine rd_new fun p H' hp eP sm => ?_
              exact k p vs H' sm (SqT.of eP) (by rw [mParts_eq, if_neg n1, if_neg n2]; exact hx)
end

end Cs
namespace Cs
open PySem L2
open PyProof.Rows (envOfC)
def sp_width (K : PySem.W.Frag) (al : List Nat) (n : Nat) : Sp := fun vs H Q _ => ∃ (v : V) (d : PyData), vs = [v] ∧ Dp K H v d ∧ mF al d = true ∧ mD d ≤ n ∧ mT d ≤ 1000 ∧ ∀ H', Same H H' → Q (.int (mW d)) H'
theorem use_width {K : PySem.W.Frag} {al : List Nat} {n : Nat} {v : V} {d : PyData} {H : Hp} {Q : VK} {E : XK} (h : Dp K H v d) (hF : mF al d = true) (hD : mD d ≤ n) (hT : mT d ≤ 1000) (k : ∀ H', Same H H' → Q (.int (mW d)) H') : sp_width K al n [v] H Q E := ⟨v, d, rfl, h, hF, hD, hT, k⟩
theorem mF_form {al : List Nat} {d : PyData} (h : mF al d = true) : ∃ w ps, d = .tuple (.str w :: ps) ∧ mWF al (.tuple (.str w :: ps)) = true ∧ ∀ p ∈ rel w ps, mF al p = true := by
  by_cases hx : ∃ w ps, d = .tuple (.str w :: ps)
  · obtain ⟨w, ps, rfl⟩ := hx
    rw [mF_eq, Bool.and_eq_true, List.all_map, List.all_eq_true] at h
    exact ⟨w, ps, rfl, h.1, h.2⟩
  · have e : mF al d = false := foldD_no _ _ d fun w ps e => hx ⟨w, ps, e⟩
    rw [e] at h; cases h
theorem mThree_form {ps : List PyData} (h : mThree ps = true) : ∃ p l hi, ps = [p, .int l, hi] ∧ 0 ≤ l ∧ l ≤ 4 ∧ (hi = .none ∨ ∃ m, hi = .int m ∧ l ≤ m ∧ m ≤ 4) := by
  unfold mThree at h
  split at h
  · rename_i p lo hi
    unfold mRange at h
    split at h
    · rename_i l
      rw [Bool.and_eq_true] at h
      obtain ⟨h1, h2⟩ := h
      unfold mWithin at h1
      simp only [Bool.and_eq_true, decide_eq_true_eq] at h1
      refine ⟨p, l, hi, rfl, h1.1, h1.2, ?_⟩
      unfold mHigh at h2
      split at h2
      · exact .inl rfl
      · unfold mWithin at h2
        split at h2
        · simp only [Bool.and_eq_true, decide_eq_true_eq] at h2
          exact .inr ⟨_, rfl, h2.1, h2.2⟩
        · cases h2
    · cases h
  · cases h
theorem mT_part {w : Str} {ps : List PyData} {p : PyData} (h : p ∈ rel w ps) : mT p < mT (.tuple (.str w :: ps)) := by
  rw [mT_eq]
  have := mem_sum_le (List.mem_map_of_mem (f := mT) h)
  omega
theorem len_le_sum {l : List Nat} (h : ∀ x ∈ l, 1 ≤ x) : l.length ≤ l.sum := by
  induction l with
  | nil => simp
  | cons a l ih =>
    rw [List.length_cons, List.sum_cons]
    have := ih fun x hx => h x (by simp [hx])
    have := h a (by simp)
    omega
theorem rel_len {w : Str} {ps : List PyData} : (rel w ps).length < mT (.tuple (.str w :: ps)) := by
  rw [mT_eq]
  have := len_le_sum (l := (rel w ps).map mT) fun x hx => by
    obtain ⟨p, _, rfl⟩ := List.mem_map.mp hx
    exact mT_pos p
  rw [List.length_map] at this
  omega
theorem map_snoc {α β : Type} (f : α → β) {l : List α} {i : Nat} {x : α} (h : l[i]? = some x) : (l.take (i + 1)).map f = (l.take i).map f ++ [f x] := by
  rw [List.take_add_one, h, List.map_append]; rfl
section
variable {P : Program} {w : World} {K : PySem.W.Frag} {mg : Str → Option Value} {base : Heap}
theorem ok_width (B : Blt mg) (G__parts : Cal P w K mg base 1 "_parts" ["expression"] (sp_parts K)) (F : At K mg "_width" s__width ["expression"]) (al : List Nat) : ∀ n : Nat, Cal P w K mg base (n + 2) "_width" ["expression"] (sp_width K al n) := by
  intro n
  induction n with
  | zero =>
    refine F.ok (k := 1) sc__width (fun vs H Q E h => ?_) (fun f cdv A outer s H vs Q E hr h => ?_)
    · obtain ⟨v, d, rfl, _⟩ := h
      rfl
    · obtain ⟨v, d, rfl, _, hF, hD, _⟩ := h
      obtain ⟨w', ps, rfl, _⟩ := mF_form hF
      rw [mD_eq] at hD
      omega
  | succ n G__width =>
    refine F.ok (k := n + 2) sc__width (fun vs H Q E h => ?_) (fun f cdv A outer s H vs Q E hr h => ?_)
    · obtain ⟨v, d, rfl, _⟩ := h
      rfl
    · obtain ⟨v, d, rfl, hd, hF, hD, hT, k⟩ := h
      obtain ⟨w', ps, rfl, hW, hP⟩ := mF_form hF
      obtain ⟨_, _, e0, hw, _, _, h3⟩ := mWF_form hW
      injection e0 with e0
      injection e0 with e1 e2
      injection e1 with e1
      subst e1 e2
      refine ⟨_, (pss_cons (ps_set (i := 1) sc__width.nd rfl (Or.inl rfl) (pe_callB (call_max2 rfl) (by rfl) B.max (by decide +kernel) (pa_cons pe_int (pa_cons (pe_callB (cr_sumK (K := K) (by rfl) rfl) (by rfl) B.sum (by decide +kernel) (pa_cons (pe_lc (own := [("part", 4)]) rfl sc__width.nd (pi_tupK (K := K) (by rfl) (pe_c G__parts (hr.mono (by first | decide | omega)) (pa_cons (pv 0) pa_nil))) (blkOk_by (N := ["expression", "width", "low", "high", "part"]) (sc := defScope s__width) (by decide +kernel)) (fun _ _ _ _ _ => (pg_name (i := 4) sc__width.nd rfl (Or.inl rfl))) (fun _ _ _ _ _ => pts_nil) (fun _ _ _ _ _ => (pe_c G__width (hr.mono (by first | decide | omega)) (pa_cons (pv 4) pa_nil)))) pa_nil)) pa_nil))))
    (pss_cons (ps_if (pt_cmpR op_ne (pe_ix (ix_tupK (K := K) (by rfl)) (pv 0) pe_int (fun _ _ => rfl)) pe_str (nomark _))
    (pss_one (ps_ret (pv 1)))
    pss_nil)
    (pss_cons (ps_par (i := 2) (j := 3) (by rfl) sc__width.nd rfl rfl (by decide) rfl rfl (pa_cons (pe_ix (ix_tupK (K := K) (by rfl)) (pv 0) pe_int (fun _ _ => rfl)) (pa_cons (pe_ix (ix_tupK (K := K) (by rfl)) (pv 0) pe_int (fun _ _ => rfl)) pa_nil)) (by rfl))
    (pss_one (ps_ret (pe_op op_mul (pv 1) (pe_ifExp (pt_cmpR op_isN (pv 3) pe_non (nomark _)) (pe_op op_add (pv 2) pe_int) (pe_callB (call_max2 rfl) (by rfl) B.max (by decide +kernel) (pa_cons pe_int (pa_cons (pv 3) pa_nil)))))))))), ?_⟩
      walk_at "go"
      refine use_parts (Same.refl _) hd (fun z => ?_) fun p xs H1 sm1 hp hx => ?_
      · obtain ⟨_, _, _, rfl, _⟩ := mThree_form (h3 z)
        simp
      rw [mParts_rel] at hx
      replace hx := DpAll.mono sm1 hx
      refine ⟨p, rfl, ⟨_, hp⟩, ?_⟩
      intro D hD'
      have lx : xs.length = (rel w' ps).length := DpAll.length hx
      have lr := @rel_len w' ps
      refine lc_tup (xs := xs) (fun i H' => H' D = some (.lst ((((rel w' ps).take i).map mW).map V.int)) ∧ Same H1 H') ⟨upd_same, Same.lay hD'⟩ (fun i H' _ h => Same.seqT h.2 hp) ?_ ?_
      · rintro i y H' hi ⟨eD, sm⟩
        obtain ⟨dp, hdp, hy⟩ := DpAll.get hx hi
        have hm := List.mem_of_getElem? hdp
        walk_at "go"
        refine ⟨rfl, ?_⟩
        walk_at "go"
        refine use_width (Dp.mono sm hy) (hP dp hm) (by have := mD_part hm; omega) (by have := mT_part hm; omega) fun H2 sm2 => ?_
        refine ⟨_, sm2 _ _ eD, by rw [List.length_map, List.length_map, List.length_take, PySem.sizeLine_eq]; omega, ?_, Same.lay2 (L2.Same.trans sm sm2) hD'⟩
        rw [upd_same, map_snoc mW hdp, List.map_append]; rfl
      · rintro H3 ⟨eD, sm⟩
        rw [lx, List.take_length] at eD
        walk_at "go"
        refine rd_sum (SqL.of eD) ?_
        walk_at "go"
        refine ⟨1, _, rfl, ?_⟩
        walk_at "go"
        have smA : Same H H3 := L2.Same.trans sm1 sm
        have hd3 := Dp.mono smA hd
        cases hd3 with
        | @tup a ys ds hs hy =>
          cases hy with
          | @cons v0 vs _ _ h0 hy =>
            cases h0
            refine rd_ixt hs (at_of (j := 0) rfl rfl) ?_
            walk_at "go"
            rw [dec_S]
            refine ite2 (fun h1 => ?_) (fun h1 => ?_)
            · have n1 : ¬ w' = kS "again" := by simpa using h1
              walk_at "go"
              have kk := k H3 smA
              rw [mW_eq, if_neg n1] at kk
              exact kk
            · have w1 : w' = kS "again" := by simpa using h1
              obtain ⟨pp, l, hi, rfl, l0, l4, hh⟩ := mThree_form (h3 w1)
              obtain ⟨v1, v2, v3, d1, d2, d3, rfl, e3, a1, a2, a3⟩ := dpAll3 hy (DpAll.length hy)
              injection e3 with e3 e4
              injection e4 with e4 e5
              injection e5 with e5 _
              subst e3 e4 e5
              cases a2
              walk_at "go"
              refine rd_ixt hs (at_of (j := 2) rfl rfl) ?_
              walk_at "go"
              refine rd_ixt hs (at_of (j := 3) rfl rfl) ?_
              walk_at "go"
              have kk := k H3 smA
              rw [mW_eq, if_pos w1] at kk
              rcases hh with rfl | ⟨m, rfl, m0, m4⟩
              · cases a3
                refine ⟨rfl, ?_⟩
                walk_at "go"
                refine iteT ?_
                walk_at "go"
                refine rd_i (.inr ⟨by omega, by omega⟩) ?_
                exact kk
              · cases a3
                refine ⟨rfl, ?_⟩
                walk_at "go"
                refine iteF ?_
                walk_at "go"
                refine ⟨1, m, rfl, ?_⟩
                refine rd_i (.inr (by split <;> omega)) ?_
                exact kk
end

end Cs
namespace Cs
open PySem L2
open PyProof.Rows (envOfC)
/-! the loop over a stack of parts -/
def mN : PyData → Nat := foldD (fun _ ps vs => max ps.length (vs.foldr max 0)) 0
theorem mN_eq (w : Str) (ps : List PyData) : mN (.tuple (.str w :: ps)) = max ps.length (((rel w ps).map mN).foldr max 0) := foldD_eq _ _ w ps
theorem rel_le {w : Str} {ps : List PyData} : (rel w ps).length ≤ ps.length := by
  unfold rel
  split
  · exact Nat.zero_le _
  · split
    · rw [List.length_take]; omega
    · exact Nat.le_refl _
theorem mN_part {w : Str} {ps : List PyData} {p : PyData} (h : p ∈ rel w ps) : mN p ≤ mN (.tuple (.str w :: ps)) := by
  rw [mN_eq]
  have := le_foldr_max (List.mem_map_of_mem (f := mN) h)
  omega
theorem mN_len {w : Str} {ps : List PyData} : (rel w ps).length ≤ mN (.tuple (.str w :: ps)) := by
  rw [mN_eq]
  have := @rel_le w ps
  omega
def sp_small (K : PySem.W.Frag) : Sp := fun vs H Q _ => ∃ (al : List Nat) (v : V) (d : PyData), vs = [.str (S al), v] ∧ al.length ≤ 1000 ∧ Dp K H v d ∧ mN d ≤ 100000 ∧ ∀ H', Same H H' → Q (.bl (loopS al 20 [(d, false)])) H'
theorem use_small {K : PySem.W.Frag} {al : List Nat} {v : V} {d : PyData} {H : Hp} {Q : VK} {E : XK} (hA : al.length ≤ 1000) (h : Dp K H v d) (hN : mN d ≤ 100000) (k : ∀ H', Same H H' → Q (.bl (loopS al 20 [(d, false)])) H') : sp_small K [.str (S al), v] H Q E := ⟨al, v, d, rfl, hA, h, hN, k⟩
/-- the stack as it lies: pairs of data and a bool -/
inductive Stk (K : PySem.W.Frag) (Hd H : Hp) : List V → List (PyData × Bool) → Prop
  | nil : Stk K Hd H [] []
  | cons {q : Addr} {x : V} {d : PyData} {b : Bool} {vs : List V} {us : List (PyData × Bool)} : H q = some (.tup [x, .bl b]) → Dp K Hd x d → Stk K Hd H vs us → Stk K Hd H (.ref q :: vs) ((d, b) :: us)
theorem Stk.mono {K : PySem.W.Frag} {Hd Hd' H H' : Hp} (s : Same Hd Hd') (k : TS H H') : ∀ {vs us}, Stk K Hd H vs us → Stk K Hd' H' vs us
  | _, _, .nil => .nil
  | _, _, .cons h d t => .cons (k _ _ h) (Dp.mono s d) (Stk.mono s k t)
theorem Stk.app {K : PySem.W.Frag} {Hd H : Hp} : ∀ {vs us vs' us'}, Stk K Hd H vs us → Stk K Hd H vs' us' → Stk K Hd H (vs ++ vs') (us ++ us')
  | _, _, _, _, .nil, t => t
  | _, _, _, _, .cons h d t, t' => .cons h d (Stk.app t t')
theorem Stk.length {K : PySem.W.Frag} {Hd H : Hp} : ∀ {vs us}, Stk K Hd H vs us → vs.length = us.length
  | _, _, .nil => rfl
  | _, _, .cons _ _ t => by rw [List.length_cons, List.length_cons, Stk.length t]
theorem Stk.last {K : PySem.W.Frag} {Hd H : Hp} {vs us} (h : Stk K Hd H vs us) : (vs = [] ∧ us = []) ∨ ∃ vs' us' q x d b, vs = vs' ++ [.ref q] ∧ us = us' ++ [(d, b)] ∧ H q = some (.tup [x, .bl b]) ∧ Dp K Hd x d ∧ Stk K Hd H vs' us' := by
  induction h with
  | nil => exact .inl ⟨rfl, rfl⟩
  | @cons q x d b vs us h1 h2 t ih =>
    rcases ih with ⟨rfl, rfl⟩ | ⟨vs', us', q', x', d', b', rfl, rfl, a1, a2, a3⟩
    · exact .inr ⟨[], [], q, x, d, b, rfl, rfl, h1, h2, .nil⟩
    · exact .inr ⟨.ref q :: vs', (d, b) :: us', q', x', d', b', rfl, rfl, a1, a2, .cons h1 h2 a3⟩
theorem TS.ofKp {L : Addr} {H H' : Hp} {ys : List V} (e : H L = some (.lst ys)) (k : Kp L H H') : TS H H' := fun b xs q => k.at (fun z => by rw [z, e] at q; cases q) q
section
variable {K : PySem.W.Frag} {σ : St} {H : Hp} {Q : VK} {b : Bool} {a : Addr} {w : Str} {xs : List V}
theorem in2 {s1 s2 : Str} : inV (.str w) [.str s1, .str s2] = (decide (w = s1) || decide (w = s2)) := by
  show ((s1 == w) || ((s2 == w) || false)) = _
  rw [Bool.or_false, beq_dec, beq_dec]
theorem rd_rowOr {i j : Nat} (h5 : σ[i]? = some (some (.bl b))) (h4 : σ[j]? = some (some (.ref a))) (hs : SqT K H a (.str w :: xs)) (k : ∀ H2, Same H H2 → Q (.bl (b || isRow w)) H2) :
    tOrV (tVar i) (tOp (rIn K false) (tOp (rIxT K) (tVar j) (tC (.int 0))) (tTup (tCons (tC (.str (kS "row"))) (tCons (tC (.str (kS "again"))) tNil)))) σ H Q := by
  refine ⟨_, h5, b, rfl, ?_⟩
  cases b with
  | true => exact iteT (k H (Same.refl _))
  | false =>
    refine iteF ?_
    refine rd_op (rd_op ⟨_, h4, ?_⟩)
    walk_at "go"
    refine rd_ixt hs (at_of (j := 0) rfl rfl) ?_
    walk_at "go"
    refine ⟨by show 2 ≤ sizeLine; decide, rd_new fun p H' hp eP sm => ?_⟩
    refine rd_in (.inr (SqT.of eP)) rfl rfl ?_
    rw [if_neg Bool.false_ne_true, in2]
    exact k H' sm
theorem rd_barAnd {i j : Nat} {R : Bool → Hp → Prop} (h5 : σ[i]? = some (some (.bl b))) (h4 : σ[j]? = some (some (.ref a))) (hs : SqT K H a (.str w :: xs)) (k : ∀ H2, Same H H2 → R (b && isBar w) H2) :
    tAnd (tTruth K (tVar i)) (tTest (tOp (rIn K false) (tOp (rIxT K) (tVar j) (tC (.int 0))) (tTup (tCons (tC (.str (kS "all"))) (tCons (tC (.str (kS "not"))) tNil))))) σ H R := by
  refine ⟨_, h5, b, rfl, ?_⟩
  cases b with
  | false => exact iteF (k H (Same.refl _))
  | true =>
    refine iteT ?_
    refine rd_test (rd_op (rd_op ⟨_, h4, ?_⟩))
    walk_at "go"
    refine rd_ixt hs (at_of (j := 0) rfl rfl) ?_
    walk_at "go"
    refine ⟨by show 2 ≤ sizeLine; decide, rd_new fun p H' hp eP sm => ?_⟩
    refine rd_in (.inr (SqT.of eP)) rfl rfl ?_
    rw [if_neg Bool.false_ne_true, in2]
    exact ⟨_, rfl, k H' sm⟩
end
theorem Same.ofKp {L : Addr} {H0 H : Hp} (n : H0 L = none) (k : Kp L H0 H) : Same H0 H := fun b o e => k.at (ne_of_none e n) e
section
variable {P : Program} {w : World} {K : PySem.W.Frag} {mg : Str → Option Value} {base : Heap}
theorem ok_small (B : Blt mg) (T : PatK mg) (G__is_well_formed : Cal P w K mg base 3 "_is_well_formed" ["alphabet", "value"] (sp_wf K)) (G__parts : Cal P w K mg base 1 "_parts" ["expression"] (sp_parts K))
    (F : At K mg "_is_small_expression" s__is_small_expression ["alphabet", "value"]) : Cal P w K mg base 4 "_is_small_expression" ["alphabet", "value"] (sp_small K) := by
  refine F.ok sc__is_small_expression (fun vs H Q E h => ?_) (fun f cdv A outer s H vs Q E hr h => ?_)
  · obtain ⟨al, v, d, rfl, _⟩ := h
    rfl
  · obtain ⟨al, v, d, rfl, hA, hd, hN, k⟩ := h
    obtain ⟨R, hR⟩ : ∃ R, R = loopS al 20 [(d, false)] := ⟨_, rfl⟩
    rw [← hR] at k
    refine ⟨_, (pss_cons (ps_set (i := 2) sc__is_small_expression.nd rfl (Or.inl rfl) (pe_lst (pa_cons (pe_tup (pa_cons (pv 1) (pa_cons pe_bl pa_nil))) pa_nil)))
    (pss_cons (ps_set (i := 3) sc__is_small_expression.nd rfl (Or.inl rfl) pe_int)
    (pss_cons (ps_while PassesOwn.never (pt_truthK (K := K) (by rfl) (pv 2))
    (pss_cons (ps_asg (pe_bm0K (K := K) (by rfl) PySem.F.plainAttrs_list PySem.F.slot_list_pop PySem.F.type_list_pop mt_pop (pv 2)) (pg_tupK (K := K) (by rfl) (by rfl) (pgs_cons (pg_name (i := 4) sc__is_small_expression.nd rfl (Or.inl rfl)) (pgs_cons (pg_name (i := 5) sc__is_small_expression.nd rfl (Or.inl rfl)) pgs_nil))))
    (pss_cons (ps_aug (i := 3) sc__is_small_expression.nd rfl (Or.inl rfl) pe_int ip_add)
    (pss_cons (ps_if (PW.pt (pw_or (pt_cmpR op_gt (pv 3) (pe_k T.c_MOST_TUPLES) (nomark _)) (pw_or1 (pt_not (pt_val (pe_c G__is_well_formed (hr.mono (by first | decide | omega)) (pa_cons (pv 0) (pa_cons (pv 4) pa_nil))))))))
    (pss_one (ps_ret pe_bl))
    pss_nil)
    (pss_cons (ps_if (PW.pt (pw_and (pt_truthK (K := K) (by rfl) (pv 5)) (pw_and1 (pt_cmpR (op_in_seqK (K := K) (by rfl)) (pe_ix (ix_tupK (K := K) (by rfl)) (pv 4) pe_int (fun _ _ => rfl)) (pe_tup (pa_cons pe_str (pa_cons pe_str pa_nil))) (by first | rfl | decide)))))
    (pss_one (ps_ret pe_bl))
    pss_nil)
    (pss_cons (ps_set (i := 6) sc__is_small_expression.nd rfl (Or.inr rfl) (pe_or (pv 5) (pe_one (pe_cmpR (op_in_seqK (K := K) (by rfl)) (pe_ix (ix_tupK (K := K) (by rfl)) (pv 4) pe_int (fun _ _ => rfl)) (pe_tup (pa_cons pe_str (pa_cons pe_str pa_nil))) (by first | rfl | decide)))))
    (pss_one (ps_expr (pe_bmK (K := K) (by rfl) PySem.F.plainAttrs_list PySem.F.slot_list_extend PySem.F.type_list_extend mt_extend (pv 2) (pa_cons (pe_lc (own := [("inner", 7)]) rfl sc__is_small_expression.nd (pi_tupK (K := K) (by rfl) (pe_c G__parts (hr.mono (by first | decide | omega)) (pa_cons (pv 4) pa_nil))) (blkOk_by (N := ["alphabet", "value", "waiting", "tuples", "part", "must_be_plain", "plain_below", "inner"]) (sc := defScope s__is_small_expression) (by decide +kernel)) (fun _ _ _ _ _ => (pg_name (i := 7) sc__is_small_expression.nd rfl (Or.inl rfl))) (fun _ _ _ _ _ => pts_nil) (fun _ _ _ _ _ => (pe_tup (pa_cons (pv 7) (pa_cons (pv 6) pa_nil))))) pa_nil))))))))))
    (pss_one (ps_ret pe_bl))))), ?_⟩
    walk_at "go"
    refine ⟨by show 2 ≤ sizeLine; decide, rd_new fun q0 H1 n0 e0 sm1 => ?_⟩
    walk_at "go"
    refine ⟨by show 1 ≤ sizeLine; decide, fun L hL => ?_⟩
    walk_at "go"
    have hL0 : H L = none := L2.Same.free sm1 hL
    have ql : q0 ≠ L := fun z => by rw [z] at e0; rw [e0] at hL; cases hL
    refine rd_while (m0 := 20) (fun r σ H' => ∃ (vs : List V) (us : List (PyData × Bool)) (t : Int) (x4 x5 x6 x7 : Option V), σ = [some (.str (S al)), some v, some (.ref L), some (.int t), x4, x5, x6, x7] ∧ t + r = 20 ∧ r ≤ 20 ∧ H' L = some (.lst vs) ∧ Stk K (hid L H') H' vs us ∧
        (∀ x ∈ us, mN x.1 ≤ 100000) ∧ us.length ≤ 1 + 100000 * (20 - r) ∧ Kp L H H' ∧ loopS al r us.reverse = R) ?_ ?_ ?_
    · refine ⟨_, [(d, false)], 0, none, none, none, none, rfl, rfl, by decide, upd_same, .cons (by rw [upd_ne ql]; exact e0) (Dp.mono (fun b o e => ?_) hd) .nil, ?_, by simp, (Kp.of sm1).trans ((Kp.refl).lay hL), hR.symm⟩
      · have nb : b ≠ L := ne_of_none e hL0
        rw [hid_ne nb, upd_ne nb]; exact sm1 _ _ e
      · intro x hx
        rw [List.mem_singleton.mp hx]; exact hN
    · rintro r σ H2 ⟨vs, us, t, x4, x5, x6, x7, rfl, ht, r20, eL, hS, hNs, hlen, kp, hres⟩
      walk_at "go"
      refine ⟨!vs.isEmpty, .inl ⟨vs, SqL.of eL, rfl⟩, ?_⟩
      rcases hS.last with ⟨rfl, rfl⟩ | ⟨vs', us', q, x, dd, b, rfl, rfl, eq, hx, hS'⟩
      · refine iteF ?_
        walk_at "go"
        have e : R = true := by rw [← hres]; simp [loopS]
        rw [e] at k
        exact k _ (Same.ofKp hL0 kp)
      · have e : (!(vs' ++ [V.ref q]).isEmpty) = true := by simp
        rw [e]
        refine iteT ?_
        walk_at "go"
        refine ⟨.inl ⟨rfl, _, SqL.of eL⟩, L, _, V.ref q, rfl, rfl, eL, by simp, ?_⟩
        rw [List.dropLast_concat]
        have nq : q ≠ L := fun z => by rw [z, eL] at eq; cases eq
        have k3 : Kp L H2 (upd H2 L (.lst vs')) := Kp.set
        have eL3 : upd H2 L (.lst vs') L = some (.lst vs') := upd_same
        generalize upd H2 L (.lst vs') = H3 at k3 eL3
        have hS3 := hS'.mono k3 (TS.ofKp eL k3)
        have eq3 := k3.at nq eq
        have hx3 : Dp K (hid L H3) x dd := Dp.mono k3 hx
        have hrev : (us' ++ [(dd, b)]).reverse = (dd, b) :: us'.reverse := by simp
        rw [hrev] at hres
        walk_at "go"
        refine rd_gtup (SqT.of eq3) rfl ?_
        walk_at "go"
        refine ite2 (fun h1 => ?_) (fun h1 => ?_)
        · -- more tuples than allowed
          have h1 := of_decide_eq_true h1
          have r0 : r = 0 := by omega
          subst r0
          refine iteT ?_
          walk_at "go"
          have e : R = false := by rw [← hres]; rfl
          rw [e] at k
          exact k _ (Same.ofKp hL0 (kp.trans k3))
        · have h1 : ¬ 20 < t + 1 := fun z => h1 (decide_eq_true z)
          obtain ⟨r', rfl⟩ : ∃ r', r = r' + 1 := ⟨r - 1, by omega⟩
          walk_at "go"
          refine use_wf hA (Dp.mono hid_le hx3) fun H4 sm4 => ?_
          have hSm4 : Same H H4 := L2.Same.trans (Same.ofKp hL0 (kp.trans k3)) sm4
          walk_at "go"
          unfold loopS at hres
          by_cases hw : mWF al dd = true
          · rw [hw]
            refine iteF ?_
            rw [if_neg (by rw [hw]; simp)] at hres
            obtain ⟨w', ps, rfl, -, -, -, h3⟩ := mWF_form hw
            have hx4 : Dp K (hid L H4) x (.tuple (.str w' :: ps)) := Dp.mono (Kp.of sm4) hx3
            have hx4c := hx4
            cases hx4c with
            | @tup a ys _ hs hy =>
              cases hy with
              | @cons v0 ys' _ _ hv0 hy =>
                cases hv0
                have hs4 := Same.seqT (hid_le (a := L)) hs
                with_reducible refine rd_next ?_
                with_reducible refine rd_seq ?_
                with_reducible refine rd_ifs ?_
                refine rd_barAnd (i := 5) (j := 4) (by rfl) (by rfl) hs4 fun H5 sm5 => ?_
                refine ite2 (fun h2 => ?_) (fun h2 => ?_)
                · walk_at "go"
                  have e : R = false := by
                    rw [← hres, if_pos (show (b && isBar (mHead (.tuple (.str w' :: ps)))) = true from h2)]
                  rw [e] at k
                  exact k _ (L2.Same.trans hSm4 sm5)
                · rw [if_neg (show ¬ (b && isBar (mHead (.tuple (.str w' :: ps)))) = true from h2)] at hres
                  with_reducible refine rd_next ?_
                  with_reducible refine rd_seq ?_
                  with_reducible refine rd_asg ?_
                  refine rd_rowOr (i := 5) (j := 4) (by rfl) (by rfl) (Same.seqT sm5 hs4) fun H6 sm6 => ?_
                  walk_at "go"
                  have sm46 := L2.Same.trans sm5 sm6
                  have eL6 : H6 L = some (.lst vs') := sm46 _ _ (sm4 _ _ eL3)
                  refine ⟨.inl ⟨rfl, _, SqL.of eL6⟩, ?_⟩
                  walk_at "go"
                  refine use_parts (Hd := hid L H4) (L2.Same.trans hid_le sm46) hx4 (fun z => ?_) fun p xs H7 sm7 hp hxs => ?_
                  · obtain ⟨_, _, _, rfl, _⟩ := mThree_form (h3 z)
                    simp
                  rw [mParts_rel] at hxs hres
                  refine ⟨p, rfl, ⟨_, hp⟩, ?_⟩
                  intro D hD
                  have eL7 := sm7 _ _ eL6
                  have DL : D ≠ L := fun z => by rw [z, eL7] at hD; cases hD
                  have lx : xs.length = (rel w' ps).length := DpAll.length hxs
                  have hNd : mN (.tuple (.str w' :: ps)) ≤ 100000 := hNs (.tuple (.str w' :: ps), b) (by simp)
                  have lr := @mN_len w' ps
                  have s37 : Same H3 H7 := L2.Same.trans (L2.Same.trans sm4 sm46) sm7
                  refine lc_tup (xs := xs) (fun i H' => ∃ zs : List V, H' D = some (.lst zs) ∧ Stk K (hid L H7) H' zs (((rel w' ps).take i).map fun p => (p, b || isRow w')) ∧ Same H7 H') ?_ (fun i H' _ h => Same.seqT h.choose_spec.2.2 hp) ?_ ?_
                  · exact ⟨[], upd_same, .nil, Same.lay hD⟩
                  · rintro i y H' hi ⟨zs, eD, hz, sm⟩
                    obtain ⟨dp, hdp, hy⟩ := DpAll.get hxs hi
                    have lz : zs.length ≤ 100000 := by
                      have := hz.length
                      rw [List.length_map, List.length_take] at this
                      omega
                    walk_at "go"
                    refine ⟨rfl, ?_⟩
                    walk_at "go"
                    refine ⟨by show 2 ≤ sizeLine; decide, rd_new fun q' H8 hq' eQ sm8 => ?_⟩
                    have eD8 := sm8 _ _ eD
                    have eL8 : H8 L = some (.lst vs') := sm8 _ _ (sm _ _ eL7)
                    have nqD : q' ≠ D := fun z => by rw [z, eD8] at eQ; cases eQ
                    have sm78 : Same H7 (upd H8 D (.lst (zs ++ [.ref q']))) := Same.lay2 (L2.Same.trans sm sm8) hD
                    refine ⟨zs, eD8, by rw [PySem.sizeLine_eq]; omega, zs ++ [.ref q'], upd_same, ?_, sm78⟩
                    rw [map_snoc (fun p => (p, b || isRow w')) hdp]
                    have tD : TS H8 (upd H8 D (.lst (zs ++ [.ref q']))) := TS.set eD8
                    refine (hz.mono (Same.refl _) (TS.trans (TS.same sm8) tD)).app (.cons (tD _ _ eQ) (Dp.mono (Kp.of (L2.Same.trans sm46 sm7)) hy) .nil)
                  · rintro H9 ⟨zs, eD, hz, sm⟩
                    rw [lx, List.take_length] at hz
                    walk_at "go"
                    have eL9 := sm _ _ eL7
                    have lz := hz.length
                    rw [List.length_map] at lz
                    have lv := hS'.length
                    have lu : us'.length + 1 ≤ 1 + 100000 * (20 - (r' + 1)) := by
                      have := hlen
                      rw [List.length_append] at this
                      exact this
                    have hb : 100000 * (20 - (r' + 1)) + 100000 ≤ 100000 * (20 - r') := by omega
                    have hb3 : 100000 * (20 - (r' + 1)) ≤ 2000000 := by omega
                    have hb2 : vs'.length + zs.length ≤ 16777216 := by omega
                    refine ⟨L, D, vs', zs, rfl, rfl, eL9, eD, by rw [PySem.sizeLine_eq]; exact hb2, ?_⟩
                    have k10 : Kp L H9 (upd H9 L (.lst (vs' ++ zs))) := Kp.set
                    have t10 := TS.ofKp eL9 k10
                    have s39 : Kp L H3 (upd H9 L (.lst (vs' ++ zs))) := (Kp.of (L2.Same.trans s37 sm)).trans k10
                    refine ⟨r', Nat.lt_succ_self _, vs' ++ zs, us' ++ (rel w' ps).map (fun p => (p, b || isRow w')), t + 1, _, _, _, _, rfl, by omega, by omega, upd_same, ?_, ?_, ?_, (kp.trans k3).trans s39, ?_⟩
                    · exact (hS3.mono s39 (TS.ofKp eL3 s39)).app (hz.mono ((Kp.of sm).trans k10) t10)
                    · intro z hz'
                      rcases List.mem_append.mp hz' with hz' | hz'
                      · exact hNs z (List.mem_append_left _ hz')
                      · obtain ⟨p', hp', rfl⟩ := List.mem_map.mp hz'
                        exact Nat.le_trans (mN_part hp') hNd
                    · rw [List.length_append, List.length_map]; omega
                    · rw [List.reverse_append]; exact hres
          · have hw' : mWF al dd = false := by simpa using hw
            rw [hw']
            refine iteT ?_
            walk_at "go"
            have e : R = false := by rw [← hres, if_pos hw']
            rw [e] at k
            exact k _ hSm4
    · intro σ H Q Q' hq h
      obtain ⟨v, e, b, t, q⟩ := h
      exact ⟨v, e, b, t, hq _ _ q⟩
end

end Cs
namespace Cs
open PySem L2
open PyProof.Rows (envOfC)
/-! the cases of k02: what is_pattern answers of each -/
def CaseOk (al : List Nat) (d : PyData) (wide tuples : Int) (bar : Bool) : Prop := mPat al d = (decide (wide ≤ 10) && (decide (tuples ≤ 20) && !bar)) ∧ mN d ≤ 100000
theorem caseOk {al : List Nat} {d : PyData} {wide tuples : Int} {bar : Bool} (hF : mF al d = true) (hT : (mT d : Int) = tuples) (hW : mW d = wide) (hR : mR d = !bar) (hN : mN d ≤ 100000) : CaseOk al d wide tuples bar := by
  refine ⟨?_, hN⟩
  rw [Bool.eq_iff_iff, mPat_iff, Bool.and_eq_true, Bool.and_eq_true, decide_eq_true_eq, decide_eq_true_eq, ← hR, ← hW, ← hT]
  constructor
  · rintro ⟨_, b, c, e⟩; exact ⟨e, by omega, b⟩
  · rintro ⟨e, c, b⟩; exact ⟨hF, b, by omega, e⟩
/-- what is known of an expression: it fits, its tuples, its width, right, plain, its greatest number of parts -/
structure Ex (al : List Nat) (d : PyData) (t : Nat) (w : Int) (r p : Bool) : Prop where
  F : mF al d = true
  T : mT d = t
  W : mW d = w
  R : mR d = r
  P : mP d = p
  N : mN d ≤ 100
theorem sub_filter : ∀ {al cs : List Nat}, cs.Sublist al → al.Nodup → al.filter (fun c => decide (c ∈ cs)) = cs
  | [], _, h, _ => by rw [List.sublist_nil.mp h]; rfl
  | a :: al, cs, h, nd => by
    have nd' := List.nodup_cons.mp nd
    cases h with
    | cons _ h =>
      have na : a ∉ cs := fun z => nd'.1 (h.subset z)
      rw [List.filter_cons, if_neg (by simpa using na)]
      exact sub_filter h nd'.2
    | @cons_cons cs' _ _ h =>
      rw [List.filter_cons, if_pos (by simp)]
      congr 1
      refine Eq.trans (List.filter_congr fun x hx => ?_) (sub_filter h nd'.2)
      have : x ≠ a := fun z => nd'.1 (z ▸ hx)
      simp [this]
theorem ex_set {al cs : List Nat} (hA : Alp al) (h : cs.Sublist al) : Ex al (dSet cs) 1 1 true true := by
  have e0 : rel (kS "set") [PyData.str (S cs)] = [] := by unfold rel; rw [if_pos rfl]
  have sel : mSel al (.str (S cs)) = true := by
    show decide (S cs = S (al.filter fun c => decide (c ∈ cs))) = true
    rw [sub_filter h hA.nd]; simp
  unfold dSet
  refine ⟨?_, ?_, ?_, ?_, ?_, ?_⟩
  · rw [mF_eq, mWF_eq, if_pos rfl, e0]
    show (mSel al (.str (S cs)) && true) = true
    rw [sel]; rfl
  · rw [mT_eq, e0]; rfl
  · rw [mW_eq, if_neg (by decide +kernel), e0]; rfl
  · rw [mR_eq, e0]; simp
  · rw [mP_eq, e0]; decide +kernel
  · rw [mN_eq, e0]; show max 1 0 ≤ 100; decide
/-- all of a list alike -/
structure Exs (al : List Nat) (ds : List PyData) (t : Nat) (w : Int) (r p : Bool) : Prop where
  F : (ds.map (mF al)).all id = true
  T : (ds.map mT).sum = t
  W : (ds.map mW).sum = w
  R : ds.all mR = r
  P : ds.all mP = p
  N : (ds.map mN).foldr max 0 ≤ 100
theorem exs_nil {al : List Nat} : Exs al [] 0 0 true true := ⟨rfl, rfl, rfl, rfl, rfl, Nat.zero_le _⟩
theorem exs_cons {al : List Nat} {d : PyData} {ds : List PyData} {t t' : Nat} {w w' : Int} {r r' p p' : Bool} (h : Ex al d t w r p) (hs : Exs al ds t' w' r' p') : Exs al (d :: ds) (t + t') (w + w') (r && r') (p && p') := by
  refine ⟨?_, ?_, ?_, ?_, ?_, ?_⟩
  · rw [List.map_cons, List.all_cons, hs.F]; simp [h.F]
  · rw [List.map_cons, List.sum_cons, hs.T, h.T]
  · rw [List.map_cons, List.sum_cons, hs.W, h.W]
  · rw [List.all_cons, hs.R, h.R]
  · rw [List.all_cons, hs.P, h.P]
  · rw [List.map_cons, List.foldr_cons]
    exact Nat.max_le.mpr ⟨h.N, hs.N⟩
theorem exs_app {al : List Nat} {ds es : List PyData} {t t' : Nat} {w w' : Int} {r r' p p' : Bool} (h : Exs al ds t w r p) (hs : Exs al es t' w' r' p') : Exs al (ds ++ es) (t + t') (w + w') (r && r') (p && p') := by
  refine ⟨?_, ?_, ?_, ?_, ?_, ?_⟩
  · rw [List.map_append, List.all_append, h.F, hs.F]; rfl
  · rw [List.map_append, List.sum_append, h.T, hs.T]
  · rw [List.map_append, List.sum_append, h.W, hs.W]
  · rw [List.all_append, h.R, hs.R]
  · rw [List.all_append, h.P, hs.P]
  · refine foldr_max_le fun x hx => ?_
    rw [List.map_append] at hx
    rcases List.mem_append.mp hx with hx | hx
    · exact Nat.le_trans (le_foldr_max hx) h.N
    · exact Nat.le_trans (le_foldr_max hx) hs.N
theorem exs_rep {al : List Nat} {d : PyData} {t : Nat} {w : Int} (h : Ex al d t w true true) : ∀ n : Nat, Exs al (List.replicate n d) (n * t) (n * w) true true
  | 0 => by simpa using exs_nil
  | n + 1 => by
    have e := exs_cons h (exs_rep h n)
    rw [List.replicate_succ]
    have e1 : t + n * t = (n + 1) * t := by rw [Nat.add_mul, Nat.one_mul, Nat.add_comm]
    have e2 : w + (n : Int) * w = ((n + 1 : Nat) : Int) * w := by rw [Int.natCast_add, Int.add_mul]; simp [Int.add_comm]
    rw [e1, e2] at e
    exact e
theorem exs_sets {al : List Nat} (hA : Alp al) : ∀ {css : List (List Nat)}, (∀ cs ∈ css, cs.Sublist al) → Exs al (css.map dSet) css.length css.length true true
  | [], _ => exs_nil
  | cs :: css, h => by
    have e := exs_cons (ex_set hA (h cs (by simp))) (exs_sets hA (css := css) fun c hc => h c (by simp [hc]))
    rw [List.map_cons, List.length_cons]
    have e1 : 1 + css.length = css.length + 1 := Nat.add_comm ..
    have e2 : (1 : Int) + (css.length : Int) = ((css.length + 1 : Nat) : Int) := by omega
    rw [e1, e2] at e
    exact e
/-- a row, an any, an all -/
theorem ex_many {al : List Nat} {w : Str} {ds : List PyData} {t : Nat} {v : Int} {r p : Bool} (hw : w = kS "row" ∨ w = kS "any" ∨ w = kS "all") (h : Exs al ds t v r p) (hl : ds.length ≤ 100) :
    Ex al (.tuple (.str w :: ds)) (1 + t) (m1 v) (if isRow w then p else r) (!isBar w && p) := by
  have n1 : w ≠ kS "set" := by rcases hw with rfl | rfl | rfl <;> decide +kernel
  have n2 : w ≠ kS "again" := by rcases hw with rfl | rfl | rfl <;> decide +kernel
  have n3 : w ≠ kS "not" := by rcases hw with rfl | rfl | rfl <;> decide +kernel
  have e0 : rel w ds = ds := by unfold rel; rw [if_neg n1, if_neg n2]
  refine ⟨?_, ?_, ?_, ?_, ?_, ?_⟩
  · rw [mF_eq, mWF_eq, if_neg n1, if_neg n3, if_neg n2, e0, h.F]
    rcases hw with rfl | rfl | rfl <;> decide +kernel
  · rw [mT_eq, e0, h.T]
  · rw [mW_eq, if_neg n2, e0, h.W]
  · rw [mR_eq, e0, h.R, h.P]
  · rw [mP_eq, e0, List.all_map]
    show (!isBar w && ds.all mP) = _
    rw [h.P]
  · rw [mN_eq, e0]
    exact Nat.max_le.mpr ⟨hl, h.N⟩
def dAgain (part : PyData) (lo : Int) (hi : PyData) : PyData := .tuple [.str (kS "again"), part, .int lo, hi]
def AgOk (lo : Int) (hi : PyData) (f : Int) : Prop := 0 ≤ lo ∧ lo ≤ 4 ∧ ((hi = .none ∧ f = lo + 1) ∨ ∃ h, hi = .int h ∧ lo ≤ h ∧ h ≤ 4 ∧ f = m1 h)
theorem AgOk.fac {lo f : Int} {hi part : PyData} (h : AgOk lo hi f) : mFac [part, .int lo, hi] = f := by
  obtain ⟨_, _, ⟨rfl, rfl⟩ | ⟨m, rfl, _, _, rfl⟩⟩ := h <;> rfl
theorem AgOk.pos {lo f : Int} {hi : PyData} (h : AgOk lo hi f) : 1 ≤ f := by
  obtain ⟨h0, _, ⟨rfl, rfl⟩ | ⟨m, rfl, _, _, rfl⟩⟩ := h
  · omega
  · unfold m1; split <;> omega
theorem AgOk.three {lo f : Int} {hi part : PyData} (h : AgOk lo hi f) : mThree [part, .int lo, hi] = true := by
  obtain ⟨h0, h4, h⟩ := h
  show mRange (.int lo) hi = true
  show (mWithin 0 4 (.int lo) && mHigh lo hi) = true
  have e : mWithin 0 4 (.int lo) = true := by show (decide _ && decide _) = true; simp [h0, h4]
  rw [e]
  rcases h with ⟨rfl, _⟩ | ⟨m, rfl, a, b, _⟩
  · rfl
  · show mWithin lo 4 (.int m) = true
    show (decide _ && decide _) = true
    simp [a, b]
theorem ex_again {al : List Nat} {part hi : PyData} {lo f : Int} {t : Nat} {v : Int} {r p : Bool} (h : Ex al part t v r p) (hg : AgOk lo hi f) : Ex al (dAgain part lo hi) (1 + t) (m1 v * f) p p := by
  have n1 : kS "again" ≠ kS "set" := by decide +kernel
  have n3 : kS "again" ≠ kS "not" := by decide +kernel
  have e0 : rel (kS "again") [part, .int lo, hi] = [part] := by unfold rel; rw [if_neg n1, if_pos rfl]; rfl
  unfold dAgain
  refine ⟨?_, ?_, ?_, ?_, ?_, ?_⟩
  · rw [mF_eq, mWF_eq, if_neg n1, if_neg n3, if_pos rfl, e0, hg.three]
    simp [h.F]
  · rw [mT_eq, e0]; simp [h.T]
  · rw [mW_eq, if_pos rfl, e0, hg.fac]; simp [h.W]
  · rw [mR_eq, e0, if_pos (by decide +kernel)]; simp [h.P]
  · rw [mP_eq, e0]
    have : isBar (kS "again") = false := by decide +kernel
    simp [this, h.P]
  · rw [mN_eq, e0]
    have := h.N
    simp; omega
theorem ex_not {al : List Nat} {part : PyData} {t : Nat} {v : Int} {r p : Bool} (h : Ex al part t v r p) : Ex al (.tuple [.str (kS "not"), part]) (1 + t) (m1 v) r false := by
  have n1 : kS "not" ≠ kS "set" := by decide +kernel
  have n3 : kS "not" ≠ kS "again" := by decide +kernel
  have e0 : rel (kS "not") [part] = [part] := by unfold rel; rw [if_neg n1, if_neg n3]
  refine ⟨?_, ?_, ?_, ?_, ?_, ?_⟩
  · rw [mF_eq, mWF_eq, if_neg n1, if_pos rfl, e0]
    simp [h.F]
  · rw [mT_eq, e0]; simp [h.T]
  · rw [mW_eq, if_neg n3, e0]; simp [h.W]
  · rw [mR_eq, e0, if_neg (by decide +kernel)]; simp [h.R]
  · rw [mP_eq, e0]
    have : isBar (kS "not") = true := by decide +kernel
    simp [this]
  · rw [mN_eq, e0]
    have := h.N
    simp; omega
theorem Ex.to {al : List Nat} {d : PyData} {t t' : Nat} {w w' : Int} {r r' p p' : Bool} (h : Ex al d t w r p) (e1 : t = t') (e2 : w = w') (e3 : r = r') (e4 : p = p') : Ex al d t' w' r' p' := by
  subst e1 e2 e3 e4; exact h
theorem Ex.case {al : List Nat} {d : PyData} {t : Nat} {w : Int} {r p : Bool} {tuples : Int} {bar : Bool} (h : Ex al d t w r p) (e1 : (t : Int) = tuples) (e3 : r = !bar) : CaseOk al d w tuples bar :=
  caseOk h.F (by rw [h.T]; exact e1) h.W (by rw [h.R]; exact e3) (Nat.le_trans h.N (by decide))
theorem m1_pos {v : Int} (h : 1 ≤ v) : m1 v = v := by unfold m1; split <;> omega

end Cs
namespace Cs
open PySem L2
open PyProof.Rows (envOfC)
def sp_again : Sp := fun vs H Q _ => ∃ (a : Addr) (v : V) (d : PyData) (n : Nat), vs = [.ref a, v] ∧ Tp H v d ∧ Src a (n + 3) H ∧
  ∀ (p q : Addr) (lo f : Int) (hi : PyData) (H' : Hp), AgOk lo hi f → H' p = some (.tup [.ref q, .int f]) → Tp H' (.ref q) (dAgain d lo hi) → Src a n H' → Kp a H H' → Q (.ref p) H'
theorem use_again {a : Addr} {v : V} {d : PyData} {n : Nat} {H : Hp} {Q : VK} {E : XK} (h : Tp H v d) (hS : Src a (n + 3) H)
    (k : ∀ (p q : Addr) (lo f : Int) (hi : PyData) (H' : Hp), AgOk lo hi f → H' p = some (.tup [.ref q, .int f]) → Tp H' (.ref q) (dAgain d lo hi) → Src a n H' → Kp a H H' → Q (.ref p) H') : sp_again [.ref a, v] H Q E := ⟨a, v, d, n, rfl, h, hS, k⟩
section
variable {P : Program} {w : World} {K : PySem.W.Frag} {mg : Str → Option Value} {base : Heap}
theorem ok_again (B : Blt mg) (G__law_draw : Cal P w K mg base 1 "_law_draw" ["_law_source_here", "_law_many"] sp_draw) (F : At K mg "_law_again" s__law_again ["_law_source_here", "_law_part"]) : Cal P w K mg base 2 "_law_again" ["_law_source_here", "_law_part"] sp_again := by
  refine F.ok sc__law_again (fun vs H Q E h => ?_) (fun f cdv A outer s H vs Q E hr h => ?_)
  · obtain ⟨a, v, d, n, rfl, _⟩ := h
    rfl
  · obtain ⟨a, v, d, n, rfl, hd, hS, k⟩ := h
    refine ⟨_, (pss_cons (ps_set (i := 2) sc__law_again.nd rfl (Or.inl rfl) (pe_c G__law_draw (hr.mono (by first | decide | omega)) (pa_cons (pv 0) (pa_cons pe_int pa_nil))))
    (pss_cons (ps_if (pt_cmpR op_eq (pe_c G__law_draw (hr.mono (by first | decide | omega)) (pa_cons (pv 0) (pa_cons pe_int pa_nil))) pe_int (nomark _))
    (pss_one (ps_ret (pe_tup (pa_cons (pe_tup (pa_cons pe_str (pa_cons (pv 1) (pa_cons (pv 2) (pa_cons pe_non pa_nil))))) (pa_cons (pe_op op_add (pv 2) pe_int) pa_nil)))))
    pss_nil)
    (pss_cons (ps_set (i := 3) sc__law_again.nd rfl (Or.inl rfl) (pe_op op_add (pv 2) (pe_c G__law_draw (hr.mono (by first | decide | omega)) (pa_cons (pv 0) (pa_cons (pe_op op_sub pe_int (pv 2)) pa_nil)))))
    (pss_one (ps_ret (pe_tup (pa_cons (pe_tup (pa_cons pe_str (pa_cons (pv 1) (pa_cons (pv 2) (pa_cons (pv 3) pa_nil))))) (pa_cons (pe_callB (call_max2 rfl) (by rfl) B.max (by decide +kernel) (pa_cons pe_int (pa_cons (pv 3) pa_nil))) pa_nil)))))))), ?_⟩
    walk_at "go"
    refine use_draw (n := n + 2) hS (by decide) (by decide) fun lo H1 l0 l1 hS1 k1 => ?_
    walk_at "go"
    refine use_draw (n := n + 1) hS1 (by decide) (by decide) fun c H2 c0 c1 hS2 k2 => ?_
    have t2 : TS H H2 := TS.kp hS (k1.trans k2)
    walk_at "go"
    refine ite2 (fun _ => ?_) (fun _ => ?_)
    · walk_at "go"
      refine ⟨by show 4 ≤ sizeLine; decide, rd_newK hS2 fun q H3 qa hq eQ hS3 k3 => ?_⟩
      walk_at "go"
      refine ⟨by show 2 ≤ sizeLine; decide, rd_newK hS3 fun p H4 pa hp eP hS4 k4 => ?_⟩
      have t3 := TS.kp hS2 k3
      have t4 := TS.kp hS3 k4
      exact k p q lo (lo + 1) .none H4 ⟨l0, by omega, .inl ⟨rfl, rfl⟩⟩ eP (.tup (t4 _ _ eQ) (.cons (.str _) (.cons (hd.ts (t2.trans (t3.trans t4))) (.cons (.int _) (.cons .non .nil))))) (hS4.mono (by omega)) ((k1.trans k2).trans (k3.trans k4))
    · walk_at "go"
      refine use_draw (n := n) hS2 (by omega) (by omega) fun e H3 e0 e1 hS3 k3 => ?_
      walk_at "go"
      refine ⟨by show 4 ≤ sizeLine; decide, rd_newK hS3 fun q H4 qa hq eQ hS4 k4 => ?_⟩
      walk_at "go"
      refine ⟨1, _, rfl, ?_⟩
      walk_at "go"
      refine ⟨by show 2 ≤ sizeLine; decide, rd_newK hS4 fun p H5 pa hp eP hS5 k5 => ?_⟩
      have t3 := TS.kp hS2 k3
      have t4 := TS.kp hS3 k4
      have t5 := TS.kp hS4 k5
      exact k p q lo (m1 (lo + e)) (.int (lo + e)) H5 ⟨l0, by omega, .inr ⟨_, rfl, by omega, by omega, rfl⟩⟩ eP (.tup (t5 _ _ eQ) (.cons (.str _) (.cons (hd.ts (t2.trans (t3.trans (t4.trans t5)))) (.cons (.int _) (.cons (.int _) .nil))))) hS5 ((k1.trans k2).trans (k3.trans (k4.trans k5)))
end

end Cs
namespace Cs
open PySem L2
open PyProof.Rows (envOfC)
/-! tuple * int, any count up to 1000 -/
section
open PySem.Spec PyProof.Rows
theorem tuple_mul1 (l : Addr) (items : Array Value) (n : Nat) (dd : Option Addr) (sl : Array (Option Value)) (u : Tok) :
    Meets (Builtin.«tuple.__mul__» ⟨[.ref l, .int 1 u], []⟩) (fun _ R s => s.heap.get? l = some { cls := .type "tuple", dict := dd, data := .seq items n, slots := sl } ∧ R (.ok (.ret (Value.ref l))) s) :=
  .of_wp fun prog w A R s h => by
    obtain ⟨hp, g, d, tk, os⟩ := s
    obtain ⟨hl, h⟩ := h
    have f1 := AutoSeq1.idx_int
    have c1 : (items.isEmpty || ((1 : Int) == 1)) = true := by simp
    wp_walk using wpAny_loadPart' hl
    repeat (first
      | (refine wpAny_ite_false (decide_eq_false (by decide)) ?_; wp_walk using wpAny_loadPart' hl)
      | (refine wpAny_ite_true (decide_eq_true c1) ?_; wp_walk using wpAny_loadPart' hl))
    exact ⟨_, rfl, h⟩
theorem tuple_mul0 (l : Addr) (items : Array Value) (n : Nat) (dd : Option Addr) (sl : Array (Option Value)) (x : Int) (u : Tok) (c0 : (decide (x < -(2 ^ 63)) || decide (x ≥ 2 ^ 63)) = false) (c1 : (items.isEmpty || x == 1) = false) (c2 : (decide (x ≤ 0) || items.isEmpty) = true) :
    Meets (Builtin.«tuple.__mul__» ⟨[.ref l, .int x u], []⟩) (fun _ R s => s.heap.get? l = some { cls := .type "tuple", dict := dd, data := .seq items n, slots := sl } ∧
      R (.ok (.ret (Value.ref s.heap.objs.size))) { s with heap := s.heap.push { cls := Value.type "tuple", data := Data.seq #[] }, toks := s.toks }) :=
  .of_wp fun prog w A R s h => by
    obtain ⟨hp, g, d, tk, os⟩ := s
    obtain ⟨hl, h⟩ := h
    have f1 := AutoSeq1.idx_int
    wp_walk using wpAny_loadPart' hl
    repeat (first
      | (refine wpAny_ite_false (decide_eq_false (by rw [c0]; exact Bool.false_ne_true)) ?_; wp_walk using wpAny_loadPart' hl)
      | (refine wpAny_ite_false (decide_eq_false (by rw [c1]; exact Bool.false_ne_true)) ?_; wp_walk using wpAny_loadPart' hl)
      | (refine wpAny_ite_true (decide_eq_true c2) ?_; wp_walk using wpAny_loadPart' hl))
    exact ⟨_, rfl, h⟩
end
def rRepA (K : PySem.W.Frag) : R2 := fun x y H Q => ∃ l k xs, x = .ref l ∧ y = .int k ∧ SqT K H l xs ∧ xs ≠ [] ∧ -1000 ≤ k ∧ k ≤ 1000 ∧ xs.length ≤ 1000 ∧ (k = 1 → Q (.ref l) H) ∧ (k ≠ 1 → New H (.tup (List.replicate k.toNat xs).flatten) fun p H2 => Q (.ref p) H2)
theorem rd_repA {K : PySem.W.Frag} {H : Hp} {Q : VK} {l : Addr} {k : Int} {xs : List V} (h : SqT K H l xs) (hne : xs ≠ []) (h1 : -1000 ≤ k) (h2 : k ≤ 1000) (hz : xs.length ≤ 1000) (q1 : k = 1 → Q (.ref l) H) (q2 : k ≠ 1 → New H (.tup (List.replicate k.toNat xs).flatten) fun p H2 => Q (.ref p) H2) : rRepA K (.ref l) (.int k) H Q :=
  ⟨l, k, xs, rfl, rfl, h, hne, h1, h2, hz, q1, q2⟩
section
open PySem.Spec PyProof.Rows
theorem op_repA {X : Cx} : OpR X (binaryOp .Mult) (rRepA X.K) := by
  intro pins s σ H x y v u Q I rx ry h
  obtain ⟨l, k, xs, rfl, rfl, hT, hne, h1, h2, hz, q1, q2⟩ := h
  by_cases k2 : 2 ≤ k
  · exact op_repT pins s σ H _ _ v u Q I rx ry ⟨l, k, xs, rfl, rfl, hT, hne, k2, h2, hz, q2 (by omega)⟩
  cases rx
  obtain ⟨t, rfl⟩ := ry
  obtain ⟨its, r, ⟨⟨cls, dd, data, sl⟩, ho, hc, n, hd⟩, hs⟩ := I.tuple hT
  simp only at hc hd
  subst hc hd
  have hle : its.length = xs.length := r.length.symm
  have hn : its ≠ [] := fun e => hne (by
    rw [e] at hle
    exact List.eq_nil_of_length_eq_zero hle.symm)
  have hi : its.toArray.isEmpty = false := by
    cases its with
    | nil => exact absurd rfl hn
    | cons a b => rfl
  by_cases k1 : k = 1
  · subst k1
    refine wpAny_binaryOp_repeat_ref (T := "tuple") (U := "int") (by decide) ⟨_, ho, rfl⟩ (fun s' => typeIs_int s' 1 t) noFill_tuple_mul F.fills_int_mul F.slot_int_rmul repeat_tuple F.slot_int_index.lookup
      (call_meets F.slot_int_rmul (typeIs_int s 1 t) F.entry_int_rmul (F.args_int_rmul_2 _ _) (int_rmul_tuple 1 t l its.toArray n dd sl)
        ⟨ho, rfl, ⟨_, ho, rfl⟩, call_meets F.slot_tuple_mul ⟨_, ho, rfl⟩ F.entry_tuple_mul (F.args_tuple_mul_2 _ _) (tuple_mul1 l its.toArray n dd sl t) ⟨ho, ?_⟩⟩)
    exact ⟨.ref l, H, I, rfl, q1 rfl⟩
  · have c0 : (decide (k < -(2 ^ 63)) || decide (k ≥ 2 ^ 63)) = false := by
      rw [decide_eq_false (by omega), decide_eq_false (by omega)] <;> rfl
    have c1 : (its.toArray.isEmpty || k == 1) = false := by
      rw [hi, Bool.false_or]
      exact beq_eq_false_iff_ne.mpr (by omega)
    have c2 : (decide (k ≤ 0) || its.toArray.isEmpty) = true := by
      rw [hi, Bool.or_false]
      exact decide_eq_true (by omega)
    refine wpAny_binaryOp_repeat_ref (T := "tuple") (U := "int") (by decide) ⟨_, ho, rfl⟩ (fun s' => typeIs_int s' k t) noFill_tuple_mul F.fills_int_mul F.slot_int_rmul repeat_tuple F.slot_int_index.lookup
      (call_meets F.slot_int_rmul (typeIs_int s k t) F.entry_int_rmul (F.args_int_rmul_2 _ _) (int_rmul_tuple k t l its.toArray n dd sl)
        ⟨ho, rfl, ⟨_, ho, rfl⟩, call_meets F.slot_tuple_mul ⟨_, ho, rfl⟩ F.entry_tuple_mul (F.args_tuple_mul_2 _ _) (tuple_mul0 l its.toArray n dd sl k t c0 c1 c2) ⟨ho, ?_⟩⟩)
    have e0 : (List.replicate k.toNat xs).flatten = [] := by
      have : k.toNat = 0 := by omega
      rw [this]; rfl
    have q := q2 k1
    rw [e0] at q
    refine ⟨.ref s.heap.objs.size, _, I.laid (t' := s.toks) (o := .tup []) (fun b ob q => Heap.get?_push_of_some _ q) (Nat.le_refl _) ?_, rfl, q _ (I.hok.fresh (Nat.le_refl _))⟩
    exact ⟨by show 0 ≤ _; exact Nat.zero_le _, [], .nil, IsTup.new _ _⟩
end
theorem op_repAK {X : Cx} {K : PySem.W.Frag} (h : X.K = K) : OpR X (binaryOp .Mult) (rRepA K) := by subst h; exact op_repA

end Cs
namespace Cs
open PySem L2
open PyProof.Rows (envOfC)
/-! a value with what is_pattern answers of it -/
def sp_case : Sp := fun vs H Q _ => ∃ (a : Addr) (al : List Nat) (n : Nat), vs = [.ref a, .str (S al)] ∧ Alp al ∧ Src a (n + 400) H ∧
  ∀ (p : Addr) (x : V) (d : PyData) (wide tuples : Int) (bar : Bool) (H' : Hp), CaseOk al d wide tuples bar → H' p = some (.tup [x, .int wide, .int tuples, .bl bar]) → Tp H' x d → Src a n H' → Kp a H H' → Q (.ref p) H'
def sp_withag : Sp := fun vs H Q _ => ∃ (a : Addr) (al : List Nat) (m : Int) (n : Nat), vs = [.ref a, .str (S al), .int m] ∧ Alp al ∧ 7 ≤ m ∧ m ≤ 13 ∧ Src a (n + 120) H ∧
  ∀ (p : Addr) (x : V) (d : PyData) (wide tuples : Int) (bar : Bool) (H' : Hp), CaseOk al d wide tuples bar → H' p = some (.tup [x, .int wide, .int tuples, .bl bar]) → Tp H' x d → Src a n H' → Kp a H H' → Q (.ref p) H'
theorem use_withag {a : Addr} {al : List Nat} {m : Int} {n : Nat} {H : Hp} {Q : VK} {E : XK} (hA : Alp al) (m0 : 7 ≤ m) (m1 : m ≤ 13) (hS : Src a (n + 120) H)
    (k : ∀ (p : Addr) (x : V) (d : PyData) (wide tuples : Int) (bar : Bool) (H' : Hp), CaseOk al d wide tuples bar → H' p = some (.tup [x, .int wide, .int tuples, .bl bar]) → Tp H' x d → Src a n H' → Kp a H H' → Q (.ref p) H') : sp_withag [.ref a, .str (S al), .int m] H Q E := ⟨a, al, m, n, rfl, hA, m0, m1, hS, k⟩
section
variable {P : Program} {w : World} {K : PySem.W.Frag} {mg : Str → Option Value} {base : Heap}
theorem ok_withag (B : Blt mg) (G__law_draw : Cal P w K mg base 1 "_law_draw" ["_law_source_here", "_law_many"] sp_draw) (G__law_set : Cal P w K mg base 2 "_law_set" ["_law_source_here", "_law_alphabet_here"] sp_set) (G__law_row : Cal P w K mg base 3 "_law_row" ["_law_source_here", "_law_alphabet_here", "_law_many"] sp_row)
    (F : At K mg "_law_with_agains" s__law_with_agains ["_law_source_here", "_law_alphabet_here", "_law_many"]) : Cal P w K mg base 4 "_law_with_agains" ["_law_source_here", "_law_alphabet_here", "_law_many"] sp_withag := by
  refine F.ok sc__law_with_agains (fun vs H Q E h => ?_) (fun f cdv A outer s H vs Q E hr h => ?_)
  · obtain ⟨a, al, m, n, rfl, _⟩ := h
    rfl
  · obtain ⟨a, al, m, n, rfl, hA, m0, m1', hS, k⟩ := h
    refine ⟨_, (pss_cons (ps_if (pt_cmpR op_eq (pe_c G__law_draw (hr.mono (by first | decide | omega)) (pa_cons (pv 0) (pa_cons pe_int pa_nil))) pe_int (nomark _))
    (pss_cons (ps_set (i := 3) sc__law_with_agains.nd rfl (Or.inl rfl) (pe_tup (pa_cons pe_str (pa_cons (pe_c G__law_set (hr.mono (by first | decide | omega)) (pa_cons (pv 0) (pa_cons (pv 1) pa_nil))) (pa_cons pe_int (pa_cons pe_int pa_nil))))))
    (pss_one (ps_ret (pe_tup (pa_cons (pe_op (op_catTK (K := K) (by rfl)) (pe_c G__law_row (hr.mono (by first | decide | omega)) (pa_cons (pv 0) (pa_cons (pv 1) (pa_cons (pv 2) pa_nil)))) (pe_tup (pa_cons (pv 3) pa_nil))) (pa_cons (pe_op op_add (pv 2) pe_int) (pa_cons (pe_op op_add (pv 2) pe_int) (pa_cons pe_bl pa_nil))))))))
    pss_nil)
    (pss_cons (ps_set (i := 4) sc__law_with_agains.nd rfl (Or.inl rfl) (pe_tup (pa_cons pe_str (pa_cons (pe_c G__law_set (hr.mono (by first | decide | omega)) (pa_cons (pv 0) (pa_cons (pv 1) pa_nil))) (pa_cons (pe_c G__law_draw (hr.mono (by first | decide | omega)) (pa_cons (pv 0) (pa_cons pe_int pa_nil))) (pa_cons pe_int pa_nil))))))
    (pss_cons (ps_set (i := 5) sc__law_with_agains.nd rfl (Or.inl rfl) (pe_ix (ix_listK (K := K) (by rfl)) (pe_lst (pa_cons pe_str (pa_cons pe_str (pa_cons pe_str pa_nil)))) (pe_c G__law_draw (hr.mono (by first | decide | omega)) (pa_cons (pv 0) (pa_cons pe_int pa_nil))) (fun _ _ => rfl)))
    (pss_one (ps_ret (pe_tup (pa_cons (pe_op (op_catTK (K := K) (by rfl)) (pe_tup (pa_cons (pv 5) pa_nil)) (pe_op (op_repAK (K := K) (by rfl)) (pe_tup (pa_cons (pv 4) pa_nil)) (pv 2))) (pa_cons (pv 2) (pa_cons (pe_op op_add (pe_op op_mul pe_int (pv 2)) pe_int) (pa_cons pe_bl pa_nil)))))))))), ?_⟩
    walk_at "go"
    refine use_draw (n := n + 119) hS (by decide) (by decide) fun c H1 c0 c1 hS1 k1 => ?_
    walk_at "go"
    refine ite2 (fun _ => ?_) (fun _ => ?_)
    · walk_at "go"
      refine use_set (n := n + 112) hA hS1 fun q cs H2 hs hq hS2 k2 => ?_
      walk_at "go"
      refine ⟨by show 4 ≤ sizeLine; decide, rd_newK hS2 fun r H3 ra hr3 eR hS3 k3 => ?_⟩
      walk_at "go"
      refine use_row (n := n + 10) hA (by omega) (by omega) (hS3.mono (by omega)) fun t css H4 hl hsub ht hS4 k4 => ?_
      walk_at "go"
      refine ⟨by show 1 ≤ sizeLine; decide, rd_newK hS4 fun u H5 ua hu eU hS5 k5 => ?_⟩
      obtain ⟨_, xs, e, eT, hxs⟩ := Tp.tupI ht
      cases e
      have lx := hxs.length
      rw [List.length_cons, List.length_map] at lx
      have t3 := TS.kp hS2 k3
      have t4 := TS.kp hS3 k4
      have t5 := TS.kp hS4 k5
      refine rd_catT (SqT.of (t5 _ _ eT)) (SqT.of eU) (fun z => by rw [z] at lx; simp at lx) (by rw [lx, PySem.sizeLine_eq]; show _ + 1 ≤ _; omega) (fun z => by cases z) (fun _ => rd_newK hS5 fun v H6 va hv eV hS6 k6 => ?_)
      walk_at "go"
      refine ⟨by show 4 ≤ sizeLine; decide, rd_newK hS6 fun p H7 pa hp eP hS7 k7 => ?_⟩
      have t6 := TS.kp hS5 k6
      have t7 := TS.kp hS6 k7
      have hag : Tp H3 (.ref r) (dAgain (dSet cs) 0 (.int 0)) := .tup eR (.cons (.str _) (.cons (hq.ts t3) (.cons (.int 0) (.cons (.int 0) .nil))))
      have hval : Tp H7 (.ref v) (.tuple (.str (kS "row") :: (css.map dSet ++ [dAgain (dSet cs) 0 (.int 0)]))) :=
        .tup (t7 _ _ eV) (((hxs.ts (t5.trans (t6.trans t7))).app (.cons (hag.ts (t4.trans (t5.trans (t6.trans t7)))) .nil)))
      have ex := ex_many (al := al) (w := kS "row") (.inl rfl) (exs_app (exs_sets hA hsub) (exs_cons (ex_again (ex_set hA hs) (lo := 0) (hi := .int 0) (f := 1) ⟨by decide, by decide, .inr ⟨0, rfl, by decide, by decide, rfl⟩⟩) exs_nil)) (by rw [List.length_append, List.length_map]; show _ + 1 ≤ _; omega)
      refine k p (.ref v) _ (m + 1) (m + 3) false H7 ?_ eP hval (hS7.mono (by omega)) ((k1.trans k2).trans (k3.trans (k4.trans (k5.trans (k6.trans k7)))))
      refine Ex.case (ex.to rfl ?_ rfl rfl) (by omega) (by simp)
      rw [show m1 1 * 1 = 1 from rfl, m1_pos (by omega)]; omega
    · walk_at "go"
      refine use_set (n := n + 112) hA hS1 fun q cs H2 hs hq hS2 k2 => ?_
      walk_at "go"
      refine use_draw (n := n + 111) hS2 (by decide) (by decide) fun lo H3 l0 l1 hS3 k3 => ?_
      walk_at "go"
      refine ⟨by show 4 ≤ sizeLine; decide, rd_newK hS3 fun r H4 ra hr4 eR hS4 k4 => ?_⟩
      walk_at "go"
      refine ⟨by show 3 ≤ sizeLine; decide, rd_newK hS4 fun t H5 ta ht eT hS5 k5 => ?_⟩
      walk_at "go"
      refine use_draw (n := n + 110) hS5 (by decide) (by decide) fun c H6 c0 c1 hS6 k6 => ?_
      walk_at "go"
      obtain ⟨y, hy, hm⟩ := at_mem (xs := [V.str (kS "row"), .str (kS "any"), .str (kS "all")]) c0 c1
      refine rd_ixl (SqL.of (k6.at ta eT)) hy ?_
      obtain ⟨u, rfl, hu⟩ := pick3 hm
      walk_at "go"
      refine ⟨by show 1 ≤ sizeLine; decide, rd_newK hS6 fun g H7 ga hg eG hS7 k7 => ?_⟩
      walk_at "go"
      refine ⟨by show 1 ≤ sizeLine; decide, rd_newK hS7 fun g2 H8 ga2 hg2 eG2 hS8 k8 => ?_⟩
      walk_at "go"
      refine rd_repA (SqT.of eG2) (by simp) (by omega) (by omega) (by simp) (fun z => by omega) (fun _ => rd_newK hS8 fun g3 H9 ga3 hg3 eG3 hS9 k9 => ?_)
      rw [flat_rep] at eG3
      have hlr : (List.replicate m.toNat (V.ref r)).length = m.toNat := List.length_replicate
      have t9 := TS.kp hS8 k9
      have t8 := TS.kp hS7 k8
      refine rd_catT (SqT.of (t9 _ _ (t8 _ _ eG))) (SqT.of eG3) (by simp) (by rw [hlr, PySem.sizeLine_eq]; show 1 + _ ≤ _; omega) (fun z => by rw [z] at hlr; simp at hlr; omega) (fun _ => rd_newK hS9 fun v H10 va hv eV hS10 k10 => ?_)
      walk_at "go"
      refine rd_i (.inl ⟨by decide, by decide⟩) ?_
      walk_at "go"
      refine ⟨by show 4 ≤ sizeLine; decide, rd_newK hS10 fun p H11 pa hp eP hS11 k11 => ?_⟩
      have t10 := TS.kp hS9 k10
      have t11 := TS.kp hS10 k11
      have hag : Tp H4 (.ref r) (dAgain (dSet cs) lo (.int 1)) := .tup eR (.cons (.str _) (.cons (hq.ts ((TS.kp hS2 k3).trans (TS.kp hS3 k4))) (.cons (.int _) (.cons (.int 1) .nil))))
      have t4 : TS H4 H11 := (TS.kp hS4 k5).trans ((TS.kp hS5 k6).trans ((TS.kp hS6 k7).trans (t8.trans (t9.trans (t10.trans t11)))))
      have hval : Tp H11 (.ref v) (.tuple (.str u :: List.replicate m.toNat (dAgain (dSet cs) lo (.int 1)))) := .tup (t11 _ _ eV) (.cons (.str u) (TpAll.rep (hag.ts t4) _))
      have exr := exs_rep (ex_again (ex_set hA hs) (lo := lo) (hi := .int 1) (f := 1) ⟨by omega, by omega, .inr ⟨1, rfl, by omega, by decide, rfl⟩⟩) m.toNat
      have ex := ex_many hu exr (by rw [List.length_replicate]; omega)
      refine k p (.ref v) _ m (2 * m + 1) false H11 ?_ eP hval (hS11.mono (by omega)) ((k1.trans k2).trans (k3.trans (k4.trans (k5.trans (k6.trans (k7.trans (k8.trans (k9.trans (k10.trans k11)))))))))
      refine Ex.case (ex.to rfl ?_ rfl rfl) (by omega) (by rw [if_tt]; rfl)
      rw [show m1 1 * 1 = 1 from rfl, m1_pos (by omega)]; omega
end

end Cs
namespace Cs
open PySem L2
open PyProof.Rows (envOfC)
def dWrap (ws : List Str) (d : PyData) : PyData := ws.foldl (fun acc w => .tuple [.str w, acc]) d
def sp_wrapped : Sp := fun vs H Q _ => ∃ (a : Addr) (v : V) (d : PyData) (m : Int) (n : Nat), vs = [.ref a, v, .int m] ∧ Tp H v d ∧ 0 ≤ m ∧ m ≤ 4 ∧ Src a (n + 4) H ∧
  ∀ (p : Addr) (x : V) (ws : List Str) (H' : Hp), (ws.length : Int) = m → (∀ w ∈ ws, w = kS "any" ∨ w = kS "row") → H' p = some (.tup [x, .bl (ws.any fun w => decide (w = kS "row"))]) → Tp H' x (dWrap ws d) → Src a n H' → Kp a H H' → Q (.ref p) H'
theorem use_wrapped {a : Addr} {v : V} {d : PyData} {m : Int} {n : Nat} {H : Hp} {Q : VK} {E : XK} (h : Tp H v d) (m0 : 0 ≤ m) (m4 : m ≤ 4) (hS : Src a (n + 4) H)
    (k : ∀ (p : Addr) (x : V) (ws : List Str) (H' : Hp), (ws.length : Int) = m → (∀ w ∈ ws, w = kS "any" ∨ w = kS "row") → H' p = some (.tup [x, .bl (ws.any fun w => decide (w = kS "row"))]) → Tp H' x (dWrap ws d) → Src a n H' → Kp a H H' → Q (.ref p) H') : sp_wrapped [.ref a, v, .int m] H Q E := ⟨a, v, d, m, n, rfl, h, m0, m4, hS, k⟩
section
variable {P : Program} {w : World} {K : PySem.W.Frag} {mg : Str → Option Value} {base : Heap}
theorem ok_wrapped (B : Blt mg) (G__law_draw : Cal P w K mg base 1 "_law_draw" ["_law_source_here", "_law_many"] sp_draw) (F : At K mg "_law_wrapped" s__law_wrapped ["_law_source_here", "_law_part", "_law_depth"]) : Cal P w K mg base 2 "_law_wrapped" ["_law_source_here", "_law_part", "_law_depth"] sp_wrapped := by
  refine F.ok sc__law_wrapped (fun vs H Q E h => ?_) (fun f cdv A outer s H vs Q E hr h => ?_)
  · obtain ⟨a, v, d, m, n, rfl, _⟩ := h
    rfl
  · obtain ⟨a, v, d, m, n, rfl, hd, m0, m4, hS, k⟩ := h
    refine ⟨_, (pss_cons (ps_par (i := 3) (j := 4) (by rfl) sc__law_wrapped.nd rfl rfl (by decide) rfl rfl (pa_cons (pv 1) (pa_cons pe_bl pa_nil)) (by rfl))
    (pss_cons (ps_for PassesOwn.never rfl (pi_range1 (by rfl) B.range (pa_cons (pv 2) pa_nil)) (pg_name (i := 5) sc__law_wrapped.nd rfl (Or.inl rfl))
    (pss_cons (ps_set (i := 6) sc__law_wrapped.nd rfl (Or.inl rfl) (pe_ix (ix_listK (K := K) (by rfl)) (pe_lst (pa_cons pe_str (pa_cons pe_str pa_nil))) (pe_c G__law_draw (hr.mono (by first | decide | omega)) (pa_cons (pv 0) (pa_cons pe_int pa_nil))) (fun _ _ => rfl)))
    (pss_cons (ps_set (i := 4) sc__law_wrapped.nd rfl (Or.inl rfl) (pe_or (pv 4) (pe_one (pe_cmpR op_eq (pv 6) pe_str (nomark _)))))
    (pss_one (ps_set (i := 3) sc__law_wrapped.nd rfl (Or.inl rfl) (pe_tup (pa_cons (pv 6) (pa_cons (pv 3) pa_nil))))))))
    (pss_one (ps_ret (pe_tup (pa_cons (pv 3) (pa_cons (pv 4) pa_nil))))))), ?_⟩
    walk_at "go"
    refine rd_rng1j (by omega) (by omega) ?_
    refine for_range (lo := 0) (n := m.toNat) (fun i σ H' => ∃ (x : V) (ws : List Str) (x5 x6 : Option V), σ = [some (.ref a), some v, some (.int m), some x, some (.bl (ws.any fun w => decide (w = kS "row"))), x5, x6] ∧ ws.length = i ∧ i ≤ 4 ∧ (∀ w ∈ ws, w = kS "any" ∨ w = kS "row") ∧ Tp H' x (dWrap ws d) ∧ Src a (n + (4 - i)) H' ∧ Kp a H H') ?_ ?_ ?_
    · exact ⟨v, [], none, none, rfl, rfl, by omega, by simp, hd, hS, Kp.refl⟩
    · rintro i σ H' hi ⟨x, ws, x5, x6, rfl, hl, i4, hw, hx, hS', kp⟩
      walk_at "go"
      refine ⟨by show 2 ≤ sizeLine; decide, rd_newK hS' fun p H1 pa hp eP hS1 k1 => ?_⟩
      walk_at "go"
      have e4 : n + (4 - i) = n + (4 - (i + 1)) + 1 := by omega
      rw [e4] at hS1
      refine use_draw hS1 (by decide) (by decide) fun c H2 c0 c1 hS2 k2 => ?_
      walk_at "go"
      obtain ⟨y, hy, hm⟩ := at_mem (xs := [V.str (kS "any"), .str (kS "row")]) c0 c1
      refine rd_ixl (SqL.of (k2.at pa eP)) hy ?_
      obtain ⟨u, rfl, hu⟩ : ∃ u : Str, y = .str u ∧ (u = kS "any" ∨ u = kS "row") := by
        simp only [List.mem_cons, List.not_mem_nil, or_false] at hm
        rcases hm with rfl | rfl
        · exact ⟨_, rfl, .inl rfl⟩
        · exact ⟨_, rfl, .inr rfl⟩
      have t2 : TS H' H2 := TS.kp hS' (k1.trans k2)
      walk_at "go"
      refine ite2 (fun h1 => ?_) (fun h1 => ?_)
      · walk_at "go"
        refine ⟨by show 2 ≤ sizeLine; decide, rd_newK hS2 fun q H3 qa hq eQ hS3 k3 => ?_⟩
        refine ⟨.ref q, ws ++ [u], some (.int (0 + (i : Int))), some (.str u), ?_, by rw [List.length_append, hl]; rfl, by omega, ?_, ?_, hS3, kp.trans ((k1.trans k2).trans k3)⟩
        · rw [List.any_append, h1]; rfl
        · intro z hz
          rcases List.mem_append.mp hz with hz | hz
          · exact hw z hz
          · rw [List.mem_singleton.mp hz]; exact hu
        · unfold dWrap
          rw [List.foldl_append]
          exact .tup eQ (.cons (.str _) (.cons (hx.ts (t2.trans (TS.kp hS2 k3))) .nil))
      · walk_at "go"
        refine ⟨by show 2 ≤ sizeLine; decide, rd_newK hS2 fun q H3 qa hq eQ hS3 k3 => ?_⟩
        have h1' : (ws.any fun w => decide (w = kS "row")) = false := by
          cases e : (ws.any fun w => decide (w = kS "row")) with
          | false => rfl
          | true => exact absurd e h1
        refine ⟨.ref q, ws ++ [u], some (.int (0 + (i : Int))), some (.str u), ?_, by rw [List.length_append, hl]; rfl, by omega, ?_, ?_, hS3, kp.trans ((k1.trans k2).trans k3)⟩
        · rw [List.any_append, h1']
          have e : (false || [u].any fun w => decide (w = kS "row")) = decide (V.str u = V.str (kS "row")) := by
            rw [dec_S]; simp
          rw [e]; rfl
        · intro z hz
          rcases List.mem_append.mp hz with hz | hz
          · exact hw z hz
          · rw [List.mem_singleton.mp hz]; exact hu
        · unfold dWrap
          rw [List.foldl_append]
          exact .tup eQ (.cons (.str _) (.cons (hx.ts (t2.trans (TS.kp hS2 k3))) .nil))
    · rintro σ H' ⟨x, ws, x5, x6, rfl, hl, i4, hw, hx, hS', kp⟩
      walk_at "go"
      refine ⟨by show 2 ≤ sizeLine; decide, rd_newK hS' fun q H3 qa hq eQ hS3 k3 => ?_⟩
      walk_at "go"
      exact k q x ws H3 (by omega) hw eQ (hx.ts (TS.kp hS' k3)) (hS3.mono (by omega)) (kp.trans k3)
end

end Cs
namespace Cs
open PySem L2
open PyProof.Rows (envOfC)
theorem use_case {a : Addr} {al : List Nat} {n : Nat} {H : Hp} {Q : VK} {E : XK} (hA : Alp al) (hS : Src a (n + 400) H)
    (k : ∀ (p : Addr) (x : V) (d : PyData) (wide tuples : Int) (bar : Bool) (H' : Hp), CaseOk al d wide tuples bar → H' p = some (.tup [x, .int wide, .int tuples, .bl bar]) → Tp H' x d → Src a n H' → Kp a H H' → Q (.ref p) H') : sp_case [.ref a, .str (S al)] H Q E := ⟨a, al, n, rfl, hA, hS, k⟩
def dNots : Nat → PyData → PyData
  | 0, d => d
  | n + 1, d => .tuple [.str (kS "not"), dNots n d]
theorem ex_nots {al : List Nat} {d : PyData} {p : Bool} (h : Ex al d 1 1 true p) : ∀ n : Nat, ∃ q, Ex al (dNots n d) (n + 1) 1 true q
  | 0 => ⟨p, h⟩
  | n + 1 => by
    obtain ⟨q, e⟩ := ex_nots h n
    exact ⟨false, (ex_not e).to (by omega) rfl rfl rfl⟩
/-- wraps around what is not plain -/
theorem ex_wraps {al : List Nat} {d : PyData} {t : Nat} (h : Ex al d t 1 true false) : ∀ ws : List Str, (∀ w ∈ ws, w = kS "any" ∨ w = kS "row") → ∃ e, dWrap ws.reverse d = e ∧ Ex al e (t + ws.length) 1 (!(ws.any fun w => decide (w = kS "row"))) false
  | [], _ => ⟨d, rfl, h⟩
  | w :: ws, hw => by
    obtain ⟨e, he, ex⟩ := ex_wraps h ws fun x hx => hw x (by simp [hx])
    refine ⟨.tuple [.str w, e], ?_, ?_⟩
    · rw [List.reverse_cons]
      unfold dWrap at he ⊢
      rw [List.foldl_append, he]; rfl
    · have hw0 := hw w (by simp)
      have nb : isBar w = false := by rcases hw0 with rfl | rfl <;> decide +kernel
      have x := ex_many (w := w) (by rcases hw0 with rfl | rfl; exact .inr (.inl rfl); exact .inl rfl) (exs_cons ex exs_nil) (by simp)
      refine x.to (by rw [List.length_cons]; omega) (by decide) ?_ (by simp)
      rw [List.any_cons]
      rcases hw0 with rfl | rfl
      · have a1 : isRow (kS "any") = false := by decide +kernel
        have a2 : decide (kS "any" = kS "row") = false := by decide +kernel
        rw [a1, a2]; simp
      · have a1 : isRow (kS "row") = true := by decide +kernel
        rw [a1]; simp
theorem ex_wrapped {al : List Nat} {d : PyData} {t : Nat} (h : Ex al d t 1 true false) {ws : List Str} (hw : ∀ w ∈ ws, w = kS "any" ∨ w = kS "row") : Ex al (dWrap ws d) (t + ws.length) 1 (!(ws.any fun w => decide (w = kS "row"))) false := by
  obtain ⟨e, he, ex⟩ := ex_wraps h ws.reverse fun x hx => hw x (by simpa using hx)
  rw [List.reverse_reverse] at he
  rw [he]
  refine ex.to (by simp) rfl ?_ rfl
  rw [List.any_reverse]
theorem rd_repcat {K : PySem.W.Frag} {a g1 g2 : Addr} {n : Nat} {H : Hp} {x y : V} {size : Int} {R : VK} (hS : Src a n H) (e1 : H g1 = some (.tup [x])) (e2 : H g2 = some (.tup [y])) (s0 : 0 ≤ size) (s1 : size ≤ 1000)
    (k : ∀ (q : Addr) (H' : Hp), H' q = some (.tup (x :: List.replicate size.toNat y)) → Src a n H' → Kp a H H' → R (.ref q) H') : rRepA K (.ref g2) (.int size) H (fun v H2 => rCatT K (.ref g1) v H2 R) := by
  have main : ∀ (g3 : Addr) (H3 : Hp), H3 g3 = some (.tup (List.replicate size.toNat y)) → Src a n H3 → Kp a H H3 → rCatT K (.ref g1) (.ref g3) H3 R := by
    intro g3 H3 e3 hS3 k3
    have hlr : (List.replicate size.toNat y).length = size.toNat := List.length_replicate
    have e1' := TS.kp hS k3 _ _ e1
    refine rd_catT (SqT.of e1') (SqT.of e3) (by simp) (by rw [hlr, PySem.sizeLine_eq]; show 1 + _ ≤ _; omega) (fun z => ?_) (fun _ => rd_newK hS3 fun q H4 qa hq eQ hS4 k4 => k q H4 eQ hS4 (k3.trans k4))
    refine k g1 H3 ?_ hS3 k3
    rw [z]; exact e1'
  refine rd_repA (SqT.of e2) (by simp) (by omega) s1 (by simp) (fun z => ?_) (fun _ => rd_newK hS fun g3 H3 ga3 hg3 e3 hS3 k3 => ?_)
  · subst z
    exact main g2 H e2 hS Kp.refl
  · rw [flat_rep] at e3
    exact main g3 H3 e3 hS3 k3
section
variable {P : Program} {w : World} {K : PySem.W.Frag} {mg : Str → Option Value} {base : Heap}
theorem ok_case (B : Blt mg) (G__law_draw : Cal P w K mg base 1 "_law_draw" ["_law_source_here", "_law_many"] sp_draw) (G__law_set : Cal P w K mg base 2 "_law_set" ["_law_source_here", "_law_alphabet_here"] sp_set) (G__law_row : Cal P w K mg base 3 "_law_row" ["_law_source_here", "_law_alphabet_here", "_law_many"] sp_row)
    (G__law_with_agains : Cal P w K mg base 4 "_law_with_agains" ["_law_source_here", "_law_alphabet_here", "_law_many"] sp_withag) (G__law_again : Cal P w K mg base 2 "_law_again" ["_law_source_here", "_law_part"] sp_again) (G__law_wrapped : Cal P w K mg base 2 "_law_wrapped" ["_law_source_here", "_law_part", "_law_depth"] sp_wrapped)
    (F : At K mg "_law_case" s__law_case ["_law_source_here", "_law_alphabet_here"]) : Cal P w K mg base 5 "_law_case" ["_law_source_here", "_law_alphabet_here"] sp_case := by
  refine F.ok sc__law_case (fun vs H Q E h => ?_) (fun f cdv A outer s H vs Q E hr h => ?_)
  · obtain ⟨a, al, n, rfl, _⟩ := h
    rfl
  · obtain ⟨a, al, n, rfl, hA, hS, k⟩ := h
    refine ⟨_, (pss_cons (ps_set (i := 2) sc__law_case.nd rfl (Or.inl rfl) (pe_c G__law_draw (hr.mono (by first | decide | omega)) (pa_cons (pv 0) (pa_cons pe_int pa_nil))))
    (pss_cons (ps_set (i := 3) sc__law_case.nd rfl (Or.inl rfl) (pe_op op_add pe_int (pe_c G__law_draw (hr.mono (by first | decide | omega)) (pa_cons (pv 0) (pa_cons pe_int pa_nil)))))
    (pss_cons (ps_if (pt_cmpR op_gt (pv 2) pe_int (nomark _))
    (pss_one (ps_ret (pe_c G__law_with_agains (hr.mono (by first | decide | omega)) (pa_cons (pv 0) (pa_cons (pv 1) (pa_cons (pv 3) pa_nil))))))
    pss_nil)
    (pss_cons (ps_if (pt_cmpR op_eq (pv 2) pe_int (nomark _))
    (pss_cons (ps_set (i := 4) sc__law_case.nd rfl (Or.inl rfl) (pe_ix (ix_listK (K := K) (by rfl)) (pe_lst (pa_cons pe_str (pa_cons pe_str (pa_cons pe_str pa_nil)))) (pe_c G__law_draw (hr.mono (by first | decide | omega)) (pa_cons (pv 0) (pa_cons pe_int pa_nil))) (fun _ _ => rfl)))
    (pss_one (ps_ret (pe_tup (pa_cons (pe_op (op_catTK (K := K) (by rfl)) (pe_tup (pa_cons (pv 4) pa_nil)) (pe_slice (sl_tupAK (K := K) (by rfl)) (pe_c G__law_row (hr.mono (by first | decide | omega)) (pa_cons (pv 0) (pa_cons (pv 1) (pa_cons (pv 3) pa_nil)))) (po_some pe_int) po_none)) (pa_cons (pv 3) (pa_cons (pe_op op_add (pv 3) pe_int) (pa_cons pe_bl pa_nil))))))))
    pss_nil)
    (pss_cons (ps_if (pt_cmpR op_eq (pv 2) pe_int (nomark _))
    (pss_cons (ps_set (i := 5) sc__law_case.nd rfl (Or.inl rfl) (pe_op op_add pe_int (pe_c G__law_draw (hr.mono (by first | decide | omega)) (pa_cons (pv 0) (pa_cons pe_int pa_nil)))))
    (pss_cons (ps_asg (pe_c G__law_again (hr.mono (by first | decide | omega)) (pa_cons (pv 0) (pa_cons (pe_c G__law_row (hr.mono (by first | decide | omega)) (pa_cons (pv 0) (pa_cons (pv 1) (pa_cons (pv 5) pa_nil)))) pa_nil))) (pg_tupK (K := K) (by rfl) (by rfl) (pgs_cons (pg_name (i := 6) sc__law_case.nd rfl (Or.inl rfl)) (pgs_cons (pg_name (i := 7) sc__law_case.nd rfl (Or.inl rfl)) pgs_nil))))
    (pss_one (ps_ret (pe_tup (pa_cons (pv 6) (pa_cons (pe_op op_mul (pv 5) (pv 7)) (pa_cons (pe_op op_add (pv 5) pe_int) (pa_cons pe_bl pa_nil)))))))))
    pss_nil)
    (pss_cons (ps_if (pt_cmpR op_eq (pv 2) pe_int (nomark _))
    (pss_cons (ps_asg (pe_c G__law_again (hr.mono (by first | decide | omega)) (pa_cons (pv 0) (pa_cons (pe_c G__law_set (hr.mono (by first | decide | omega)) (pa_cons (pv 0) (pa_cons (pv 1) pa_nil))) pa_nil))) (pg_tupK (K := K) (by rfl) (by rfl) (pgs_cons (pg_name (i := 8) sc__law_case.nd rfl (Or.inl rfl)) (pgs_cons (pg_name (i := 9) sc__law_case.nd rfl (Or.inl rfl)) pgs_nil))))
    (pss_cons (ps_asg (pe_c G__law_again (hr.mono (by first | decide | omega)) (pa_cons (pv 0) (pa_cons (pe_tup (pa_cons pe_str (pa_cons (pv 8) (pa_cons (pe_tup (pa_cons pe_str pa_nil)) pa_nil)))) pa_nil))) (pg_tupK (K := K) (by rfl) (by rfl) (pgs_cons (pg_name (i := 6) sc__law_case.nd rfl (Or.inl rfl)) (pgs_cons (pg_name (i := 10) sc__law_case.nd rfl (Or.inl rfl)) pgs_nil))))
    (pss_one (ps_ret (pe_tup (pa_cons (pv 6) (pa_cons (pe_op op_mul (pe_op op_add (pv 9) pe_int) (pv 10)) (pa_cons pe_int (pa_cons pe_bl pa_nil)))))))))
    pss_nil)
    (pss_cons (ps_if (pt_cmpR op_eq (pv 2) pe_int (nomark _))
    (pss_cons (ps_set (i := 4) sc__law_case.nd rfl (Or.inl rfl) (pe_ix (ix_listK (K := K) (by rfl)) (pe_lst (pa_cons pe_str (pa_cons pe_str (pa_cons pe_str pa_nil)))) (pe_c G__law_draw (hr.mono (by first | decide | omega)) (pa_cons (pv 0) (pa_cons pe_int pa_nil))) (fun _ _ => rfl)))
    (pss_cons (ps_set (i := 5) sc__law_case.nd rfl (Or.inl rfl) (pe_c G__law_draw (hr.mono (by first | decide | omega)) (pa_cons (pv 0) (pa_cons pe_int pa_nil))))
    (pss_cons (ps_set (i := 8) sc__law_case.nd rfl (Or.inl rfl) (pe_ix (ix_listK (K := K) (by rfl)) (pe_lst (pa_cons (pe_tup (pa_cons pe_str pa_nil)) (pa_cons (pe_tup (pa_cons pe_str pa_nil)) pa_nil))) (pe_c G__law_draw (hr.mono (by first | decide | omega)) (pa_cons (pv 0) (pa_cons pe_int pa_nil))) (fun _ _ => rfl)))
    (pss_one (ps_ret (pe_tup (pa_cons (pe_op (op_catTK (K := K) (by rfl)) (pe_tup (pa_cons (pv 4) pa_nil)) (pe_op (op_repAK (K := K) (by rfl)) (pe_tup (pa_cons (pv 8) pa_nil)) (pv 5))) (pa_cons (pe_callB (call_max2 rfl) (by rfl) B.max (by decide +kernel) (pa_cons pe_int (pa_cons (pv 5) pa_nil))) (pa_cons (pe_op op_add (pv 5) pe_int) (pa_cons pe_bl pa_nil))))))))))
    pss_nil)
    (pss_cons (ps_if (pt_cmpR op_eq (pv 2) pe_int (nomark _))
    (pss_cons (ps_par (i := 6) (j := 5) (by rfl) sc__law_case.nd rfl rfl (by decide) rfl rfl (pa_cons (pe_c G__law_set (hr.mono (by first | decide | omega)) (pa_cons (pv 0) (pa_cons (pv 1) pa_nil))) (pa_cons (pe_op op_add pe_int (pe_c G__law_draw (hr.mono (by first | decide | omega)) (pa_cons (pv 0) (pa_cons pe_int pa_nil)))) pa_nil)) (by rfl))
    (pss_cons (ps_for PassesOwn.never rfl (pi_range1 (by rfl) B.range (pa_cons (pv 5) pa_nil)) (pg_name (i := 11) sc__law_case.nd rfl (Or.inl rfl))
    (pss_one (ps_set (i := 6) sc__law_case.nd rfl (Or.inl rfl) (pe_tup (pa_cons pe_str (pa_cons (pv 6) pa_nil))))))
    (pss_one (ps_ret (pe_tup (pa_cons (pv 6) (pa_cons pe_int (pa_cons (pe_op op_add (pv 5) pe_int) (pa_cons pe_bl pa_nil)))))))))
    pss_nil)
    (pss_cons (ps_set (i := 8) sc__law_case.nd rfl (Or.inl rfl) (pe_ix (ix_listK (K := K) (by rfl)) (pe_lst (pa_cons (pe_tup (pa_cons pe_str (pa_cons (pe_c G__law_set (hr.mono (by first | decide | omega)) (pa_cons (pv 0) (pa_cons (pv 1) pa_nil))) pa_nil))) (pa_cons (pe_tup (pa_cons pe_str (pa_cons (pe_c G__law_set (hr.mono (by first | decide | omega)) (pa_cons (pv 0) (pa_cons (pv 1) pa_nil))) pa_nil))) pa_nil))) (pe_c G__law_draw (hr.mono (by first | decide | omega)) (pa_cons (pv 0) (pa_cons pe_int pa_nil))) (fun _ _ => rfl)))
    (pss_cons (ps_set (i := 12) sc__law_case.nd rfl (Or.inl rfl) (pe_c G__law_draw (hr.mono (by first | decide | omega)) (pa_cons (pv 0) (pa_cons pe_int pa_nil))))
    (pss_cons (ps_asg (pe_c G__law_wrapped (hr.mono (by first | decide | omega)) (pa_cons (pv 0) (pa_cons (pv 8) (pa_cons (pv 12) pa_nil)))) (pg_tupK (K := K) (by rfl) (by rfl) (pgs_cons (pg_name (i := 6) sc__law_case.nd rfl (Or.inl rfl)) (pgs_cons (pg_name (i := 13) sc__law_case.nd rfl (Or.inl rfl)) pgs_nil))))
    (pss_cons (ps_if (pt_cmpR op_eq (pe_c G__law_draw (hr.mono (by first | decide | omega)) (pa_cons (pv 0) (pa_cons pe_int pa_nil))) pe_int (nomark _))
    (pss_one (ps_ret (pe_tup (pa_cons (pe_tup (pa_cons pe_str (pa_cons (pv 6) (pa_cons pe_int (pa_cons pe_int pa_nil))))) (pa_cons pe_int (pa_cons (pe_op op_add (pv 12) pe_int) (pa_cons pe_bl pa_nil)))))))
    pss_nil)
    (pss_one (ps_ret (pe_tup (pa_cons (pv 6) (pa_cons pe_int (pa_cons (pe_op op_add (pv 12) pe_int) (pa_cons (pv 13) pa_nil))))))))))))))))))), ?_⟩
    walk_at "go"
    refine use_draw (n := n + 399) hS (by decide) (by decide) fun way H1 w0 w1 hS1 k1 => ?_
    walk_at "go"
    refine use_draw (n := n + 398) hS1 (by decide) (by decide) fun many0 H2 m0 m1' hS2 k2 => ?_
    obtain ⟨many, hmany⟩ : ∃ many : Int, many = 7 + many0 := ⟨_, rfl⟩
    walk_at "go"
    rw [← hmany]
    have k02 := k1.trans k2
    refine ite2 (fun _ => ?_) (fun _ => ?_)
    · walk_at "go"
      refine use_withag (n := n) hA (by omega) (by omega) (hS2.mono (by omega)) fun p x d wide tuples bar H' hc eP hx hS' k' => ?_
      exact k p x d wide tuples bar H' hc eP hx hS' (k02.trans k')
    walk_at "go"
    refine ite2 (fun _ => ?_) (fun _ => ?_)
    · -- a row, any or all of sets
      walk_at "go"
      refine ⟨by show 3 ≤ sizeLine; decide, rd_newK hS2 fun t H3 ta ht eT hS3 k3 => ?_⟩
      walk_at "go"
      refine use_draw (n := n + 397) hS3 (by decide) (by decide) fun c H4 c0 c1 hS4 k4 => ?_
      walk_at "go"
      obtain ⟨y, hy, hm⟩ := at_mem (xs := [V.str (kS "row"), .str (kS "any"), .str (kS "all")]) c0 c1
      refine rd_ixl (SqL.of (k4.at ta eT)) hy ?_
      obtain ⟨u, rfl, hu⟩ := pick3 hm
      walk_at "go"
      refine ⟨by show 1 ≤ sizeLine; decide, rd_newK hS4 fun g H5 ga hg eG hS5 k5 => ?_⟩
      walk_at "go"
      refine use_row (n := n) hA (by omega) (by omega) (hS5.mono (by omega)) fun r css H6 hl hsub hrr hS6 k6 => ?_
      obtain ⟨_, xs, e, eR, hxs⟩ := Tp.tupI hrr
      cases e
      cases hxs with
      | @cons v0 xs' _ _ _ hxs =>
        have lx := hxs.length
        rw [List.length_map] at lx
        walk_at "go"
        refine rd_sla (SqT.of eR) (fun z => ?_) (fun _ => ?_)
        · exfalso
          have z1 := z.1
          have e : HT.sIx (v0 :: xs').length 0 (some 1) = 1 := by
            show HT.sIx (v0 :: xs').length 0 (some ((1 : Nat) : Int)) = 1
            rw [HT.sIx_nat, List.length_cons]; omega
          omega
        rw [cut1]
        refine rd_newK hS6 fun g2 H7 ga2 hg2 eG2 hS7 k7 => ?_
        have t6 := TS.kp hS5 k6
        have t7 := TS.kp hS6 k7
        refine rd_catT (SqT.of (t7 _ _ (t6 _ _ eG))) (SqT.of eG2) (by simp) (by rw [lx, PySem.sizeLine_eq]; show 1 + _ ≤ _; omega) (fun z => by rw [z] at lx; simp at lx; omega) (fun _ => rd_newK hS7 fun v H8 va hv eV hS8 k8 => ?_)
        walk_at "go"
        refine ⟨by show 4 ≤ sizeLine; decide, rd_newK hS8 fun p H9 pa hp eP hS9 k9 => ?_⟩
        have t8 := TS.kp hS7 k8
        have t9 := TS.kp hS8 k9
        have hval : Tp H9 (.ref v) (.tuple (.str u :: css.map dSet)) := .tup (t9 _ _ eV) (.cons (.str u) (hxs.ts (t7.trans (t8.trans t9))))
        have ex := ex_many hu (exs_sets hA hsub) (by rw [List.length_map]; omega)
        refine k p (.ref v) _ many (many + 1) false H9 ?_ eP hval hS9 (k02.trans (k3.trans (k4.trans (k5.trans (k6.trans (k7.trans (k8.trans k9)))))))
        refine Ex.case (ex.to rfl ?_ rfl rfl) (by omega) (by rw [if_tt]; rfl)
        rw [m1_pos (by omega)]; omega
    walk_at "go"
    refine ite2 (fun _ => ?_) (fun _ => ?_)
    · -- an again of a row
      walk_at "go"
      refine use_draw (n := n + 397) hS2 (by decide) (by decide) fun z0 H3 z1 z2 hS3 k3 => ?_
      obtain ⟨size, hsize⟩ : ∃ size : Int, size = 1 + z0 := ⟨_, rfl⟩
      walk_at "go"
      rw [← hsize]
      refine use_row (n := n + 3) hA (by omega) (by omega) (hS3.mono (by omega)) fun r css H4 hl hsub hrr hS4 k4 => ?_
      walk_at "go"
      refine use_again (n := n) hrr hS4 fun p0 q lo fac hi H5 hag eP0 hq hS5 k5 => ?_
      walk_at "go"
      refine rd_gtup (SqT.of eP0) rfl ?_
      walk_at "go"
      refine rd_i (.inl ⟨by omega, by omega⟩) ?_
      walk_at "go"
      refine ⟨by show 4 ≤ sizeLine; decide, rd_newK hS5 fun p H6 pa hp eP hS6 k6 => ?_⟩
      have ex := ex_again (ex_many (w := kS "row") (.inl rfl) (exs_sets hA hsub) (by rw [List.length_map]; omega)) hag
      refine k p (.ref q) _ (size * fac) (size + 2) false H6 ?_ eP (hq.ts (TS.kp hS5 k6)) hS6 (k02.trans (k3.trans (k4.trans (k5.trans k6))))
      have ep : isBar (kS "row") = false := by decide +kernel
      refine Ex.case (ex.to rfl ?_ (by rw [ep]; rfl) rfl) (by omega) rfl
      rw [m1_pos (v := (css.length : Int)) (by omega), m1_pos (by omega)]
      rw [show ((css.length : Nat) : Int) = size by omega]
    walk_at "go"
    refine ite2 (fun _ => ?_) (fun _ => ?_)
    · -- an again within an again
      walk_at "go"
      refine use_set (n := n + 391) hA hS2 fun q0 cs H3 hs hq0 hS3 k3 => ?_
      walk_at "go"
      refine use_again (n := n + 388) hq0 hS3 fun p1 q1 lo1 f1 hi1 H4 hag1 eP1 hq1 hS4 k4 => ?_
      walk_at "go"
      refine rd_gtup (SqT.of eP1) rfl ?_
      walk_at "go"
      refine ⟨by show 1 ≤ sizeLine; decide, rd_newK hS4 fun r H5 ra hr5 eR hS5 k5 => ?_⟩
      walk_at "go"
      refine ⟨by show 3 ≤ sizeLine; decide, rd_newK hS5 fun t H6 ta ht eT hS6 k6 => ?_⟩
      walk_at "go"
      have t5 := TS.kp hS4 k5
      have t6 := TS.kp hS5 k6
      have hin : Tp H6 (.ref t) (.tuple [.str (kS "any"), dAgain (dSet cs) lo1 hi1, .tuple [.str (kS "row")]]) := .tup eT (.cons (.str _) (.cons (hq1.ts (t5.trans t6)) (.cons (.tup (t6 _ _ eR) (.cons (.str _) .nil)) .nil)))
      refine use_again (n := n + 385) hin hS6 fun p2 q2 lo2 f2 hi2 H7 hag2 eP2 hq2 hS7 k7 => ?_
      walk_at "go"
      refine rd_gtup (SqT.of eP2) rfl ?_
      walk_at "go"
      have b1 := hag1.pos
      have b2 := hag2.pos
      have c2 : f2 ≤ 5 := by
        obtain ⟨_, h4, ⟨_, rfl⟩ | ⟨m, _, _, h5, rfl⟩⟩ := hag2
        · omega
        · unfold m1; split <;> omega
      refine rd_i (.inr ⟨by omega, by omega⟩) ?_
      walk_at "go"
      refine ⟨by show 4 ≤ sizeLine; decide, rd_newK hS7 fun p H8 pa hp eP hS8 k8 => ?_⟩
      have er : Ex al (.tuple [.str (kS "row")]) 1 1 true true := (ex_many (w := kS "row") (.inl rfl) exs_nil (by decide)).to rfl rfl (by decide +kernel) (by decide +kernel)
      have ex := ex_again (ex_many (w := kS "any") (.inr (.inl rfl)) (exs_cons (ex_again (ex_set hA hs) hag1) (exs_cons er exs_nil)) (by simp)) hag2
      refine k p (.ref q2) _ ((f1 + 1) * f2) 5 false H8 ?_ eP (hq2.ts (TS.kp hS7 k8)) (hS8.mono (by omega)) (k02.trans (k3.trans (k4.trans (k5.trans (k6.trans (k7.trans k8))))))
      have ep : isBar (kS "any") = false := by decide +kernel
      refine Ex.case (ex.to rfl ?_ (by rw [ep]; rfl) rfl) (by omega) rfl
      rw [show m1 1 * f1 + (1 + 0) = f1 + 1 by rw [show m1 1 = 1 from rfl]; omega, m1_pos (v := f1 + 1) (by omega), m1_pos (v := f1 + 1) (by omega)]
    walk_at "go"
    refine ite2 (fun _ => ?_) (fun _ => ?_)
    · -- empty rows and anys
      walk_at "go"
      refine ⟨by show 3 ≤ sizeLine; decide, rd_newK hS2 fun t H3 ta ht eT hS3 k3 => ?_⟩
      walk_at "go"
      refine use_draw (n := n + 397) hS3 (by decide) (by decide) fun c H4 c0 c1 hS4 k4 => ?_
      walk_at "go"
      obtain ⟨y, hy, hm⟩ := at_mem (xs := [V.str (kS "row"), .str (kS "any"), .str (kS "all")]) c0 c1
      refine rd_ixl (SqL.of (k4.at ta eT)) hy ?_
      obtain ⟨u, rfl, hu⟩ := pick3 hm
      walk_at "go"
      refine use_draw (n := n + 396) hS4 (by decide) (by decide) fun size H5 s0 s1 hS5 k5 => ?_
      walk_at "go"
      refine ⟨by show 1 ≤ sizeLine; decide, rd_newK hS5 fun r1 H6 ra1 hr1 eR1 hS6 k6 => ?_⟩
      walk_at "go"
      refine ⟨by show 1 ≤ sizeLine; decide, rd_newK hS6 fun r2 H7 ra2 hr2 eR2 hS7 k7 => ?_⟩
      walk_at "go"
      refine ⟨by show 2 ≤ sizeLine; decide, rd_newK hS7 fun g0 H8 ga0 hg0 eG0 hS8 k8 => ?_⟩
      walk_at "go"
      refine use_draw (n := n + 395) hS8 (by decide) (by decide) fun c H9 c0 c1 hS9 k9 => ?_
      walk_at "go"
      have t6 := TS.kp hS5 k6
      have t7 := TS.kp hS6 k7
      have t8 := TS.kp hS7 k8
      have t9 := TS.kp hS8 k9
      obtain ⟨y, hy, hm⟩ := at_mem (xs := [V.ref r1, .ref r2]) c0 c1
      refine rd_ixl (SqL.of (k9.at ga0 eG0)) hy ?_
      obtain ⟨din, hdin, exin⟩ : ∃ din, Tp H9 y din ∧ Ex al din 1 1 true true := by
        simp only [List.mem_cons, List.not_mem_nil, or_false] at hm
        rcases hm with rfl | rfl
        · exact ⟨.tuple [.str (kS "row")], .tup (t9 _ _ (t8 _ _ (t7 _ _ eR1))) (.cons (.str _) .nil), (ex_many (w := kS "row") (.inl rfl) exs_nil (by decide)).to rfl rfl (by decide +kernel) (by decide +kernel)⟩
        · exact ⟨.tuple [.str (kS "any")], .tup (t9 _ _ (t8 _ _ eR2)) (.cons (.str _) .nil), (ex_many (w := kS "any") (.inr (.inl rfl)) exs_nil (by decide)).to rfl rfl (by decide +kernel) (by decide +kernel)⟩
      walk_at "go"
      refine ⟨by show 1 ≤ sizeLine; decide, rd_newK hS9 fun g1 H10 ga1 hg1 eG1 hS10 k10 => ?_⟩
      walk_at "go"
      refine ⟨by show 1 ≤ sizeLine; decide, rd_newK hS10 fun g2 H11 ga2 hg2 eG2 hS11 k11 => ?_⟩
      walk_at "go"
      have t10 := TS.kp hS9 k10
      have t11 := TS.kp hS10 k11
      refine rd_repcat hS11 (t11 _ _ eG1) eG2 s0 (by omega) fun q H12 eQ hS12 k12 => ?_
      walk_at "go"
      refine ⟨1, size, rfl, ?_⟩
      walk_at "go"
      refine ⟨by show 4 ≤ sizeLine; decide, rd_newK hS12 fun p H13 pa hp eP hS13 k13 => ?_⟩
      have t12 := TS.kp hS11 k12
      have t13 := TS.kp hS12 k13
      have hval : Tp H13 (.ref q) (.tuple (.str u :: List.replicate size.toNat din)) := .tup (t13 _ _ eQ) (.cons (.str u) (TpAll.rep (hdin.ts (t10.trans (t11.trans (t12.trans t13)))) _))
      have ex := ex_many hu (exs_rep exin size.toNat) (by rw [List.length_replicate]; omega)
      refine k p (.ref q) _ (if size > 1 then size else 1) (size + 1) false H13 ?_ eP hval (hS13.mono (by omega)) (k02.trans (k3.trans (k4.trans (k5.trans (k6.trans (k7.trans (k8.trans (k9.trans (k10.trans (k11.trans (k12.trans k13)))))))))))
      refine Ex.case (ex.to rfl ?_ rfl rfl) (by omega) (by rw [if_tt]; rfl)
      rw [show ((size.toNat : Nat) : Int) * 1 = size by omega]; rfl
    walk_at "go"
    refine ite2 (fun _ => ?_) (fun _ => ?_)
    · -- nots around each other
      walk_at "go"
      refine use_set (n := n + 391) hA hS2 fun q0 cs H3 hs hq0 hS3 k3 => ?_
      walk_at "go"
      refine use_draw (n := n + 390) hS3 (by decide) (by decide) fun z0 H4 z1 z2 hS4 k4 => ?_
      obtain ⟨size, hsize⟩ : ∃ size : Int, size = 15 + z0 := ⟨_, rfl⟩
      walk_at "go"
      rw [← hsize]
      refine rd_rng1j (by omega) (by omega) ?_
      refine for_range (lo := 0) (n := size.toNat) (fun i σ H' => ∃ (x : V) (x11 : Option V), σ = [some (.ref a), some (.str (S al)), some (.int way), some (.int many), none, some (.int size), some x, none, none, none, none, x11, none, none] ∧ Tp H' x (dNots i (dSet cs)) ∧ Src a n H' ∧ Kp a H H') ?_ ?_ ?_
      · exact ⟨.ref q0, none, rfl, hq0.ts (TS.kp hS3 k4), hS4.mono (by omega), k02.trans (k3.trans k4)⟩
      · rintro i σ H' hi ⟨x, x11, rfl, hx, hS', kp⟩
        walk_at "go"
        refine ⟨by show 2 ≤ sizeLine; decide, rd_newK hS' fun q H5 qa hq eQ hS5 k5 => ?_⟩
        exact ⟨.ref q, some (.int (0 + (i : Int))), rfl, .tup eQ (.cons (.str _) (.cons (hx.ts (TS.kp hS' k5)) .nil)), hS5, kp.trans k5⟩
      · rintro σ H' ⟨x, x11, rfl, hx, hS', kp⟩
        walk_at "go"
        refine ⟨by show 4 ≤ sizeLine; decide, rd_newK hS' fun p H5 pa hp eP hS5 k5 => ?_⟩
        obtain ⟨qq, ex⟩ := ex_nots (ex_set hA hs) size.toNat
        exact k p x _ 1 (size + 1) false H5 (Ex.case ex (by omega) rfl) eP (hx.ts (TS.kp hS' k5)) hS5 (kp.trans k5)
    · walk_at "go"
      refine use_set (n := n + 391) hA hS2 fun q1 cs1 H3 hs1 hq1 hS3 k3 => ?_
      walk_at "go"
      refine ⟨by show 2 ≤ sizeLine; decide, rd_newK hS3 fun r1 H4 ra1 hr1 eR1 hS4 k4 => ?_⟩
      walk_at "go"
      refine use_set (n := n + 384) hA hS4 fun q2 cs2 H5 hs2 hq2 hS5 k5 => ?_
      walk_at "go"
      refine ⟨by show 2 ≤ sizeLine; decide, rd_newK hS5 fun r2 H6 ra2 hr2 eR2 hS6 k6 => ?_⟩
      walk_at "go"
      refine ⟨by show 2 ≤ sizeLine; decide, rd_newK hS6 fun g0 H7 ga0 hg0 eG0 hS7 k7 => ?_⟩
      walk_at "go"
      refine use_draw (n := n + 383) hS7 (by decide) (by decide) fun c H8 c0 c1 hS8 k8 => ?_
      walk_at "go"
      have t4 := TS.kp hS3 k4
      have t5 := TS.kp hS4 k5
      have t6 := TS.kp hS5 k6
      have t7 := TS.kp hS6 k7
      have t8 := TS.kp hS7 k8
      obtain ⟨y, hy, hm⟩ := at_mem (xs := [V.ref r1, .ref r2]) c0 c1
      refine rd_ixl (SqL.of (k8.at ga0 eG0)) hy ?_
      have i1 : Tp H4 (.ref r1) (.tuple [.str (kS "not"), dSet cs1]) := .tup eR1 (.cons (.str _) (.cons (hq1.ts t4) .nil))
      have i2 : Tp H6 (.ref r2) (.tuple [.str (kS "all"), dSet cs2]) := .tup eR2 (.cons (.str _) (.cons (hq2.ts t6) .nil))
      obtain ⟨din, hdin, exin⟩ : ∃ din, Tp H8 y din ∧ Ex al din 2 1 true false := by
        simp only [List.mem_cons, List.not_mem_nil, or_false] at hm
        rcases hm with rfl | rfl
        · exact ⟨_, i1.ts (t5.trans (t6.trans (t7.trans t8))), (ex_not (ex_set hA hs1)).to rfl rfl rfl rfl⟩
        · exact ⟨_, i2.ts (t7.trans t8), (ex_many (w := kS "all") (.inr (.inr rfl)) (exs_cons (ex_set hA hs2) exs_nil) (by simp)).to rfl rfl (by decide +kernel) (by decide +kernel)⟩
      walk_at "go"
      refine use_draw (n := n + 382) hS8 (by decide) (by decide) fun depth H9 d0 d1 hS9 k9 => ?_
      walk_at "go"
      refine use_wrapped (n := n + 378) (hdin.ts (TS.kp hS8 k9)) d0 (by omega) hS9 fun p0 x ws H10 hl hw eP0 hx hS10 k10 => ?_
      walk_at "go"
      refine rd_gtup (SqT.of eP0) rfl ?_
      walk_at "go"
      refine use_draw (n := n + 377) hS10 (by decide) (by decide) fun c3 H11 c30 c31 hS11 k11 => ?_
      walk_at "go"
      have t11 := TS.kp hS10 k11
      have ex := ex_wrapped exin hw
      have kk : Kp a H H11 := k02.trans (k3.trans (k4.trans (k5.trans (k6.trans (k7.trans (k8.trans (k9.trans (k10.trans k11))))))))
      refine ite2 (fun _ => ?_) (fun _ => ?_)
      · walk_at "go"
        refine ⟨by show 4 ≤ sizeLine; decide, rd_newK hS11 fun g H12 ga hg eG hS12 k12 => ?_⟩
        walk_at "go"
        refine ⟨by show 4 ≤ sizeLine; decide, rd_newK hS12 fun p H13 pa hp eP hS13 k13 => ?_⟩
        have t12 := TS.kp hS11 k12
        have t13 := TS.kp hS12 k13
        have ag : AgOk 0 (.int 1) 1 := ⟨by decide, by decide, .inr ⟨1, rfl, by decide, by decide, rfl⟩⟩
        exact k p (.ref g) (dAgain (dWrap ws din) 0 (.int 1)) 1 (depth + 3) true H13 (Ex.case ((ex_again ex ag).to rfl (by decide) rfl rfl) (by omega) rfl) eP (.tup (t13 _ _ eG) (.cons (.str _) (.cons (hx.ts (t11.trans (t12.trans t13))) (.cons (.int 0) (.cons (.int 1) .nil))))) (hS13.mono (by omega)) (kk.trans (k12.trans k13))
      · walk_at "go"
        refine ⟨by show 4 ≤ sizeLine; decide, rd_newK hS11 fun p H13 pa hp eP hS13 k13 => ?_⟩
        have t13 := TS.kp hS11 k13
        exact k p x (dWrap ws din) 1 (depth + 2) _ H13 (Ex.case ex (by omega) rfl) eP (hx.ts (t11.trans t13)) (hS13.mono (by omega)) (kk.trans k13)
end

end Cs
namespace Cs
open PySem L2
open PyProof.Rows (envOfC)
def sp_pattern (K : PySem.W.Frag) : Sp := fun vs H Q _ => ∃ (al : List Nat) (v : V) (d : PyData), vs = [.str (S al), v] ∧ al.length ≤ 1000 ∧ Dp K H v d ∧ mN d ≤ 100000 ∧ ∀ H', Same H H' → Q (.bl (mPat al d)) H'
theorem use_pattern {K : PySem.W.Frag} {al : List Nat} {v : V} {d : PyData} {H : Hp} {Q : VK} {E : XK} (hA : al.length ≤ 1000) (h : Dp K H v d) (hN : mN d ≤ 100000) (k : ∀ H', Same H H' → Q (.bl (mPat al d)) H') : sp_pattern K [.str (S al), v] H Q E := ⟨al, v, d, rfl, hA, h, hN, k⟩
section
variable {P : Program} {w : World} {K : PySem.W.Frag} {mg : Str → Option Value} {base : Heap}
theorem ok_pattern (B : Blt mg) (T : PatK mg) (G__is_small_expression : Cal P w K mg base 4 "_is_small_expression" ["alphabet", "value"] (sp_small K)) (Gw : ∀ al n, Cal P w K mg base (n + 2) "_width" ["expression"] (sp_width K al n))
    (F : At K mg "is_pattern" s_is_pattern ["alphabet", "value"]) : Cal P w K mg base 23 "is_pattern" ["alphabet", "value"] (sp_pattern K) := by
  refine F.ok sc_is_pattern (fun vs H Q E h => ?_) (fun f cdv A outer s H vs Q E hr h => ?_)
  · obtain ⟨al, v, d, rfl, _⟩ := h
    rfl
  · obtain ⟨al, v, d, rfl, hA, hd, hN, k⟩ := h
    have G__width := Gw al 20
    refine ⟨_, (pss_one (ps_ret (pe_and (pe_c G__is_small_expression (hr.mono (by first | decide | omega)) (pa_cons (pv 0) (pa_cons (pv 1) pa_nil))) (pe_one (pe_cmpR op_le (pe_c G__width (hr.mono (by first | decide | omega)) (pa_cons (pv 1) pa_nil)) (pe_k T.c_MOST_WIDTH) (nomark _)))))), ?_⟩
    walk_at "go"
    refine use_small hA hd hN fun H1 sm1 => ?_
    walk_at "go"
    cases hL : loopS al 20 [(d, false)] with
    | false =>
      refine iteF ?_
      have e : mPat al d = false := by unfold mPat; rw [hL]; rfl
      rw [e] at k
      exact k _ sm1
    | true =>
      refine iteT ?_
      walk_at "go"
      obtain ⟨hg, hs⟩ := (loopS_iff al 20 [(d, false)]).mp hL
      have g := hg (d, false) (by simp)
      have hT : mT d ≤ 20 := by simpa using hs
      refine use_width (Dp.mono sm1 hd) g.1 (Nat.le_trans (mD_le_mT d) hT) (by omega) fun H2 sm2 => ?_
      walk_at "go"
      have e : mPat al d = decide (mW d ≤ 10) := by unfold mPat; rw [hL]; rfl
      rw [← e]
      exact k _ (L2.Same.trans sm1 sm2)
end

end Cs
namespace Cs
open PySem L2
open PyProof.Rows (envOfC)
/-! the source of draws for one turn: a new list -/
def sp_source (K : PySem.W.Frag) : Sp := fun vs H Q _ => ∃ (a : Addr) (ns : List Int) (k : Int), vs = [.ref a, .int k] ∧ SqL K H a (ns.map V.int) ∧ 0 ≤ k ∧ k < 1000 ∧ ∀ (p : Addr) (H' : Hp), H p = none → Same H H' → Src p (2 ^ 39) H' → Q (.ref p) H'
theorem at_int {ns : List Int} {k : Int} (h0 : 0 ≤ k) (h1 : 0 < ns.length) : ∃ c : Int, atI (ns.map V.int) (k % (((ns.map V.int).length : Nat) : Int)) = some (.int c) := by
  have hl : (ns.map V.int).length = ns.length := List.length_map ..
  have p0 : 0 ≤ k % ((ns.length : Nat) : Int) := Int.emod_nonneg _ (by omega)
  have p1 : k % ((ns.length : Nat) : Int) < ns.length := Int.emod_lt_of_pos _ (by omega)
  obtain ⟨j, hj⟩ : ∃ j : Nat, k % ((ns.length : Nat) : Int) = (j : Int) := ⟨(k % ((ns.length : Nat) : Int)).toNat, by omega⟩
  have hj2 : j < ns.length := by omega
  refine ⟨ns[j], ?_⟩
  rw [hl, hj]
  exact atI_nat (by rw [List.getElem?_map, List.getElem?_eq_getElem hj2]; rfl)
section
variable {P : Program} {w : World} {K : PySem.W.Frag} {mg : Str → Option Value} {base : Heap}
theorem ok_source (B : Blt mg) (F : At K mg "_law_source" s__law_source ["_law_script", "_law_k"]) : Cal P w K mg base 1 "_law_source" ["_law_script", "_law_k"] (sp_source K) := by
  refine F.ok sc__law_source (fun vs H Q E h => ?_) (fun f cdv A outer s H vs Q E hr h => ?_)
  · obtain ⟨a, ns, k, rfl, _⟩ := h
    rfl
  · obtain ⟨a, ns, k, rfl, hS, k0, k1, kk⟩ := h
    refine ⟨_, (pss_cons (ps_set (i := 2) sc__law_source.nd rfl (Or.inl rfl) pe_int)
    (pss_cons (ps_set (i := 3) sc__law_source.nd rfl (Or.inl rfl) pe_int)
    (pss_cons (ps_if (pt_cmpR op_gt (pe_callB (call_len_seqK (K := K) (by rfl)) (by rfl) B.len PySem.boot_len (pa_cons (pv 0) pa_nil)) pe_int (nomark _))
    (pss_one (ps_set (i := 2) sc__law_source.nd rfl (Or.inl rfl) (pe_ix (ix_listK (K := K) (by rfl)) (pv 0) (pe_op op_mod (pv 1) (pe_callB (call_len_seqK (K := K) (by rfl)) (by rfl) B.len PySem.boot_len (pa_cons (pv 0) pa_nil))) (fun _ _ => rfl))))
    pss_nil)
    (pss_cons (ps_if (PW.pt (pw_and (pt_cmpR op_lt (pv 1) (pe_callB (call_len_seqK (K := K) (by rfl)) (by rfl) B.len PySem.boot_len (pa_cons (pv 0) pa_nil)) (nomark _)) (pw_and1 (pt_cmpR op_ge (pv 2) (pe_op op_pow pe_int pe_int) (nomark _)))))
    (pss_one (ps_set (i := 3) sc__law_source.nd rfl (Or.inl rfl) (pv 2)))
    pss_nil)
    (pss_one (ps_ret (pe_lst (pa_cons (pv 3) (pa_cons (pe_op op_add (pe_op op_add (pe_op op_mod (pv 2) pe_int) (pe_op op_mul pe_int (pv 1))) pe_int) (pa_cons pe_int pa_nil)))))))))), ?_⟩
    have fin : ∀ d c : Int, (c % 2147483647 + 7919000 * k + 104729) < 2 ^ 40 ∧ ∀ p, H p = none → Q (.ref p) (upd H p (.lst [.int d, .int (c % 2147483647 + 7919000 * k + 104729), .int 0])) := fun d c => by
      have h0 : 0 ≤ c % 2147483647 := Int.emod_nonneg _ (by decide)
      have h1 : c % 2147483647 < 2147483647 := Int.emod_lt_of_pos _ (by decide)
      refine ⟨by omega, fun p hp => kk p _ hp (fun b o e => by rw [upd_ne (ne_of_none e hp)]; exact e) ⟨d, _, 0, upd_same, by omega, by omega, by omega, by omega⟩⟩
    walk_at "go"
    refine rd_len (.inl hS) ?_
    walk_at "go"
    refine ite2 (fun hd => ?_) (fun hd => ?_)
    · walk_at "go"
      refine rd_len (.inl hS) ?_
      have hl : 0 < ns.length := by
        have := of_decide_eq_true hd
        rw [List.length_map] at this
        omega
      refine rd_i (by show (0 : Int) < _; rw [List.length_map]; omega) ?_
      obtain ⟨c, hc⟩ := at_int k0 hl
      refine rd_ixl hS hc ?_
      walk_at "go"
      refine rd_len (.inl hS) ?_
      walk_at "go"
      refine ite2 (fun hd2 => ?_) (fun hd2 => ?_)
      · walk_at "go"
        refine rd_i ⟨by decide, by decide, by decide⟩ ?_
        walk_at "go"
        refine ite2 (fun hd3 => ?_) (fun hd3 => ?_)
        · walk_at "go"
          refine rd_i (by decide) ?_
          walk_at "go"
          refine rd_i (.inl (by decide)) ?_
          walk_at "go"
          exact ⟨by show 3 ≤ sizeLine; decide, (fin _ _).2⟩
        · walk_at "go"
          refine rd_i (by decide) ?_
          walk_at "go"
          refine rd_i (.inl (by decide)) ?_
          walk_at "go"
          exact ⟨by show 3 ≤ sizeLine; decide, (fin _ _).2⟩
      · walk_at "go"
        refine rd_i (by decide) ?_
        walk_at "go"
        refine rd_i (.inl (by decide)) ?_
        walk_at "go"
        exact ⟨by show 3 ≤ sizeLine; decide, (fin _ _).2⟩
    · walk_at "go"
      refine rd_len (.inl hS) ?_
      walk_at "go"
      refine ite2 (fun hd2 => ?_) (fun hd2 => ?_)
      · exfalso
        have := of_decide_eq_true hd2
        have hd : ¬ ((0 : Int) < ((ns.map V.int).length : Nat)) := fun z => hd (decide_eq_true z)
        omega
      · walk_at "go"
        refine rd_i (by decide) ?_
        walk_at "go"
        refine rd_i (.inl (by decide)) ?_
        walk_at "go"
        exact ⟨by show 3 ≤ sizeLine; decide, (fin _ _).2⟩
end

end Cs
namespace Cs
open PySem L2
open PyProof.Rows (envOfC)
/-! an alphabet of m distinct characters -/
def allSigns : List Nat := [97, 98, 99, 100, 101, 102, 103, 104, 105, 106, 107, 108, 109, 110, 111, 112, 113, 114, 115, 116, 117, 118, 119, 120, 121, 122, 48, 49, 50, 51, 52, 53, 54, 55, 56, 57, 32, 45, 46, 95]
theorem allSigns_eq : Str.ofString "abcdefghijklmnopqrstuvwxyz0123456789 -." ++ Str.ofString "_" = S allSigns := by decide +kernel
theorem allSigns_nd : allSigns.Nodup := by decide +kernel
def sp_alphabet : Sp := fun vs H Q _ => ∃ (a : Addr) (m : Int) (n : Nat), vs = [.ref a, .int m] ∧ Src a (n + 6) H ∧ 1 ≤ m ∧ m ≤ 6 ∧ ∀ (al : List Nat) (H' : Hp), Alp al → (al.length : Int) = m → Src a n H' → Kp a H H' → Q (.str (S al)) H'
theorem use_alphabet {a : Addr} {m : Int} {n : Nat} {H : Hp} {Q : VK} {E : XK} (h : Src a (n + 6) H) (h0 : 1 ≤ m) (h1 : m ≤ 6) (k : ∀ (al : List Nat) (H' : Hp), Alp al → (al.length : Int) = m → Src a n H' → Kp a H H' → Q (.str (S al)) H') : sp_alphabet [.ref a, .int m] H Q E :=
  ⟨a, m, n, rfl, h, h0, h1, k⟩
theorem perm_erase {α : Type} : ∀ {l : List α} {j : Nat} {x : α}, l[j]? = some x → l.Perm (x :: l.eraseIdx j)
  | [], _, _, h => by simp at h
  | a :: l, 0, x, h => by
    have e : a = x := by simpa using h
    subst e
    exact List.Perm.refl _
  | a :: l, j + 1, x, h => by
    have ih := perm_erase (l := l) (j := j) (x := x) (by simpa using h)
    exact (List.Perm.cons a ih).trans (List.Perm.swap x a _)
theorem perm_pop {α : Type} {l : List α} {m : List α} {j : Nat} {x : α} (h : l[j]? = some x) : (m ++ l).Perm ((m ++ [x]) ++ l.eraseIdx j) := by
  rw [List.append_assoc]
  exact List.Perm.append_left m (perm_erase h)
section
variable {P : Program} {w : World} {K : PySem.W.Frag} {mg : Str → Option Value} {base : Heap}
theorem ok_alphabet (B : Blt mg) (G__law_draw : Cal P w K mg base 1 "_law_draw" ["_law_source_here", "_law_many"] sp_draw) (F : At K mg "_law_alphabet" s__law_alphabet ["_law_source_here", "_law_many"]) : Cal P w K mg base 2 "_law_alphabet" ["_law_source_here", "_law_many"] sp_alphabet := by
  refine F.ok sc__law_alphabet (fun vs H Q E h => ?_) (fun f cdv A outer s H vs Q E hr h => ?_)
  · obtain ⟨a, m, n, rfl, _⟩ := h
    rfl
  · obtain ⟨a, m, n, rfl, hS, m0, m1, k⟩ := h
    refine ⟨_, (pss_cons (ps_set (i := 2) sc__law_alphabet.nd rfl (Or.inr rfl) (pe_callTy (call_list_str rfl) (by rfl) B.list (by decide +kernel) (pa_cons (pe_op op_add_str pe_str pe_str) pa_nil)))
    (pss_one (ps_ret (pe_joinK (K := K) (by rfl) pe_str (pe_lc (own := [("_law_k", 3)]) rfl sc__law_alphabet.nd (pi_range1 (by rfl) B.range (pa_cons (pv 1) pa_nil)) (blkOk_by (N := ["_law_source_here", "_law_many", "_law_left", "_law_k"]) (sc := defScope s__law_alphabet) (by decide +kernel)) (fun _ _ _ _ _ => (pg_name (i := 3) sc__law_alphabet.nd rfl (Or.inl rfl))) (fun _ _ _ _ _ => pts_nil) (fun _ _ _ _ _ => (pe_bmK (K := K) (by rfl) PySem.F.plainAttrs_list PySem.F.slot_list_pop PySem.F.type_list_pop mt_popAt (pv 2) (pa_cons (pe_c G__law_draw (hr.mono (by first | decide | omega)) (pa_cons (pv 0) (pa_cons (pe_callB (call_len_seqK (K := K) (by rfl)) (by rfl) B.len PySem.boot_len (pa_cons (pv 2) pa_nil)) pa_nil))) pa_nil)))))))), ?_⟩
    walk_at "go"
    refine ⟨_, _, rfl, rfl, by decide +kernel, ?_⟩
    rw [allSigns_eq]
    refine ⟨_, rfl, by decide +kernel, fun L hL => ?_⟩
    walk_at "go"
    refine rd_rng1j (by omega) (by omega) ?_
    intro D hD
    have La : L ≠ a := hS.ne hL
    have DL : D ≠ L := fun z => by rw [z, upd_same] at hD; cases hD
    have hD0 : H D = none := by rw [upd_ne DL] at hD; exact hD
    have Da : D ≠ a := hS.ne hD0
    refine lc_range (lo := 0) (n := m.toNat) (fun i H' => ∃ left made : List Nat, H' L = some (.lst (left.map fun c => V.str (S [c]))) ∧ H' D = some (.lst (made.map fun c => V.str (S [c]))) ∧ (made ++ left).Perm allSigns ∧ made.length = i ∧ i ≤ 6 ∧ Src a (n + (6 - i)) H' ∧ Kp a H H') ?_ ?_ ?_
    · refine ⟨allSigns, [], ?_, upd_same, by simp, rfl, by omega, (hS.lay La).lay Da, (Kp.refl.lay hL).lay hD0⟩
      rw [upd_ne DL.symm, upd_same, signs_S, List.map_map]; rfl
    · rintro i H' hi ⟨left, made, eL, eD, hp, hl, i6, hS', kp⟩
      have hlen : made.length + left.length = 40 := by
        have := hp.length_eq
        rw [List.length_append] at this
        exact this
      walk_at "go"
      refine ⟨rfl, ?_⟩
      walk_at "go"
      refine ⟨.inl ⟨rfl, _, SqL.of eL⟩, ?_⟩
      walk_at "go"
      refine rd_len (.inl (SqL.of eL)) ?_
      walk_at "go"
      have e6 : n + (6 - i) = n + (6 - (i + 1)) + 1 := by omega
      rw [e6] at hS'
      refine use_draw hS' (by rw [List.length_map]; omega) (by rw [List.length_map]; omega) fun d H2 d0 d1 hS2 k2 => ?_
      walk_at "go"
      rw [List.length_map] at d1
      obtain ⟨j, hj⟩ : ∃ j : Nat, d = (j : Int) := ⟨d.toNat, by omega⟩
      subst hj
      have hj2 : j < left.length := by omega
      refine ⟨L, _, _, j, V.str (S [left[j]]), rfl, rfl, k2.at La eL, by omega, by omega, ?_, by rw [List.getElem?_map, List.getElem?_eq_getElem hj2]; rfl, ?_⟩
      · rw [List.length_map]; exact seqIx hj2
      · refine ⟨_, by rw [upd_ne DL]; exact k2.at Da eD, by rw [List.length_map]; show _ < sizeLine; rw [PySem.sizeLine_eq]; omega, left.eraseIdx j, made ++ [left[j]], ?_, ?_, ?_, ?_, by omega, (hS2.lay La).lay Da, ?_⟩
        · rw [upd_ne DL.symm, upd_same]
          congr 2
          exact map_erase _ _ _
        · rw [upd_same, List.map_append]; rfl
        · exact (perm_pop (List.getElem?_eq_getElem hj2)).symm.trans hp
        · rw [List.length_append, hl]; rfl
        · exact ((kp.trans k2).lay hL).lay hD0
    · rintro H' ⟨left, made, eL, eD, hp, hl, i6, hS', kp⟩
      refine ⟨_, D, made.map fun c => S [c], rfl, rfl, .inl (SqL.of (by rw [eD, List.map_map]; rfl)), ?_, ?_⟩
      · rw [sum_signs, List.length_map]
        show made.length + made.length * 0 ≤ _
        omega
      · walk_at "go"
        show Q (.str (Txt.join (Str.ofString "") (made.map fun c => S [c]))) H'
        rw [empty_S, join_signs]
        have nd : (made ++ left).Nodup := (hp.nodup_iff).mpr allSigns_nd
        refine k made H' ⟨(List.nodup_append.mp nd).1, by omega, by omega, fun c hc => ?_⟩ (by omega) (hS'.mono (by omega)) kp
        exact hp.subset (List.mem_append_left _ hc)
end

end Cs
namespace Cs
open PySem L2
open PyProof.Rows (envOfC)
theorem Same.ofKp2 {p : Addr} {H0 H1 H2 : Hp} (n : H0 p = none) (s : Same H0 H1) (k : Kp p H1 H2) : Same H0 H2 := fun b o e => k.at (ne_of_none e n) (s _ _ e)
section
variable {P : Program} {w : World} {K : PySem.W.Frag} {mg : Str → Option Value} {base : Heap}
theorem ok_law (B : Blt mg) (G__law_source : Cal P w K mg base 1 "_law_source" ["_law_script", "_law_k"] (sp_source K)) (G__law_alphabet : Cal P w K mg base 2 "_law_alphabet" ["_law_source_here", "_law_many"] sp_alphabet)
    (G__law_draw : Cal P w K mg base 1 "_law_draw" ["_law_source_here", "_law_many"] sp_draw) (G__law_case : Cal P w K mg base 5 "_law_case" ["_law_source_here", "_law_alphabet_here"] sp_case) (G_is_pattern : Cal P w K mg base 23 "is_pattern" ["alphabet", "value"] (sp_pattern K))
    {f : Addr} {fd : FuncData} (F : Fun K "law" "law" s_law f fd) : FnOk P w K mg base CX0 200 f fd ["_law_script"] (spLaw K) := by
  refine F.ok (k := 199) sc_law (fun vs H Q E h => ?_) (fun cdv A outer s H vs Q E hr h => ?_)
  · obtain ⟨a, ns, rfl, _⟩ := h
    rfl
  · obtain ⟨a, ns, rfl, hS, hlen, k⟩ := h
    refine ⟨_, (pss_cons (ps_for PassesOwn.never rfl (pi_range1 (by rfl) B.range (pa_cons pe_int pa_nil)) (pg_name (i := 1) sc_law.nd rfl (Or.inl rfl))
    (pss_cons (ps_set (i := 2) sc_law.nd rfl (Or.inl rfl) (pe_c G__law_source (hr.mono (by first | decide | omega)) (pa_cons (pv 0) (pa_cons (pv 1) pa_nil))))
    (pss_cons (ps_set (i := 3) sc_law.nd rfl (Or.inl rfl) (pe_c G__law_alphabet (hr.mono (by first | decide | omega)) (pa_cons (pv 2) (pa_cons (pe_op op_add pe_int (pe_c G__law_draw (hr.mono (by first | decide | omega)) (pa_cons (pv 2) (pa_cons pe_int pa_nil)))) pa_nil))))
    (pss_cons (ps_asg (pe_c G__law_case (hr.mono (by first | decide | omega)) (pa_cons (pv 2) (pa_cons (pv 3) pa_nil))) (pg_tupK (K := K) (by rfl) (by rfl) (pgs_cons (pg_name (i := 4) sc_law.nd rfl (Or.inl rfl)) (pgs_cons (pg_name (i := 5) sc_law.nd rfl (Or.inl rfl)) (pgs_cons (pg_name (i := 6) sc_law.nd rfl (Or.inl rfl)) (pgs_cons (pg_name (i := 7) sc_law.nd rfl (Or.inl rfl)) pgs_nil))))))
    (pss_cons (ps_set (i := 8) sc_law.nd rfl (Or.inl rfl) (pe_c G_is_pattern (hr.mono (by first | decide | omega)) (pa_cons (pv 3) (pa_cons (pv 4) pa_nil))))
    (pss_one (ps_if (PW.pt (pw_or (pt_not (pt_val (pe_callB (call_isiK' (K := K) (by rfl)) (by rfl) B.isinstance (by decide +kernel) (pa_cons (pv 8) (pa_cons (pe_ty (T := "bool") B.bool (by decide +kernel)) pa_nil))))) (pw_or1 (pt_cmpR op_ne (pv 8) (pe_and (pe_cmpR op_le (pv 5) pe_int (nomark _)) (pe_and (pe_cmpR op_le (pv 6) pe_int (nomark _)) (pe_one (pe_not (pv 7))))) (nomark _)))))
    (pss_one (ps_ret pe_bl))
    pss_nil)))))))
    (pss_one (ps_ret pe_bl))), ?_⟩
    walk_at "go"
    refine rd_rng1j (by decide) (by decide) ?_
    refine for_range (lo := 0) (n := 8) (fun i σ H' => ∃ x1 x2 x3 x4 x5 x6 x7 x8 : Option V, σ = [some (.ref a), x1, x2, x3, x4, x5, x6, x7, x8] ∧ Same H H') ?_ ?_ ?_
    · exact ⟨_, _, _, _, _, _, _, _, rfl, Same.refl _⟩
    · rintro i σ H0 hi ⟨x1, x2, x3, x4, x5, x6, x7, x8, rfl, sm0⟩
      walk_at "go"
      refine ⟨a, ns, _, rfl, L2.Same.seq sm0 hS, by omega, by omega, fun p H1 hp sm1 hS1 => ?_⟩
      walk_at "go"
      refine use_draw (n := 2 ^ 39 - 1) (hS1.mono (by decide)) (by decide) (by decide) fun m0 H2 m1 m2 hS2 k2 => ?_
      obtain ⟨m, hm⟩ : ∃ m : Int, m = 1 + m0 := ⟨_, rfl⟩
      walk_at "go"
      rw [← hm]
      refine use_alphabet (n := 1000) (hS2.mono (by decide)) (by omega) (by omega) fun al H3 hA hal hS3 k3 => ?_
      walk_at "go"
      refine use_case (n := 100) hA (hS3.mono (by decide)) fun q x d wide tuples bar H4 hc eQ hx hS4 k4 => ?_
      walk_at "go"
      refine rd_gtup (SqT.of eQ) rfl ?_
      walk_at "go"
      have al1000 : al.length ≤ 1000 := by have := hA.hi; omega
      refine use_pattern al1000 (Tp.dp hx) hc.2 fun H5 sm5 => ?_
      have smA : Same H0 H5 := L2.Same.trans (Same.ofKp2 hp sm1 (k2.trans (k3.trans k4))) sm5
      walk_at "go"
      refine rd_isBl ?_
      walk_at "go"
      rw [hc.1]
      refine iteF ?_
      walk_at "go"
      have smZ := L2.Same.trans sm0 smA
      generalize decide (wide ≤ 10) = b1
      cases b1 with
      | false =>
        refine iteF ?_
        walk_at "go"
        refine iteF ?_
        exact ⟨_, _, _, _, _, _, _, _, rfl, smZ⟩
      | true =>
        refine iteT ?_
        walk_at "go"
        generalize decide (tuples ≤ 20) = b2
        cases b2 with
        | false =>
          refine iteF ?_
          walk_at "go"
          refine iteF ?_
          exact ⟨_, _, _, _, _, _, _, _, rfl, smZ⟩
        | true =>
          refine iteT ?_
          walk_at "go"
          cases bar with
          | false =>
            refine iteF ?_
            exact ⟨_, _, _, _, _, _, _, _, rfl, smZ⟩
          | true =>
            refine iteF ?_
            exact ⟨_, _, _, _, _, _, _, _, rfl, smZ⟩
    · rintro σ H' ⟨x1, x2, x3, x4, x5, x6, x7, x8, rfl, sm⟩
      walk_at "go"
      exact k H'
end

end Cs

open PySem PySem.W PyProof.Rows in
set_option maxRecDepth 100000 in
set_option maxHeartbeats 0 in
theorem PySem.Challenge.cw_cutscribe_k02_patterns_at_the_bounds_holds : PySem.Challenge.rw_cutscribe_k02_patterns_at_the_bounds.Holds := by
  w_on; o_law; k_head; (case hw => w_witness2)
  k_fill
  refine Cs.walk_c (st := Cs.s_law) (l := PySem.Challenge.rw_cutscribe_k02_patterns_at_the_bounds) rfl rfl rfl (fun w h Y => PySem.W.kIn_of Y) ?F
  case F =>
    intro w mg h KX G
    have B : Cs.Blt mg := by
      refine' Cs.blt_mk KX G ?z0 ?z1 ?z2 ?z3 ?z4 ?z5 ?z6 ?z7 ?z8 ?z9 ?z10 ?z11 ?z12 ?z13 ?z14 ?z15 ?z16
      (case z0 => k_is)
      (case z1 => k_is)
      (case z2 => k_is)
      (case z3 => k_is)
      (case z4 => k_is)
      (case z5 => k_is)
      (case z6 => k_is)
      (case z7 => k_is)
      (case z8 => k_is)
      (case z9 => k_is)
      (case z10 => k_is)
      (case z11 => k_is)
      (case z12 => k_is)
      (case z13 => k_is)
      (case z14 => k_is)
      (case z15 => k_is)
      (case z16 => k_is)
    have A_is_pattern : Cs.At (L2.KOf KX) mg "is_pattern" Cs.s_is_pattern ["alphabet", "value"] := by
      refine' Cs.at_mk KX G ?a ?l ?c ?k ?b
      (case a => k_is)
      (case l => k_is)
      (case c => k_is)
      (case k => k_is)
      (case b => exact fun _ _ _ _ _ _ us hl => match us, hl with | [_, _], _ => rfl)
    have A__is_small_expression : Cs.At (L2.KOf KX) mg "_is_small_expression" Cs.s__is_small_expression ["alphabet", "value"] := by
      refine' Cs.at_mk KX G ?a ?l ?c ?k ?b
      (case a => k_is)
      (case l => k_is)
      (case c => k_is)
      (case k => k_is)
      (case b => exact fun _ _ _ _ _ _ us hl => match us, hl with | [_, _], _ => rfl)
    have A__is_well_formed : Cs.At (L2.KOf KX) mg "_is_well_formed" Cs.s__is_well_formed ["alphabet", "value"] := by
      refine' Cs.at_mk KX G ?a ?l ?c ?k ?b
      (case a => k_is)
      (case l => k_is)
      (case c => k_is)
      (case k => k_is)
      (case b => exact fun _ _ _ _ _ _ us hl => match us, hl with | [_, _], _ => rfl)
    have A__is_selection : Cs.At (L2.KOf KX) mg "_is_selection" Cs.s__is_selection ["alphabet", "value"] := by
      refine' Cs.at_mk KX G ?a ?l ?c ?k ?b
      (case a => k_is)
      (case l => k_is)
      (case c => k_is)
      (case k => k_is)
      (case b => exact fun _ _ _ _ _ _ us hl => match us, hl with | [_, _], _ => rfl)
    have A__is_range : Cs.At (L2.KOf KX) mg "_is_range" Cs.s__is_range ["low", "high"] := by
      refine' Cs.at_mk KX G ?a ?l ?c ?k ?b
      (case a => k_is)
      (case l => k_is)
      (case c => k_is)
      (case k => k_is)
      (case b => exact fun _ _ _ _ _ _ us hl => match us, hl with | [_, _], _ => rfl)
    have A__is_integer_within : Cs.At (L2.KOf KX) mg "_is_integer_within" Cs.s__is_integer_within ["value", "least", "most"] := by
      refine' Cs.at_mk KX G ?a ?l ?c ?k ?b
      (case a => k_is)
      (case l => k_is)
      (case c => k_is)
      (case k => k_is)
      (case b => exact fun _ _ _ _ _ _ us hl => match us, hl with | [_, _, _], _ => rfl)
    have A__parts : Cs.At (L2.KOf KX) mg "_parts" Cs.s__parts ["expression"] := by
      refine' Cs.at_mk KX G ?a ?l ?c ?k ?b
      (case a => k_is)
      (case l => k_is)
      (case c => k_is)
      (case k => k_is)
      (case b => exact fun _ _ _ _ _ _ us hl => match us, hl with | [_], _ => rfl)
    have A__width : Cs.At (L2.KOf KX) mg "_width" Cs.s__width ["expression"] := by
      refine' Cs.at_mk KX G ?a ?l ?c ?k ?b
      (case a => k_is)
      (case l => k_is)
      (case c => k_is)
      (case k => k_is)
      (case b => exact fun _ _ _ _ _ _ us hl => match us, hl with | [_], _ => rfl)
    have A__law_source : Cs.At (L2.KOf KX) mg "_law_source" Cs.s__law_source ["_law_script", "_law_k"] := by
      refine' Cs.at_mk KX G ?a ?l ?c ?k ?b
      (case a => k_is)
      (case l => k_is)
      (case c => k_is)
      (case k => k_is)
      (case b => exact fun _ _ _ _ _ _ us hl => match us, hl with | [_, _], _ => rfl)
    have A__law_draw : Cs.At (L2.KOf KX) mg "_law_draw" Cs.s__law_draw ["_law_source_here", "_law_many"] := by
      refine' Cs.at_mk KX G ?a ?l ?c ?k ?b
      (case a => k_is)
      (case l => k_is)
      (case c => k_is)
      (case k => k_is)
      (case b => exact fun _ _ _ _ _ _ us hl => match us, hl with | [_, _], _ => rfl)
    have A__law_alphabet : Cs.At (L2.KOf KX) mg "_law_alphabet" Cs.s__law_alphabet ["_law_source_here", "_law_many"] := by
      refine' Cs.at_mk KX G ?a ?l ?c ?k ?b
      (case a => k_is)
      (case l => k_is)
      (case c => k_is)
      (case k => k_is)
      (case b => exact fun _ _ _ _ _ _ us hl => match us, hl with | [_, _], _ => rfl)
    have A__law_set : Cs.At (L2.KOf KX) mg "_law_set" Cs.s__law_set ["_law_source_here", "_law_alphabet_here"] := by
      refine' Cs.at_mk KX G ?a ?l ?c ?k ?b
      (case a => k_is)
      (case l => k_is)
      (case c => k_is)
      (case k => k_is)
      (case b => exact fun _ _ _ _ _ _ us hl => match us, hl with | [_, _], _ => rfl)
    have A__law_row : Cs.At (L2.KOf KX) mg "_law_row" Cs.s__law_row ["_law_source_here", "_law_alphabet_here", "_law_many"] := by
      refine' Cs.at_mk KX G ?a ?l ?c ?k ?b
      (case a => k_is)
      (case l => k_is)
      (case c => k_is)
      (case k => k_is)
      (case b => exact fun _ _ _ _ _ _ us hl => match us, hl with | [_, _, _], _ => rfl)
    have A__law_again : Cs.At (L2.KOf KX) mg "_law_again" Cs.s__law_again ["_law_source_here", "_law_part"] := by
      refine' Cs.at_mk KX G ?a ?l ?c ?k ?b
      (case a => k_is)
      (case l => k_is)
      (case c => k_is)
      (case k => k_is)
      (case b => exact fun _ _ _ _ _ _ us hl => match us, hl with | [_, _], _ => rfl)
    have A__law_wrapped : Cs.At (L2.KOf KX) mg "_law_wrapped" Cs.s__law_wrapped ["_law_source_here", "_law_part", "_law_depth"] := by
      refine' Cs.at_mk KX G ?a ?l ?c ?k ?b
      (case a => k_is)
      (case l => k_is)
      (case c => k_is)
      (case k => k_is)
      (case b => exact fun _ _ _ _ _ _ us hl => match us, hl with | [_, _, _], _ => rfl)
    have A__law_with_agains : Cs.At (L2.KOf KX) mg "_law_with_agains" Cs.s__law_with_agains ["_law_source_here", "_law_alphabet_here", "_law_many"] := by
      refine' Cs.at_mk KX G ?a ?l ?c ?k ?b
      (case a => k_is)
      (case l => k_is)
      (case c => k_is)
      (case k => k_is)
      (case b => exact fun _ _ _ _ _ _ us hl => match us, hl with | [_, _, _], _ => rfl)
    have A__law_case : Cs.At (L2.KOf KX) mg "_law_case" Cs.s__law_case ["_law_source_here", "_law_alphabet_here"] := by
      refine' Cs.at_mk KX G ?a ?l ?c ?k ?b
      (case a => k_is)
      (case l => k_is)
      (case c => k_is)
      (case k => k_is)
      (case b => exact fun _ _ _ _ _ _ us hl => match us, hl with | [_, _], _ => rfl)
    have C_MOST_TUPLES : ∃ u, mg "MOST_TUPLES" = some u ∧ L2.RelV (.int 20) u := by
      refine' Cs.const_mk KX G ?a ?r
      (case a => k_is)
      (case r => exact ⟨_, rfl⟩)
    have C_MOST_WIDTH : ∃ u, mg "MOST_WIDTH" = some u ∧ L2.RelV (.int 10) u := by
      refine' Cs.const_mk KX G ?a ?r
      (case a => k_is)
      (case r => exact ⟨_, rfl⟩)
    have C_MOST_REPEATS : ∃ u, mg "MOST_REPEATS" = some u ∧ L2.RelV (.int 4) u := by
      refine' Cs.const_mk KX G ?a ?r
      (case a => k_is)
      (case r => exact ⟨_, rfl⟩)
    refine' Cs.law_mk ?a ?l ?c ?k ?b ?G2
    (case a => k_is)
    (case l => k_is)
    (case c => k_is)
    (case k => k_is)
    (case b => exact fun _ _ _ _ _ _ _ => rfl)
    (case G2 =>
      intro base f fd F
      have T : Cs.PatK mg := ⟨C_MOST_TUPLES, C_MOST_WIDTH, C_MOST_REPEATS⟩
      have Gd := Cs.ok_draw (P := PySem.Challenge.rw_cutscribe_k02_patterns_at_the_bounds.prog) (w := w) (base := base) A__law_draw
      have Gs := Cs.ok_source (P := PySem.Challenge.rw_cutscribe_k02_patterns_at_the_bounds.prog) (w := w) (base := base) B A__law_source
      have Ga := Cs.ok_alphabet B Gd A__law_alphabet
      have Gse := Cs.ok_set B Gd A__law_set
      have Gr := Cs.ok_row B Gse A__law_row
      have Gwi := Cs.ok_within (P := PySem.Challenge.rw_cutscribe_k02_patterns_at_the_bounds.prog) (w := w) (base := base) B A__is_integer_within
      have Gra := Cs.ok_range B T Gwi A__is_range
      have Gsel := Cs.ok_selection (P := PySem.Challenge.rw_cutscribe_k02_patterns_at_the_bounds.prog) (w := w) (base := base) B A__is_selection
      have Gwf := Cs.ok_wf B Gsel Gra A__is_well_formed
      have Gp := Cs.ok_parts (P := PySem.Challenge.rw_cutscribe_k02_patterns_at_the_bounds.prog) (w := w) (base := base) A__parts
      have Gw := Cs.ok_width B Gp A__width
      have Gsm := Cs.ok_small B T Gwf Gp A__is_small_expression
      have Gpat := Cs.ok_pattern B T Gsm Gw A_is_pattern
      have Gag := Cs.ok_again B Gd A__law_again
      have Gwr := Cs.ok_wrapped B Gd A__law_wrapped
      have Gwa := Cs.ok_withag B Gd Gse Gr A__law_with_agains
      have Gc := Cs.ok_case B Gd Gse Gr Gwa Gag Gwr A__law_case
      exact Cs.ok_law B Gs Ga Gd Gc Gpat F)
#print axioms PySem.Challenge.cw_cutscribe_k02_patterns_at_the_bounds_holds
