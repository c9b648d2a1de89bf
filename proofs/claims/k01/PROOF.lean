import PyProof.Rows.All
import Wide.All
import OpenK.AllK
import Wide.FinOn
import HandS.ForMost
import HandS.Flow
import HandS.TupAny
import HandS.TupMul
import HandS.Conv
import HandS.IsInst
import HandS.Strs
import HandS.SetFor
import HandS.ExcInit
import HandS.ExcValue
import HandS.ExcIs
import HandS.ExcField
import KE.KExcIs
import PySem.Challenge.RW_cutscribe_k01_patterns_looked_at
set_option Elab.async false
set_option linter.all false
set_option maxRecDepth 100000
set_option maxHeartbeats 4000000
/-! What every law of this place leans on: callees by name, readings step by step, the heap beside the source of draws. -/
namespace Cs
open PySem L2
open PyProof.Rows (envOfC)

/-! ### callees -/
structure At (K : PySem.W.Frag) (mg : Str → Option Value) (x : Str) (st : Stmt) (ps : List Str) : Prop where
  ex : ∃ f fd, Fun K x x st f fd ∧ mg x = some (.ref f) ∧ Binds K fd ps []
structure Cal (P : Program) (w : World) (K : PySem.W.Frag) (mg : Str → Option Value) (base : Heap) (k : Nat) (x : Str) (ps : List Str) (sp : Sp) : Prop where
  ex : ∃ f fd, mg x = some (.ref f) ∧ PySem.W.keepIn K (.ref f) = true ∧ Binds K fd ps [] ∧ FnOk P w K mg base CX0 k f fd ps sp
section
variable {P : Program} {w : World} {K : PySem.W.Frag} {mg : Str → Option Value} {base : Heap}
theorem Cal.mono {j k : Nat} {x : Str} {ps : List Str} {sp : Sp} (C : Cal P w K mg base j x ps sp) (h : j ≤ k) : Cal P w K mg base k x ps sp := by
  obtain ⟨f, fd, a, b, c, d⟩ := C.ex
  exact ⟨f, fd, a, b, c, d.mono h⟩
theorem Cal.imp {k : Nat} {x : Str} {ps : List Str} {sp sp' : Sp} (C : Cal P w K mg base k x ps sp) (h : ∀ vs H Q E, sp' vs H Q E → sp vs H Q E) : Cal P w K mg base k x ps sp' := by
  obtain ⟨f, fd, a, b, c, d⟩ := C.ex
  exact ⟨f, fd, a, b, c, d.imp h⟩
theorem At.ok {x : Str} {st : Stmt} {N ps : List Str} {k : Nat} {sp : Sp} (F : At K mg x st ps) (S : FnScope N ps (defScope st)) (len : ∀ vs H Q E, sp vs H Q E → vs.length = ps.length)
    (hbody : ∀ (f : Addr) (cdv : Value) (A : Around) (outer : List Env) (s : Shared) (H : Hp) (vs : List V) (Q : VK) (E : XK), Room k (A.deeper (envOfC x (defScope st) s.heap.objs.size f cdv)) → sp vs H Q E →
      ∃ t, PSs (cxOf CX0 P w K mg base N x (defScope st) f cdv A outer s H E).nox (defBody st) t ∧ t { nx := fun _ H' => Q .non H', rt := Q } (start N vs) H) : Cal P w K mg base (k + 1) x ps sp := by
  obtain ⟨f, fd, F, m, b⟩ := F.ex
  exact ⟨f, fd, m, F.kp, b, F.ok S len (hbody f)⟩
end
section
variable {X : Cx} {k : Nat} {x : Str} {ps : List Str} {sp : Sp} {p pos : Pos} {e : Expr} {es : List Expr} {t : TA}
theorem pe_c (C : Cal X.prog X.w X.K X.mg X.base k x ps sp) (hr : Room k X.A) (ha : PA X (e :: es) t) (hg : Gl X x := by rfl) (hdb : (x == ("__debug__" : Str)) = false := by decide) (he : starEach (e :: es) X.env = (false, eval e X.env) :: starEach es X.env := by rfl)
    (hpl : (backTo pos (starEach es X.env)).any (·.1) = false := by rfl) : PE X (.Call (.Name x p) (e :: es) [] pos) (tCall sp [] E0 t) := by
  obtain ⟨f, fd, hm, hk, hb, F⟩ := C.ex
  exact pe_call F hr hg hm hk hb .nil pass0 ha hdb he hpl
end

/-- a built-in class as a value -/
theorem pe_ty {X : Cx} {x : Str} {T : String} {pos : Pos} (hm : X.mg x = none) (hv : bootBuiltins x = some (.type T)) (hg : Gl X x := by rfl) (hn : x ≠ "__name__" := by decide) (hd : (x == ("__debug__" : Str)) = false := by decide) : PE X (.Name x pos) (tC (.ty T)) := pe_bltn hg hm hv rfl hn hd
/-- a module's constant -/
theorem pe_k {X : Cx} {x : Str} {v : V} {pos : Pos} (h : ∃ u, X.mg x = some u ∧ RelV v u) (hg : Gl X x := by rfl) (hd : (x == ("__debug__" : Str)) = false := by decide) : PE X (.Name x pos) (tC v) := by
  obtain ⟨u, hm, r⟩ := h
  exact pe_glob hg hm r hd

/-! ### the rules whose reading names the written part, with that part given: within a comprehension's block it must not lean on the block -/
section
variable {X : Cx} {K : PySem.W.Frag} {tg : Expr}
def rLenQ (K : PySem.W.Frag) : List V → Hp → VK → Prop := fun xs H Q => ∃ p ys, xs = [.ref p] ∧ (SqL K H p ys ∨ SqT K H p ys) ∧ Q (.int ys.length) H
def rTupOf (K : PySem.W.Frag) : List V → Hp → VK → Prop := fun xs H Q => ∃ p ys, xs = [.ref p] ∧ ((SqL K H p ys ∧ ∀ l, H l = none → Q (.ref l) (upd H l (.tup ys))) ∨ (SqT K H p ys ∧ Q (.ref p) H))
def rLstOf (K : PySem.W.Frag) : List V → Hp → VK → Prop := fun xs H Q => ∃ p ys, xs = [.ref p] ∧ (SqL K H p ys ∨ SqT K H p ys) ∧ ∀ l, H l = none → Q (.ref l) (upd H l (.lst ys))
theorem call_len_seqK (h : X.K = K) : CallR X (.builtin "len") (rLenQ K) := by subst h; exact call_len_seq
theorem call_tuple_ofK (h : X.K = K) : CallR X (.type "tuple") (rTupOf K) := by subst h; exact call_tuple_of
theorem call_list_ofK (h : X.K = K) : CallR X (.type "list") (rLstOf K) := by subst h; exact call_list_of
theorem call_isiK' (h : X.K = K) : CallR X (.builtin "isinstance") (rIsi K) := by subst h; exact call_isi
theorem ix_listK (h : X.K = K) : IxR X (rIxL K) := by subst h; exact ix_list
theorem ix_tupK (h : X.K = K) : IxR X (rIxT K) := by subst h; exact ix_tup
theorem op_in_seqK (h : X.K = K) : OpR X (compareOp .In) (rIn K false) := by subst h; exact op_in_seq
theorem op_notIn_seqK (h : X.K = K) : OpR X (compareOp .NotIn) (rIn K true) := by subst h; exact op_notIn_seq
theorem op_eqDK (h : X.K = K) (hu : X.A.units + 64 < cLine) : OpR X (compareOp .Eq) (rEqD K) := by subst h; exact op_eqD hu
theorem op_neDK (h : X.K = K) (hu : X.A.units + 64 < cLine) : OpR X (compareOp .NotEq) (rNeD K) := by subst h; exact op_neD hu
theorem op_catTK (h : X.K = K) : OpR X (binaryOp .Add) (rCatT K) := by subst h; exact op_catT
theorem sl_listK (h : X.K = K) : SlR X (rSlL K) := by subst h; exact sl_list
theorem sl_tupAK (h : X.K = K) : SlR X (rSlA K) := by subst h; exact sl_tupA
theorem cr_sumK (h : X.K = K) (hc : X.calm = true) : CallR X (.builtin "sum") (rSum K) := by subst h; exact cr_sum hc
theorem cr_allK (h : X.K = K) (hc : X.calm = true) : CallR X (.builtin "all") (rAll K) := by subst h; exact cr_all hc
theorem cr_anyK (h : X.K = K) (hc : X.calm = true) : CallR X (.builtin "any") (rAny K) := by subst h; exact cr_any hc
theorem mt_indexK (h : X.K = K) : MtR X "list.index" (rIndex K) := by subst h; exact mt_index
theorem pi_listK {l : Expr} {tl : TE} (h : X.K = K) (hl : PE X l tl) : PI X tg l (iList K tl) := by subst h; exact pi_list hl
theorem pi_tupK {l : Expr} {tl : TE} (h : X.K = K) (hl : PE X l tl) : PI X tg l (iTup K tl) := by subst h; exact pi_tup hl
theorem pg_tupK {es : List Expr} {k : Nat} {t : TGs} {n : Nat} {pos : Pos} (hK : X.K = K) (hc : X.calm = true) (h : PGs X es t)
    (hn : (assignEach es X.env).length = n := by rfl) (hst : (assignEach es X.env).findIdx? (·.1) = none := by rfl) : PG X (.Tuple es k pos) (gTup K n t) := by subst hK; exact pg_tup hc h hn hst
def tTruth (K : PySem.W.Frag) (ta : TE) : TT := fun σ H Q => ta σ H fun x H' => ∃ k, TruV K x H' k ∧ Q k H'
theorem pt_truthK {a : Expr} {ta : TE} (h : X.K = K) (ha : PE X a ta) (he : ∀ whole, isTrue a X.env whole = (do let v ← whole; standAt a.pos; holding [v] (truthy v)) := by intro _; rfl) : PT X a (tTruth K ta) := by subst h; exact pt_truth ha he
variable {o e : Expr} {es : List Expr} {to te : TE} {t : TA} {name : Str} {apos cpos pos : Pos} {T id : String} {r : V → List V → Hp → VK → Prop}
theorem pe_bm0K (h : X.K = K) (pa : PlainAttrs T) (slot : Slot T name id) (hty : typeOf (.builtin id) = pure (.type "method_descriptor")) (hm : MtR X id r) (ho : PE X o to)
    (hbase : attributeBase o name X.env (eval o X.env) = eval o X.env := by rfl) (hline : (apos.endLine == cpos.line) = true := by rfl) : PE X (.Call (.Attribute o name apos) [] [] cpos) (tBM0 K T r to) := by subst h; exact pe_bm0 pa slot hty hm ho hbase hline
theorem pe_bmK (h : X.K = K) (pa : PlainAttrs T) (slot : Slot T name id) (hty : typeOf (.builtin id) = pure (.type "method_descriptor")) (hm : MtR X id r) (ho : PE X o to) (ha : PA X (e :: es) t)
    (hbase : attributeBase o name X.env (eval o X.env) = eval o X.env := by rfl)
    (hfew : ((backTo cpos (starEach (e :: es) X.env)).all (fun x => !x.1) && (backToKw cpos (keywordEach [] X.env)).all (fun x => x.1.isSome)
      && decide ((e :: es).length + ([] : List Keyword).length + (if ([] : List Keyword).isEmpty then 0 else 1) < 30)) = true := by rfl)
    (hline : (apos.endLine == cpos.line) = true := by rfl) (hs : starEach (e :: es) X.env = (false, eval e X.env) :: starEach es X.env := by rfl) (hplain : (backTo cpos (starEach es X.env)).any (·.1) = false := by rfl) :
    PE X (.Call (.Attribute o name apos) (e :: es) [] cpos) (tBM K T r to t) := by subst h; exact pe_bm pa slot hty hm ho ha hbase hfew hline hs hplain
def rJoin (K : PySem.W.Frag) : V → List V → Hp → VK → Prop := fun x xs H Q => ∃ a p, ∃ ys : List Str, x = .str a ∧ xs = [.ref p] ∧ (SqL K H p (ys.map V.str) ∨ SqT K H p (ys.map V.str)) ∧ (ys.map (·.length)).sum + ys.length * a.length ≤ 16777216 ∧ Q (.str (Txt.join a ys)) H
theorem pe_joinK (h : X.K = K) (ho : PE X o to) (he : PE X e te) (hs : starEach [e] X.env = [(false, eval e X.env)] := by rfl) (hbase : attributeBase o "join" X.env (eval o X.env) = eval o X.env := by rfl) (hline : (apos.endLine == pos.line) = true := by rfl) :
    PE X (.Call (.Attribute o "join" apos) [e] [] pos) (tM1 (rJoin K) to te) := by subst h; exact pe_join ho he hs hbase hline
end

/-! ### readings, step by step -/
section
variable {σ : St} {H : Hp} {D : Ends} {Q : VK} {t u : TS} {te ta tb tc : TE} {v x y : V} {i : Nat} {tt c c2 : TT} {tas : TA} {K : PySem.W.Frag}
theorem rd_seq (h : t { D with nx := u D } σ H) : tSeq t u D σ H := h
theorem rd_next (h : D.nx σ H) : tNext D σ H := h
theorem rd_asg {g : TG} (h : te σ H fun x H1 => g x σ H1 D.nx) : tAsg te g D σ H := h
theorem rd_gname {R : St → Hp → Prop} (h : R (σ.set i (some v)) H) : gName i v σ H R := h
theorem rd_var (e : σ[i]? = some (some v)) (q : Q v H) : tVar i σ H Q := ⟨v, e, q⟩
theorem rd_c (q : Q v H) : tC v σ H Q := q
theorem rd_op {r : R2} (h : ta σ H fun x H1 => tb σ H1 fun y H2 => r x y H2 Q) : tOp r ta tb σ H Q := h
theorem rd_un {r : V → Hp → VK → Prop} (h : ta σ H fun x H1 => r x H1 Q) : tUn r ta σ H Q := h
theorem rd_test {R : Bool → Hp → Prop} (h : te σ H fun x H' => ∃ k, x = .bl k ∧ R k H') : tTest te σ H R := h
theorem rd_tB {R : Bool → Hp → Prop} (h : te σ H fun x H' => ∃ k, x = .bl k ∧ R k H') : tB te σ H R := h
theorem rd_bl {b : Bool} {R : Bool → Prop} (q : R b) : ∃ k, V.bl b = .bl k ∧ R k := ⟨b, rfl, q⟩
theorem rd_ifs (h : c σ H fun b H1 => if b = true then t D σ H1 else u D σ H1) : tIfS c t u D σ H := h
theorem rd_ret (h : te σ H D.rt) : tRet te D σ H := h
theorem rd_retN (h : D.rt .non H) : tRetN D σ H := h
theorem rd_drop (h : te σ H fun _ H1 => D.nx σ H1) : tDrop te D σ H := h
theorem rd_nil {R : List V → Hp → Prop} (h : R [] H) : tNil σ H R := h
theorem rd_cons {R : List V → Hp → Prop} (h : te σ H fun x H1 => tas σ H1 fun xs H2 => R (x :: xs) H2) : tCons te tas σ H R := h
/-- a new object at any free place -/
def New (H : Hp) (o : HO) (R : Addr → Hp → Prop) : Prop := ∀ p, H p = none → R p (upd H p o)
theorem rd_tup (h : tas σ H fun xs H1 => xs.length ≤ sizeLine ∧ New H1 (.tup xs) fun p H2 => Q (.ref p) H2) : tTup tas σ H Q := h
theorem rd_lst (h : tas σ H fun xs H1 => xs.length ≤ sizeLine ∧ New H1 (.lst xs) fun p H2 => Q (.ref p) H2) : tLst tas σ H Q := h
theorem rd_catT {a b : Addr} {xs ys : List V} (h1 : SqT K H a xs) (h2 : SqT K H b ys) (h3 : xs ≠ []) (h4 : xs.length + ys.length ≤ sizeLine) (q1 : ys = [] → Q (.ref a) H) (q2 : ys ≠ [] → New H (.tup (xs ++ ys)) fun p H2 => Q (.ref p) H2) : rCatT K (.ref a) (.ref b) H Q := ⟨a, b, xs, ys, rfl, rfl, h1, h2, h3, h4, q1, q2⟩
theorem rd_tupl {a : Addr} {xs : List V} (h : SqL K H a xs) (q : New H (.tup xs) fun p H2 => Q (.ref p) H2) : rTupOf K [V.ref a] H Q := ⟨a, xs, rfl, .inl ⟨h, q⟩⟩
theorem rd_tupt {a : Addr} {xs : List V} (h : SqT K H a xs) (q : Q (.ref a) H) : rTupOf K [V.ref a] H Q := ⟨a, xs, rfl, .inr ⟨h, q⟩⟩
theorem rd_lstof {a : Addr} {xs : List V} (h : SqL K H a xs ∨ SqT K H a xs) (q : New H (.lst xs) fun p H2 => Q (.ref p) H2) : rLstOf K [V.ref a] H Q := ⟨a, xs, rfl, h, q⟩
theorem rd_cb {r : List V → Hp → VK → Prop} (h : tas σ H fun vs H1 => r vs H1 Q) : tCB r tas σ H Q := h
theorem rd_call {sp : Sp} {E : XK} (h : tas σ H fun vs H1 => sp (vs ++ []) H1 Q E) : tCall sp [] E tas σ H Q := h
theorem rd_and {R : Bool → Hp → Prop} (h : c σ H fun b H1 => if b = true then c2 σ H1 R else R false H1) : tAnd c c2 σ H R := h
theorem rd_or {R : Bool → Hp → Prop} (h : c σ H fun b H1 => if b = true then R true H1 else c2 σ H1 R) : tOr c c2 σ H R := h
theorem rd_not {R : Bool → Hp → Prop} (h : c σ H fun b H1 => R (!b) H1) : tNot c σ H R := h
theorem rd_andV (h : ta σ H fun x H1 => ∃ c, x = .bl c ∧ if c = true then tb σ H1 Q else Q (.bl false) H1) : tAndV ta tb σ H Q := h
theorem rd_orV (h : ta σ H fun x H1 => ∃ c, x = .bl c ∧ if c = true then Q (.bl true) H1 else tb σ H1 Q) : tOrV ta tb σ H Q := h
theorem rd_notV (h : ta σ H fun x H1 => ∃ c, x = .bl c ∧ Q (.bl (!c)) H1) : tNotV ta σ H Q := h
theorem rd_ife (h : c σ H fun b H1 => if b = true then ta σ H1 Q else tb σ H1 Q) : tIf c ta tb σ H Q := h
theorem rd_bm0 {T : String} {r : V → List V → Hp → VK → Prop} (h : te σ H fun x H1 => tyV K T x H1 ∧ r x [] H1 Q) : tBM0 K T r te σ H Q := h
theorem rd_bm {T : String} {r : V → List V → Hp → VK → Prop} (h : te σ H fun x H1 => tyV K T x H1 ∧ tas σ H1 fun xs H2 => r x xs H2 Q) : tBM K T r te tas σ H Q := h
theorem rd_gsub {to ti : TE} {s : TSet} {R : St → Hp → Prop} (h : to σ H fun o H1 => ti σ H1 fun i H2 => s o i v H2 fun H3 => R σ H3) : gSub to ti s v σ H R := h
theorem rd_i0 {g : Int → Int → V} {a b : Int} (q : Q (g a b) H) : rI0 g (.int a) (.int b) H Q := ⟨a, b, rfl, rfl, q⟩
theorem rd_i {C : Int → Int → Prop} {g : Int → Int → V} {a b : Int} (h : C a b) (q : Q (g a b) H) : rI C g (.int a) (.int b) H Q := ⟨a, b, rfl, rfl, h, q⟩
theorem rd_eq (h : scal x y = true) (q : Q (.bl (decide (x = y))) H) : rEq x y H Q := ⟨h, q⟩
theorem rd_ne (h : scal x y = true) (q : Q (.bl (!decide (x = y))) H) : rNe x y H Q := ⟨h, q⟩
theorem rd_ixl {a : Addr} {xs : List V} {n : Int} (h : SqL K H a xs) (e : atI xs n = some v) (q : Q v H) : rIxL K (.ref a) (.int n) H Q := ⟨a, xs, n, v, rfl, rfl, h, e, q⟩
theorem rd_ixt {a : Addr} {xs : List V} {n : Int} (h : SqT K H a xs) (e : atI xs n = some v) (q : Q v H) : rIxT K (.ref a) (.int n) H Q := ⟨a, xs, n, v, rfl, rfl, h, e, q⟩
theorem rd_setl {a : Addr} {xs : List V} {n : Int} {j : Nat} {R : Hp → Prop} (h : H a = some (.lst xs)) (e : ixN xs.length n = some j) (q : R (upd H a (.lst (xs.set j v)))) : rSetL (.ref a) (.int n) v H R := ⟨a, xs, n, j, rfl, rfl, h, e, q⟩
theorem rd_m1 {r : V → List V → Hp → VK → Prop} (h : ta σ H fun x H1 => (∃ a, x = .str a) ∧ tb σ H1 fun y H2 => r x [y] H2 Q) : tM1 r ta tb σ H Q := h
theorem rd_gtup {n : Nat} {a : Addr} {xs : List V} {ts : TGs} {R : St → Hp → Prop} (h : SqT K H a xs) (e : xs.length = n) (q : ts xs σ H R) : gTup K n ts (.ref a) σ H R := ⟨a, xs, rfl, h, e, q⟩
theorem rd_gcons {g : TG} {ts : TGs} {vs : List V} {R : St → Hp → Prop} (q : g v σ H fun σ' H' => ts vs σ' H' R) : gCons g ts (v :: vs) σ H R := ⟨v, vs, rfl, q⟩
theorem rd_gnil {R : St → Hp → Prop} (q : R σ H) : gNil [] σ H R := ⟨rfl, q⟩
theorem rd_truth {R : Bool → Hp → Prop} (h : te σ H fun x H' => ∃ k, TruV K x H' k ∧ R k H') : tTruth K te σ H R := h
theorem rd_yes {R : Bool → Hp → Prop} (h : R true H) : tYes σ H R := h
theorem rd_sl {r : V → Option Int → Option Int → Hp → VK → Prop} {tl th : TO} (h : te σ H fun x H1 => tl σ H1 fun l H2 => th σ H2 fun u H3 => r x l u H3 Q) : tSl r te tl th σ H Q := h
theorem rd_nopart {R : Option Int → Hp → Prop} (h : R none H) : tNoPart σ H R := h
theorem rd_part {R : Option Int → Hp → Prop} (h : te σ H fun x H1 => ∃ i, x = .int i ∧ R (some i) H1) : tPart te σ H R := h
theorem rd_int {n : Int} {R : Int → Prop} (q : R n) : ∃ k, V.int n = .int k ∧ R k := ⟨n, rfl, q⟩
theorem rd_strx {z : Str} {R : Prop} (q : R) : (∃ a, V.str z = .str a) ∧ R := ⟨⟨z, rfl⟩, q⟩
theorem rd_len {a : Addr} {xs : List V} (h : SqL K H a xs ∨ SqT K H a xs) (q : Q (.int xs.length) H) : rLenQ K [V.ref a] H Q := ⟨a, xs, rfl, h, q⟩
theorem rd_isi {v c : V} {tv u : Value} {b : Bool} (h1 : ClsV c u) (h2 : TyX K H v tv) (h3 : PySem.W.kitOne K tv u = some b) (q : Q (.bl b) H) : rIsi K [v, c] H Q := ⟨v, c, tv, u, b, rfl, h1, h2, h3, q⟩
theorem rd_in {x : V} {p : Addr} {xs : List V} {neg : Bool} (h : SqL K H p xs ∨ SqT K H p xs) (fx : flatV x = true) (fs : xs.all flatV = true) (q : Q (.bl (if neg then !inV x xs else inV x xs)) H) : rIn K neg x (.ref p) H Q := ⟨p, xs, rfl, h, fx, fs, q⟩
theorem rd_sla {a : Addr} {xs : List V} {lo hi : Option Int} (h : SqT K H a xs) (q1 : HT.sIx xs.length 0 lo = 0 ∧ HT.sIx xs.length xs.length hi = xs.length → Q (.ref a) H) (q2 : ¬ (HT.sIx xs.length 0 lo = 0 ∧ HT.sIx xs.length xs.length hi = xs.length) → New H (.tup (cutV xs lo hi)) fun p H2 => Q (.ref p) H2) : rSlA K (.ref a) lo hi H Q := ⟨a, xs, rfl, h, q1, q2⟩
theorem rd_sum {a : Addr} {ns : List Int} (h : SqL K H a (ns.map V.int)) (q : Q (.int ns.sum) H) : rSum K [V.ref a] H Q := ⟨a, ns, rfl, h, q⟩
theorem rd_all {a : Addr} {ns : List Bool} (h : SqL K H a (ns.map V.bl)) (q : Q (.bl (ns.all id)) H) : rAll K [V.ref a] H Q := ⟨a, ns, rfl, h, q⟩
theorem rd_any {a : Addr} {ns : List Bool} (h : SqL K H a (ns.map V.bl)) (q : Q (.bl (ns.any id)) H) : rAny K [V.ref a] H Q := ⟨a, ns, rfl, h, q⟩
theorem rd_chain {r r' : R2} (h : ta σ H fun x H1 => tb σ H1 fun y H2 => r x y H2 fun z H3 => ∃ k, z = .bl k ∧ (if k = true then tc σ H3 fun w' H4 => r' y w' H4 Q else Q (.bl false) H3)) : tChain r r' ta tb tc σ H Q := h
theorem rd_rng1 {R : It → Hp → Prop} (h : tas σ H fun vs H1 => ∃ j : Int, vs = [.int j] ∧ -(2 ^ 62) ≤ j ∧ j < 2 ^ 62 ∧ R (Itr 0 j.toNat) H1) : iRng1 tas σ H R := h
theorem rd_rng1j {n : Int} {R : Int → Prop} (h1 : -(2 ^ 62) ≤ n) (h2 : n < 2 ^ 62) (q : R n) : ∃ j : Int, ([V.int n] : List V) = [.int j] ∧ -(2 ^ 62) ≤ j ∧ j < 2 ^ 62 ∧ R j := ⟨n, rfl, h1, h2, q⟩
theorem rd_ilist {R : It → Hp → Prop} (h : te σ H fun x H1 => ∃ a, x = .ref a ∧ (∃ xs, SqL K H1 a xs) ∧ R (Itl K a) H1) : iList K te σ H R := h
theorem rd_itup {R : It → Hp → Prop} (h : te σ H fun x H1 => ∃ a, x = .ref a ∧ (∃ xs, SqT K H1 a xs) ∧ R (Itt K a) H1) : iTup K te σ H R := h
theorem rd_istr {R : It → Hp → Prop} (h : te σ H fun v H1 => ∃ x, v = .str x ∧ R (Its x) H1) : iStr te σ H R := h
theorem rd_strj {z : Str} {R : Str → Prop} (q : R z) : ∃ x, V.str z = .str x ∧ R x := ⟨z, rfl, q⟩
theorem rd_lc {wi : TI} {g : TG} {vs : List Nat} (h : wi σ H fun J H1 => ∀ D, H1 D = none → ∃ W : Nat → Nat → Hp → Prop, (∃ m, W 0 m (upd H1 D (.lst []))) ∧ ∀ i m H, W i m H →
  (J.stop i H ∧ Q (.ref D) H) ∨ (J.go i H ∧ ∃ Nx : Hp → Prop, (∀ H', Nx H' → ∃ m', m' < m ∧ W (i + 1) m' H') ∧ ∀ x H', J.yld i H x H' → g x (wipe σ vs) H' fun σ2 H2 => wipe σ2 vs = wipe σ vs ∧ tt σ2 H2 fun b H3 =>
    if b = true then te σ2 H3 fun y H4 => ∃ acc, H4 D = some (.lst acc) ∧ acc.length < sizeLine ∧ Nx (upd H4 D (.lst (acc ++ [y]))) else Nx H3)) : tLc wi g tt te vs σ H Q := h
theorem rd_for {wi : TI} {g : TG} (h : wi σ H fun J H1 => ∃ W : Nat → Nat → St → Hp → Prop, (∃ m, W 0 m σ H1) ∧ ∀ i m σ H, W i m σ H →
  (J.stop i H ∧ D.nx σ H) ∨ (J.go i H ∧ ∃ N : St → Hp → Prop, (∀ σ' H', N σ' H' → ∃ m', m' < m ∧ W (i + 1) m' σ' H') ∧ ∀ x H', J.yld i H x H' → g x σ H' fun σ2 H2 => t { D with nx := N, ct := N, bk := D.nx } σ2 H2)) : tFor wi g t D σ H := h
theorem rd_par {i j : Nat} (h : tas σ H fun vs H1 => ∃ v w, vs = [v, w] ∧ D.nx ((σ.set i (some v)).set j (some w)) H1) : tPar i j tas D σ H := h
theorem rd_parj {a b : V} {R : V → V → Prop} (q : R a b) : ∃ v w, ([a, b] : List V) = [v, w] ∧ R v w := ⟨a, b, rfl, q⟩
theorem rd_aug {ti : TIp} (e : σ[i]? = some (some x)) (h : te σ H fun y H1 => ti x y H1 fun z H2 => D.nx (σ.set i (some z)) H2) : tAug i te ti D σ H := ⟨x, e, h⟩
theorem rd_ipi {g : Int → Int → Int} {a b : Int} (q : Q (.int (g a b)) H) : ipI g (.int a) (.int b) H Q := ⟨a, b, rfl, rfl, q⟩
/-- while, by an invariant that bears a measure -/
theorem rd_while {m0 : Nat} (W : Nat → St → Hp → Prop) (w0 : W m0 σ H) (hs : ∀ m σ H, W m σ H → c σ H fun b H1 => if b = true then t { D with nx := fun σ' H' => ∃ m', m' < m ∧ W m' σ' H', ct := fun σ' H' => ∃ m', m' < m ∧ W m' σ' H', bk := D.nx } σ H1 else D.nx σ H1)
    (mono : ∀ σ H Q Q', (∀ b H1, Q b H1 → Q' b H1) → c σ H Q → c σ H Q') : tWhile c t D σ H := by
  refine ⟨W, ⟨m0, w0⟩, fun m σ H h => ?_⟩
  refine mono σ H _ _ (fun b H1 q => ?_) (hs m σ H h)
  cases b with
  | true => exact ⟨_, fun σ' H' z => z, q⟩
  | false => exact q
/-- a new object: what is said of the heap behind it -/
theorem rd_new {o : HO} {R : Addr → Hp → Prop} (k : ∀ p H', H p = none → H' p = some o → Same H H' → R p H') : New H o R := fun p hp =>
  k p _ hp upd_same fun b ob e => by rw [upd_ne (ne_of_none e hp)]; exact e
end
/-! ### the heap beside one list -/
def hid (a : Addr) (H : Hp) : Hp := fun b => if b = a then none else H b
theorem hid_ne {a b : Addr} {H : Hp} (h : b ≠ a) : hid a H b = H b := by unfold hid; rw [if_neg h]
theorem hid_sub {a b : Addr} {H : Hp} {o : HO} (h : hid a H b = some o) : b ≠ a ∧ H b = some o := by
  unfold hid at h
  by_cases e : b = a
  · rw [if_pos e] at h; cases h
  · rw [if_neg e] at h; exact ⟨e, h⟩
theorem hid_le {a : Addr} {H : Hp} : Same (hid a H) H := fun _ _ h => (hid_sub h).2
/-- all but a is kept -/
def Kp (a : Addr) (H H' : Hp) : Prop := Same (hid a H) (hid a H')
theorem Kp.refl {a : Addr} {H : Hp} : Kp a H H := Same.refl _
theorem Kp.trans {a : Addr} {H H1 H2 : Hp} (x : Kp a H H1) (y : Kp a H1 H2) : Kp a H H2 := Same.trans x y
theorem Kp.of {a : Addr} {H H' : Hp} (s : Same H H') : Kp a H H' := fun b o e => by
  obtain ⟨n, e⟩ := hid_sub e
  rw [hid_ne n]; exact s b o e
theorem Kp.set {a : Addr} {H : Hp} {o : HO} : Kp a H (upd H a o) := fun b u e => by
  obtain ⟨n, e⟩ := hid_sub e
  rw [hid_ne n, upd_ne n]; exact e
theorem Kp.at {a b : Addr} {H H' : Hp} {o : HO} (k : Kp a H H') (n : b ≠ a) (e : H b = some o) : H' b = some o := by
  have q : hid a H b = some o := by rw [hid_ne n]; exact e
  exact (hid_sub (k b o q)).2
theorem Same.seqT {K : PySem.W.Frag} {H H' : Hp} {a : Addr} {xs : List V} (e : Same H H') (h : SqT K H a xs) : SqT K H' a xs := by
  rcases h with (h | ⟨o, h⟩) | h
  · exact .inl (.inl (e _ _ h))
  · exact .inl (.inr ⟨o, e _ _ h⟩)
  · exact .inr h

/-! ### data that a heap bears -/
mutual
theorem Dp.mono {K : PySem.W.Frag} {H H' : Hp} (s : Same H H') : ∀ {v : V} {d : PyData}, Dp K H v d → Dp K H' v d
  | _, _, .non => .non
  | _, _, .bl b => .bl b
  | _, _, .int i => .int i
  | _, _, .str x => .str x
  | _, _, .lst h t => .lst (L2.Same.seq s h) (DpAll.mono s t)
  | _, _, .tup h t => .tup (Same.seqT s h) (DpAll.mono s t)
theorem DpAll.mono {K : PySem.W.Frag} {H H' : Hp} (s : Same H H') : ∀ {vs : List V} {ds : List PyData}, DpAll K H vs ds → DpAll K H' vs ds
  | _, _, .nil => .nil
  | _, _, .cons h t => .cons (Dp.mono s h) (DpAll.mono s t)
end
theorem DpAll.length {K : PySem.W.Frag} {H : Hp} : ∀ {vs : List V} {ds : List PyData}, DpAll K H vs ds → vs.length = ds.length
  | _, _, .nil => rfl
  | _, _, .cons _ t => by rw [List.length_cons, List.length_cons, DpAll.length t]
theorem DpAll.get {K : PySem.W.Frag} {H : Hp} : ∀ {vs : List V} {ds : List PyData} {i : Nat} {v : V}, DpAll K H vs ds → vs[i]? = some v → ∃ d, ds[i]? = some d ∧ Dp K H v d
  | _, _, _, _, .nil, e => by simp at e
  | _, _, 0, _, .cons h _, e => by
    simp at e; subst e; exact ⟨_, rfl, h⟩
  | _, _, i + 1, v, .cons _ t, e => by
    obtain ⟨d, a, b⟩ := DpAll.get (i := i) (v := v) t (by simpa using e)
    exact ⟨d, by simpa using a, b⟩
theorem DpAll.get' {K : PySem.W.Frag} {H : Hp} : ∀ {vs : List V} {ds : List PyData} {i : Nat} {d : PyData}, DpAll K H vs ds → ds[i]? = some d → ∃ v, vs[i]? = some v ∧ Dp K H v d
  | _, _, _, _, .nil, e => by simp at e
  | _, _, 0, _, .cons h _, e => by
    simp at e; subst e; exact ⟨_, rfl, h⟩
  | _, _, i + 1, v, .cons _ t, e => by
    obtain ⟨d, a, b⟩ := DpAll.get' (i := i) (d := v) t (by simpa using e)
    exact ⟨d, by simpa using a, b⟩
theorem DpAll.app {K : PySem.W.Frag} {H : Hp} : ∀ {vs ws : List V} {ds es : List PyData}, DpAll K H vs ds → DpAll K H ws es → DpAll K H (vs ++ ws) (ds ++ es)
  | _, _, _, _, .nil, t => t
  | _, _, _, _, .cons h t, u => .cons h (DpAll.app t u)
theorem DpAll.take {K : PySem.W.Frag} {H : Hp} : ∀ {vs : List V} {ds : List PyData} (n : Nat), DpAll K H vs ds → DpAll K H (vs.take n) (ds.take n)
  | _, _, 0, _ => .nil
  | _, _, _ + 1, .nil => .nil
  | _, _, n + 1, .cons h t => .cons h (DpAll.take n t)
theorem DpAll.drop {K : PySem.W.Frag} {H : Hp} : ∀ {vs : List V} {ds : List PyData} (n : Nat), DpAll K H vs ds → DpAll K H (vs.drop n) (ds.drop n)
  | _, _, 0, t => t
  | _, _, _ + 1, .nil => .nil
  | _, _, n + 1, .cons _ t => DpAll.drop n t

/-! ### the source of draws: a list of three ints at a; n draws may still be made -/
def Src (a : Addr) (n : Nat) (H : Hp) : Prop := ∃ d s c : Int, H a = some (.lst [.int d, .int s, .int c]) ∧ 0 ≤ s ∧ s < 2 ^ 40 ∧ 0 ≤ c ∧ c + (n : Int) ≤ 2 ^ 40
theorem Src.mono {a : Addr} {n m : Nat} {H : Hp} (h : Src a m H) (l : n ≤ m) : Src a n H := by
  obtain ⟨d, s, c, e, h1, h2, h3, h4⟩ := h
  exact ⟨d, s, c, e, h1, h2, h3, by omega⟩
theorem Src.same {a : Addr} {n : Nat} {H H' : Hp} (h : Src a n H) (s : Same H H') : Src a n H' := by
  obtain ⟨d, s', c, e, r⟩ := h
  exact ⟨d, s', c, s _ _ e, r⟩
theorem Src.ne {a p : Addr} {n : Nat} {H : Hp} (h : Src a n H) (e : H p = none) : p ≠ a := by
  obtain ⟨_, _, _, q, _⟩ := h
  rintro rfl
  rw [e] at q; cases q
end Cs
local macro_rules | `(tactic| walk_at "go") => `(tactic| repeat (first
  | with_reducible refine Cs.rd_seq ?_ | with_reducible refine Cs.rd_asg ?_ | with_reducible refine Cs.rd_gname ?_ | with_reducible refine Cs.rd_var rfl ?_ | with_reducible refine Cs.rd_c ?_ | with_reducible refine Cs.rd_op ?_
  | with_reducible refine Cs.rd_i0 ?_ | with_reducible refine Cs.rd_cons ?_ | with_reducible refine Cs.rd_nil ?_ | with_reducible refine Cs.rd_call ?_ | with_reducible refine Cs.rd_cb ?_ | with_reducible refine Cs.rd_ret ?_ | with_reducible refine Cs.rd_ifs ?_
  | with_reducible refine Cs.rd_test ?_ | with_reducible refine Cs.rd_tB ?_ | with_reducible refine Cs.rd_bl ?_ | with_reducible refine Cs.rd_eq rfl ?_ | with_reducible refine Cs.rd_ne rfl ?_ | with_reducible refine Cs.rd_tup ?_ | with_reducible refine Cs.rd_lst ?_
  | with_reducible refine Cs.rd_bm0 ?_ | with_reducible refine Cs.rd_bm ?_ | with_reducible refine Cs.rd_gsub ?_ | with_reducible refine Cs.rd_and ?_ | with_reducible refine Cs.rd_or ?_ | with_reducible refine Cs.rd_not ?_ | with_reducible refine Cs.rd_andV ?_
  | with_reducible refine Cs.rd_orV ?_ | with_reducible refine Cs.rd_notV ?_ | with_reducible refine Cs.rd_ife ?_ | with_reducible refine Cs.rd_drop ?_ | with_reducible refine Cs.rd_next ?_ | with_reducible refine Cs.rd_un ?_ | with_reducible refine L2.iteT ?_ | with_reducible refine L2.iteF ?_
  | with_reducible refine Cs.rd_m1 ?_ | with_reducible refine Cs.rd_gcons ?_ | with_reducible refine Cs.rd_gnil ?_ | with_reducible refine Cs.rd_truth ?_ | with_reducible refine Cs.rd_yes ?_ | with_reducible refine Cs.rd_sl ?_ | with_reducible refine Cs.rd_nopart ?_ | with_reducible refine Cs.rd_part ?_ | with_reducible refine Cs.rd_int ?_ | with_reducible refine Cs.rd_strx ?_
  | with_reducible refine Cs.rd_rng1 ?_ | with_reducible refine Cs.rd_ilist ?_ | with_reducible refine Cs.rd_itup ?_ | with_reducible refine Cs.rd_istr ?_ | with_reducible refine Cs.rd_strj ?_ | with_reducible refine Cs.rd_lc ?_ | with_reducible refine Cs.rd_for ?_
  | with_reducible refine Cs.rd_chain ?_
  | with_reducible refine Cs.rd_par ?_ | with_reducible refine Cs.rd_parj ?_ | with_reducible refine Cs.rd_aug rfl ?_ | with_reducible refine Cs.rd_ipi ?_))
namespace Cs
open PySem L2
open PyProof.Rows (envOfC)
def topS (i : Nat) : Stmt := PySem.Challenge.pw_cutscribe_k01_patterns_looked_at.main.body.getD i (.Pass ⟨0, 0, 0, 0⟩)
abbrev s_is_pattern : Stmt := topS 4
theorem sc_is_pattern : FnScope ["alphabet", "value"] ["alphabet", "value"] (defScope s_is_pattern) := ⟨rfl, rfl, rfl, by decide +kernel, rfl, by decide +kernel, by decide +kernel⟩
abbrev s__is_small_expression : Stmt := topS 5
theorem sc__is_small_expression : FnScope ["alphabet", "value", "waiting", "tuples", "part", "must_be_plain", "plain_below", "inner"] ["alphabet", "value"] (defScope s__is_small_expression) := ⟨rfl, rfl, rfl, by decide +kernel, rfl, by decide +kernel, by decide +kernel⟩
abbrev s__is_well_formed : Stmt := topS 6
theorem sc__is_well_formed : FnScope ["alphabet", "value", "word"] ["alphabet", "value"] (defScope s__is_well_formed) := ⟨rfl, rfl, rfl, by decide +kernel, rfl, by decide +kernel, by decide +kernel⟩
abbrev s__is_selection : Stmt := topS 7
theorem sc__is_selection : FnScope ["alphabet", "value", "character"] ["alphabet", "value"] (defScope s__is_selection) := ⟨rfl, rfl, rfl, by decide +kernel, rfl, by decide +kernel, by decide +kernel⟩
abbrev s__is_range : Stmt := topS 8
theorem sc__is_range : FnScope ["low", "high"] ["low", "high"] (defScope s__is_range) := ⟨rfl, rfl, rfl, by decide +kernel, rfl, by decide +kernel, by decide +kernel⟩
abbrev s__is_integer_within : Stmt := topS 9
theorem sc__is_integer_within : FnScope ["value", "least", "most"] ["value", "least", "most"] (defScope s__is_integer_within) := ⟨rfl, rfl, rfl, by decide +kernel, rfl, by decide +kernel, by decide +kernel⟩
abbrev s__parts : Stmt := topS 10
theorem sc__parts : FnScope ["expression"] ["expression"] (defScope s__parts) := ⟨rfl, rfl, rfl, by decide +kernel, rfl, by decide +kernel, by decide +kernel⟩
abbrev s__width : Stmt := topS 11
theorem sc__width : FnScope ["expression", "width", "low", "high", "part"] ["expression"] (defScope s__width) := ⟨rfl, rfl, rfl, by decide +kernel, rfl, by decide +kernel, by decide +kernel⟩
abbrev s__law_source : Stmt := topS 13
theorem sc__law_source : FnScope ["_law_script", "_law_k", "_law_cell", "_law_deep"] ["_law_script", "_law_k"] (defScope s__law_source) := ⟨rfl, rfl, rfl, by decide +kernel, rfl, by decide +kernel, by decide +kernel⟩
abbrev s__law_draw : Stmt := topS 14
theorem sc__law_draw : FnScope ["_law_source_here", "_law_many", "_law_digit", "_law_seed"] ["_law_source_here", "_law_many"] (defScope s__law_draw) := ⟨rfl, rfl, rfl, by decide +kernel, rfl, by decide +kernel, by decide +kernel⟩
abbrev s__law_alphabet : Stmt := topS 15
theorem sc__law_alphabet : FnScope ["_law_source_here", "_law_many", "_law_left", "_law_k"] ["_law_source_here", "_law_many"] (defScope s__law_alphabet) := ⟨rfl, rfl, rfl, by decide +kernel, rfl, by decide +kernel, by decide +kernel⟩
abbrev s__law_set : Stmt := topS 16
theorem sc__law_set : FnScope ["_law_source_here", "_law_alphabet_here", "_law_many", "_law_taken", "_law_k", "_law_at"] ["_law_source_here", "_law_alphabet_here"] (defScope s__law_set) := ⟨rfl, rfl, rfl, by decide +kernel, rfl, by decide +kernel, by decide +kernel⟩
abbrev s__law_row : Stmt := topS 17
theorem sc__law_row : FnScope ["_law_source_here", "_law_alphabet_here", "_law_many", "_law_k"] ["_law_source_here", "_law_alphabet_here", "_law_many"] (defScope s__law_row) := ⟨rfl, rfl, rfl, by decide +kernel, rfl, by decide +kernel, by decide +kernel⟩
abbrev s__law_plain : Stmt := topS 18
theorem sc__law_plain : FnScope ["_law_source_here", "_law_alphabet_here", "_law_room", "_law_way", "_law_size", "_law_many", "_law_part", "_law_low", "_law_high"] ["_law_source_here", "_law_alphabet_here", "_law_room"] (defScope s__law_plain) := ⟨rfl, rfl, rfl, by decide +kernel, rfl, by decide +kernel, by decide +kernel⟩
abbrev s__law_pattern : Stmt := topS 19
theorem sc__law_pattern : FnScope ["_law_source_here", "_law_alphabet_here", "_law_room", "_law_size", "_law_barred"] ["_law_source_here", "_law_alphabet_here", "_law_room"] (defScope s__law_pattern) := ⟨rfl, rfl, rfl, by decide +kernel, rfl, by decide +kernel, by decide +kernel⟩
abbrev s__law_nested : Stmt := topS 20
theorem sc__law_nested : FnScope ["_law_source_here", "_law_alphabet_here", "_law_depth", "_law_way", "_law_low", "_law_high", "_law_parts", "_law_k"] ["_law_source_here", "_law_alphabet_here", "_law_depth"] (defScope s__law_nested) := ⟨rfl, rfl, rfl, by decide +kernel, rfl, by decide +kernel, by decide +kernel⟩
abbrev s__law_other : Stmt := topS 21
theorem sc__law_other : FnScope ["_law_source_here", "_law_alphabet_here", "_law_some"] ["_law_source_here", "_law_alphabet_here"] (defScope s__law_other) := ⟨rfl, rfl, rfl, by decide +kernel, rfl, by decide +kernel, by decide +kernel⟩
abbrev s__law_changed : Stmt := topS 22
theorem sc__law_changed : FnScope ["_law_source_here", "_law_alphabet_here", "_law_value", "_law_at", "_law_inner", "_law_k", "_law_way", "_law_low"] ["_law_source_here", "_law_alphabet_here", "_law_value"] (defScope s__law_changed) := ⟨rfl, rfl, rfl, by decide +kernel, rfl, by decide +kernel, by decide +kernel⟩
abbrev s__law_is_number : Stmt := topS 23
theorem sc__law_is_number : FnScope ["_law_value", "_law_low"] ["_law_value", "_law_low"] (defScope s__law_is_number) := ⟨rfl, rfl, rfl, by decide +kernel, rfl, by decide +kernel, by decide +kernel⟩
abbrev s__law_fits : Stmt := topS 24
theorem sc__law_fits : FnScope ["_law_alphabet_here", "_law_value", "_law_word", "_law_parts", "_law_places", "_law_character", "_law_part"] ["_law_alphabet_here", "_law_value"] (defScope s__law_fits) := ⟨rfl, rfl, rfl, by decide +kernel, rfl, by decide +kernel, by decide +kernel⟩
abbrev s__law_measures : Stmt := topS 25
theorem sc__law_measures : FnScope ["_law_value", "_law_word", "_law_found", "_law_wide", "_law_plain_here", "_law_right", "_law_part", "_law_one"] ["_law_value"] (defScope s__law_measures) := ⟨rfl, rfl, rfl, by decide +kernel, rfl, by decide +kernel, by decide +kernel⟩
abbrev s__law_due : Stmt := topS 26
theorem sc__law_due : FnScope ["_law_alphabet_here", "_law_value", "_law_wide", "_law_tuples", "_law_plain_here", "_law_right"] ["_law_alphabet_here", "_law_value"] (defScope s__law_due) := ⟨rfl, rfl, rfl, by decide +kernel, rfl, by decide +kernel, by decide +kernel⟩
abbrev s_law : Stmt := topS 27
theorem sc_law : FnScope ["_law_script", "_law_k", "_law_source_here", "_law_alphabet_here", "_law_value", "_law_turn", "_law_found"] ["_law_script"] (defScope s_law) := ⟨rfl, rfl, rfl, by decide +kernel, rfl, by decide +kernel, by decide +kernel⟩
end Cs
namespace Cs
open PySem L2
open PyProof.Rows (envOfC)
/-! the built-in names, which no law's text binds anew -/
structure Blt (mg : Str → Option Value) : Prop where
  len : mg "len" = none
  range : mg "range" = none
  isinstance : mg "isinstance" = none
  max : mg "max" = none
  min : mg "min" = none
  sum : mg "sum" = none
  all : mg "all" = none
  any : mg "any" = none
  list : mg "list" = none
  tuple : mg "tuple" = none
  int : mg "int" = none
  str : mg "str" = none
  bool : mg "bool" = none
  sorted : mg "sorted" = none
  set : mg "set" = none
  enumerate : mg "enumerate" = none
  zip : mg "zip" = none

end Cs
namespace Cs
open PySem L2
open PyProof.Rows (envOfC)
/-! what the top has left, def by def -/
theorem at_mk {K : PySem.W.Frag} {h : Heap} {mg : Str → Option Value} (X : K.In h) (G : h.Ns mainGlobals mg) {x : Str} {st : Stmt} {ps : List Str} {f : Addr} {oc : Value} {od an : Option Addr} {osl : Array (Option Value)} {kV dc pm cd ct : Value}
    (a : PySem.W.nsIn K mainGlobals x = some (some (.ref f))) (l : K.lookup f = some ⟨oc, od, .func (PySem.W.fnOf x x (defArgs st) (defBody st) (defScope st) .none kV dc pm an cd ct), osl⟩) (c : PySem.W.codeIn K cd x = true) (k : PySem.W.keepIn K (.ref f) = true)
    (b : ∀ (kV dc pm : Value) (an : Option Addr) (cd ct : Value) (us : List Value), us.length = ps.length → bindArgs (PySem.W.fnOf x x (defArgs st) (defBody st) (defScope st) .none kV dc pm an cd ct) ⟨us, []⟩ = pure (ps.zip us)) : At K mg x st ps :=
  ⟨⟨f, _, fun_mk l c k, PySem.W.mg_of X G a, (fun_mk l c k).binds b⟩⟩
def spLaw (K : PySem.W.Frag) : Sp := fun vs H Q _ => ∃ (a : Addr) (ns : List Int), vs = [.ref a] ∧ SqL K H a (ns.map V.int) ∧ ns.length ≤ 63 ∧ ∀ H', Q (.bl true) H'
theorem walk_c {l : PySem.W.OpenLaw} {q : Program} {loose : List Str} {XP : (Str → Option Value) → Heap → Prop} {YP : World → Heap → Prop} {d : DefRec} {K : Params → PySem.W.Frag} {st : Stmt} (hn : l.most = some 63) (hdf : d.params.defaults = []) (hnm : d.name = "law")
    (hY : ∀ (w : World) (h : Heap), YP w h → (K w.params).In h)
    (F : ∀ (w : World) (mg : Str → Option Value) (h : Heap), (K w.params).In h → h.Ns mainGlobals mg →
      ∃ (f : Addr) (oc : Value) (od an : Option Addr) (osl : Array (Option Value)) (kV dc pm cd ct : Value), PySem.W.nsIn (K w.params) mainGlobals "law" = some (some (.ref f)) ∧ (K w.params).lookup f = some ⟨oc, od, .func (PySem.W.fnOf "law" "law" (defArgs st) (defBody st) (defScope st) .none kV dc pm an cd ct), osl⟩ ∧
        PySem.W.codeIn (K w.params) cd "law" = true ∧ PySem.W.keepIn (K w.params) (.ref f) = true ∧
        (∀ (kV dc pm : Value) (an : Option Addr) (cd ct u : Value), bindArgs (PySem.W.fnOf "law" "law" (defArgs st) (defBody st) (defScope st) .none kV dc pm an cd ct) ⟨[u], []⟩ = pure [(("_law_script" : Str), u)]) ∧
        ∀ (base : Heap) (f : Addr) (fd : FuncData), Fun (K w.params) "law" "law" st f fd → FnOk l.prog w (K w.params) mg base CX0 200 f fd ["_law_script"] (spLaw (K w.params))) :
    PySem.W.WalkO q loose XP YP l.row.toRowW d [] (fun f vs => PySem.call f vs) := by
  refine L2.walk_of (n := 63) (k := 200) (x := "_law_script") (CX := fun _ => CX0) (sp := fun w => spLaw (K w.params)) hn (by decide) hdf ⟨rfl, by decide, by decide⟩ hY (fun w mg fa h X G hfa => ?_) (fun _ _ a ns hl _ hS => ⟨a, ns, rfl, hS, hl, fun _ => rfl⟩) fun _ _ _ _ _ z => z
  obtain ⟨f, oc, od, an, osl, kV, dc, pm, cd, ct, a, lk, c, k, hb, G2⟩ := F w mg h X G
  rw [hnm] at hfa
  have e := hfa.symm.trans (PySem.W.mg_of X G a)
  cases e
  exact ⟨_, fun s v => .of_eq (hb _ _ _ _ _ _ _), fun base _ _ => G2 base _ _ (fun_mk lk c k)⟩
theorem blt_mk {K : PySem.W.Frag} {h : Heap} {mg : Str → Option Value} (X : K.In h) (G : h.Ns mainGlobals mg) (z0 : PySem.W.nsIn K mainGlobals "len" = some none) (z1 : PySem.W.nsIn K mainGlobals "range" = some none) (z2 : PySem.W.nsIn K mainGlobals "isinstance" = some none) (z3 : PySem.W.nsIn K mainGlobals "max" = some none) (z4 : PySem.W.nsIn K mainGlobals "min" = some none) (z5 : PySem.W.nsIn K mainGlobals "sum" = some none) (z6 : PySem.W.nsIn K mainGlobals "all" = some none) (z7 : PySem.W.nsIn K mainGlobals "any" = some none) (z8 : PySem.W.nsIn K mainGlobals "list" = some none) (z9 : PySem.W.nsIn K mainGlobals "tuple" = some none) (z10 : PySem.W.nsIn K mainGlobals "int" = some none) (z11 : PySem.W.nsIn K mainGlobals "str" = some none) (z12 : PySem.W.nsIn K mainGlobals "bool" = some none) (z13 : PySem.W.nsIn K mainGlobals "sorted" = some none) (z14 : PySem.W.nsIn K mainGlobals "set" = some none) (z15 : PySem.W.nsIn K mainGlobals "enumerate" = some none) (z16 : PySem.W.nsIn K mainGlobals "zip" = some none) : Blt mg :=
  ⟨PySem.W.mg_none_of X G z0, PySem.W.mg_none_of X G z1, PySem.W.mg_none_of X G z2, PySem.W.mg_none_of X G z3, PySem.W.mg_none_of X G z4, PySem.W.mg_none_of X G z5, PySem.W.mg_none_of X G z6, PySem.W.mg_none_of X G z7, PySem.W.mg_none_of X G z8, PySem.W.mg_none_of X G z9, PySem.W.mg_none_of X G z10, PySem.W.mg_none_of X G z11, PySem.W.mg_none_of X G z12, PySem.W.mg_none_of X G z13, PySem.W.mg_none_of X G z14, PySem.W.mg_none_of X G z15, PySem.W.mg_none_of X G z16⟩
theorem const_mk {K : PySem.W.Frag} {h : Heap} {mg : Str → Option Value} (X : K.In h) (G : h.Ns mainGlobals mg) {x : Str} {u : Value} {v : V} (a : PySem.W.nsIn K mainGlobals x = some (some u)) (r : RelV v u) : ∃ u, mg x = some u ∧ RelV v u := ⟨u, PySem.W.mg_of X G a, r⟩
theorem law_mk {P : Program} {w : World} {K : PySem.W.Frag} {mg : Str → Option Value} {st : Stmt} {f : Addr} {oc : Value} {od an : Option Addr} {osl : Array (Option Value)} {kV dc pm cd ct : Value}
    (a : PySem.W.nsIn K mainGlobals "law" = some (some (.ref f))) (l : K.lookup f = some ⟨oc, od, .func (PySem.W.fnOf "law" "law" (defArgs st) (defBody st) (defScope st) .none kV dc pm an cd ct), osl⟩) (c : PySem.W.codeIn K cd "law" = true) (k : PySem.W.keepIn K (.ref f) = true)
    (b : ∀ (kV dc pm : Value) (an : Option Addr) (cd ct u : Value), bindArgs (PySem.W.fnOf "law" "law" (defArgs st) (defBody st) (defScope st) .none kV dc pm an cd ct) ⟨[u], []⟩ = pure [(("_law_script" : Str), u)])
    (G2 : ∀ (base : Heap) (f : Addr) (fd : FuncData), Fun K "law" "law" st f fd → FnOk P w K mg base CX0 200 f fd ["_law_script"] (spLaw K)) :
    ∃ (f : Addr) (oc : Value) (od an : Option Addr) (osl : Array (Option Value)) (kV dc pm cd ct : Value), PySem.W.nsIn K mainGlobals "law" = some (some (.ref f)) ∧ K.lookup f = some ⟨oc, od, .func (PySem.W.fnOf "law" "law" (defArgs st) (defBody st) (defScope st) .none kV dc pm an cd ct), osl⟩ ∧
      PySem.W.codeIn K cd "law" = true ∧ PySem.W.keepIn K (.ref f) = true ∧
      (∀ (kV dc pm : Value) (an : Option Addr) (cd ct u : Value), bindArgs (PySem.W.fnOf "law" "law" (defArgs st) (defBody st) (defScope st) .none kV dc pm an cd ct) ⟨[u], []⟩ = pure [(("_law_script" : Str), u)]) ∧
      ∀ (base : Heap) (f : Addr) (fd : FuncData), Fun K "law" "law" st f fd → FnOk P w K mg base CX0 200 f fd ["_law_script"] (spLaw K) :=
  ⟨f, oc, od, an, osl, kV, dc, pm, cd, ct, a, l, c, k, b, G2⟩

end Cs
namespace Cs
open PySem L2
open PyProof.Rows (envOfC)
/-! list(text): a new list of its signs -/
section
open PySem.Calls PyProof.Rows PyProof.V PySem.Spec PySem.W
variable {prog : Program} {w : World} {A : Around} {E : Value → Shared → Prop} {s : Shared} {x : Str} {t : Tok}
theorem hint_str {Q : Bool → Shared → Prop} (h : Q false s) : wpAny (model prog w) A (Builtin.List.listLengthHint (.str x t)) Q E s := by
  have hT : s.TypeIs (.str x t) "str" := typeIs_str s x t
  unfold Builtin.List.listLengthHint
  refine wpAny_bind (wpAny_specialOf hT PySem.F.slot_str_len.lookup ?_)
  generalize hid : ("str.__len__" : String) = id0
  wp_delta
  rw [show splitId id0 = some ("str", "__len__") from by subst hid; decide +kernel]
  subst hid
  refine wpAny_bind (wpAny_isInstance (T := "str") (b := true) hT (by rw [isSubtype_type]; kernel_rfl) ?_)
  refine wpAny_ite_split (fun hab => absurd hab (by decide)) (fun _ => ?_)
  refine wpAny_ite_split (fun _ => ?_) (fun hab => absurd (by decide +kernel) hab)
  refine wpAny_bind (wpAny_typeOf hT ?_)
  exact wpAny_pure h
theorem extend_str {R : Result → Shared → Prop} (hh : A.handled = none) (S : Addr) (res : Value) (c₀ : Nat) (hS : s.heap.get? S = some { cls := .type "list", data := .seq #[] c₀ })
    (hR : ∀ h' tk acc' c', (∀ b o, b ≠ S → s.heap.get? b = some o → h'.get? b = some o) → h'.get? S = some { cls := .type "list", dict := none, data := .seq acc' c', slots := #[] } → ItemsOf (SignAt x) acc' x.cps.size → R (.ok (.ret res)) { s with heap := h', toks := tk }) (hn : x.cps.size ≤ sizeLine) :
    wpAny (model prog w) A.in1 (Builtin.List.listExtendWith (.ref S) (.str x t) res)
      (fun fin s' => match fin with | .done f => R (.ok f) s' | .again c' => c'.quiet = true ∧ codeAny (model prog w) A c' R s') (fun e s' => R (.error e) s') s := by
  have hSI : S ≠ s.heap.objs.size := Nat.ne_of_lt (Heap.lt_size hS)
  have hSf : S ∉ [s.heap.objs.size] := by simp only [List.mem_cons, List.not_mem_nil, or_false]; exact hSI
  obtain ⟨oI, St, hit, W, st⟩ : ∃ (oI : Obj) (St : Nat → Heap → Prop),
      (∀ (E : Value → Shared → Prop) (Q : Value → Shared → Prop), Q (.ref s.heap.objs.size) { s with heap := s.heap.push oI } → wpAny (model prog w) A.in1 (pyIter (.str x t)) Q E s) ∧
      Walks prog w A.in1 s.heap.objs.size [s.heap.objs.size] [s.heap.objs.size] x.cps.size (SignAt x) St ∧ St 0 (s.heap.push oI) := by
    cases ha : x.cps.all (· < 128)
    · exact ⟨_, _, fun _ _ hq => wpAny_pyIter_wide ha hq, Walks.strWide (A := A.in1) hh _ x t, ⟨_, Heap.get?_push_size _ rfl, rfl, rfl⟩⟩
    · exact ⟨_, _, fun _ _ hq => wpAny_pyIter_ascii ha hq, Walks.strAscii (A := A.in1) hh _ x t, ⟨_, Heap.get?_push_size _ rfl, rfl, rfl⟩⟩
  have key : ∀ (h : Heap) (c₁ tk : Nat), St 0 h → (∀ b o, b ≠ S → s.heap.get? b = some o → h.get? b = some o) →
      h.get? S = some { cls := .type "list", data := .seq #[] c₁ } → codeAny (model prog w) A (.builtin "list.extend.loop" ⟨[.ref S, .ref s.heap.objs.size, res], []⟩) R { s with heap := h, toks := tk } := by
    intro h c₁ tk hst hk hS₁
    refine codeAny_extend_loopS W.toS hn S hSf res x.cps.size 0 _ #[] c₁ rfl (Nat.zero_le _) hst hS₁ (ItemsOf.nil _) fun s' acc' c' hm hS' hacc => ?_
    rw [Moved.eq_with hm]
    refine hR s'.heap s'.toks acc' c' (fun b o hb e => hm.heap b o (fun hmem => ?_) (hk b o hb e)) hS' hacc
    rcases List.mem_cons.mp hmem with e' | hmem
    · exact hb e'
    · exact absurd (Heap.lt_size e) (by rw [List.mem_singleton.mp hmem]; exact Nat.lt_irrefl _)
  unfold Builtin.List.listExtendWith
  refine wpAny_bind (wpAny_typeOf (T := "str") (typeIs_str s x t) ?_)
  have h1 : Builtin.List.listSameRef (.ref S) (.str x t) = false := rfl
  have h2 : (Value.type "str" == Value.type "list") = false := by decide
  have h3 : (Value.type "str" == Value.type "tuple") = false := by decide
  simp only [h1, h2, h3, Bool.or_false, Bool.false_eq_true, if_false]
  refine wpAny_bind (hit _ _ ?_)
  have hS₁ := Heap.get?_push_of_some oI hS
  refine wpAny_bind (wpAny_holding (hint_str ?_))
  refine wpAny_ite_split (fun _ => ?_) (fun _ => wpAny_pure ⟨plainId_quiet PySem.F.plain_extend_loop _, key _ c₀ _ st (fun b o _ e => Heap.get?_push_of_some _ e) hS₁⟩)
  refine wpAny_bind (wpAny_rule ?_)
  refine wpAny_bind ?_
  show wpAny _ _ (updateSeq S (·.push .none) >>= fun _ => updateSeq S (·.pop)) _ _ _
  refine wpAny_bind (wpAny_updateSeq hS₁ rfl ?_)
  have hS₂ := Heap.get?_update_self (Obj.mapSeq (·.push Value.none)) hS₁ rfl
  refine wpAny_updateSeq (hz := by seq_fits) hS₂ rfl ?_
  have hS₃ := Heap.get?_update_self (Obj.mapSeq (·.pop)) hS₂ rfl
  refine wpAny_pure ⟨plainId_quiet PySem.F.plain_extend_loop _, key _ _ _ ?_ (fun b o hb e => ?_) hS₃⟩
  · refine W.frame 0 _ _ st fun b hb o e => ?_
    have hbS : b ≠ S := fun h => hSf (h ▸ hb)
    exact (Heap.get?_update_other _ _ (Ne.symm hbS)).trans ((Heap.get?_update_other _ _ (Ne.symm hbS)).trans e)
  · exact (Heap.get?_update_other _ _ (Ne.symm hb)).trans ((Heap.get?_update_other _ _ (Ne.symm hb)).trans (Heap.get?_push_of_some _ e))
theorem init_str {R : Result → Shared → Prop} (hh : A.handled = none) (S : Addr) (hS : s.heap.get? S = some { cls := .type "list", data := .seq #[] })
    (hR : ∀ h' tk acc' c', (∀ b o, b ≠ S → s.heap.get? b = some o → h'.get? b = some o) → h'.get? S = some { cls := .type "list", dict := none, data := .seq acc' c', slots := #[] } → ItemsOf (SignAt x) acc' x.cps.size → R (.ok (.ret .none)) { s with heap := h', toks := tk }) (hn : x.cps.size ≤ sizeLine) :
    wpAny (model prog w) A.in1 (Builtin.«list.__init__» ⟨[.ref S, .str x t], []⟩)
      (fun fin s' => match fin with | .done f => R (.ok f) s' | .again c' => c'.quiet = true ∧ codeAny (model prog w) A c' R s') (fun e s' => R (.error e) s') s := by
  show wpAny _ _ (do let old ← Builtin.List.listItems (.ref S); Builtin.List.listUpdate (.ref S) (fun _ => #[]); letGo old.toList.reverse; Builtin.List.listExtendWith (.ref S) (.str x t) .none) _ _ s
  refine wpAny_bind ?_
  unfold Builtin.List.listItems
  refine wpAny_bind (wpAny_seqItems hS rfl (wpAny_pure ?_))
  show wpAny _ _ (updateSeq S (fun _ => #[]) >>= fun _ => letGo (#[] : Array Value).toList.reverse >>= fun _ => Builtin.List.listExtendWith (.ref S) (.str x t) .none) _ _ s
  refine wpAny_bind (wpAny_updateSeq hS rfl ?_)
  have hS₂ := Heap.get?_update_self (Obj.mapSeq (fun _ => (#[] : Array Value))) hS rfl
  have oth : ∀ b o, b ≠ S → s.heap.get? b = some o → (s.heap.update S (Obj.mapSeq (fun _ => (#[] : Array Value)))).get? b = some o :=
    fun b o hb e => (Heap.get?_update_other _ _ (Ne.symm hb)).trans e
  refine wpAny_bind (wpAny_letGo ?_)
  refine extend_str hh S .none _ hS₂ (fun h' tk acc' c' hk hS' hacc => ?_) hn
  exact hR h' tk acc' c' (fun b o hb e => hk b o hb (oth b o hb e)) hS' hacc
theorem list_of_str {Q : Value → Shared → Prop} (hh : A.handled = none) (hn : x.cps.size ≤ sizeLine)
    (hQ : ∀ h' tk acc' c', (∀ b o, s.heap.get? b = some o → h'.get? b = some o) → h'.get? s.heap.objs.size = some { cls := .type "list", dict := none, data := .seq acc' c', slots := #[] } → ItemsOf (SignAt x) acc' x.cps.size → Q (.ref s.heap.objs.size) { s with heap := h', toks := tk }) :
    wpAny (model prog w) A (call (.type "list") [.str x t]) Q E s := by
  refine callType_codes (Q₁ := fun obj s₁ => obj = .ref s.heap.objs.size ∧ s₁ = { s with heap := s.heap.push { cls := .type "list", data := .seq #[] } }) PySem.F.called_list (PySem.F.typeCall_list_1 _) PySem.F.entry_list_init
    (code_list_new _ ⟨rfl, rfl⟩) fun obj s₁ h₁ => ?_
  obtain ⟨rfl, rfl⟩ := h₁
  have hS : (s.heap.push { cls := .type "list", data := .seq #[] }).get? s.heap.objs.size = some { cls := .type "list", data := .seq #[] } := Heap.get?_push_size _ rfl
  refine ⟨⟨_, hS, rfl⟩, PySem.F.args_list_init_2 _ _, init_str (A := A.in1) hh _ hS (fun h' tk acc' c' hk hS' hacc => ?_) hn⟩
  exact ⟨rfl, hQ h' tk acc' c' (fun b o e => hk b o (Nat.ne_of_lt (Heap.lt_size e)) (Heap.get?_push_of_some _ e)) hS' hacc⟩
end
def signs (z : Str) : List Str := z.cps.toList.map fun c => ⟨#[c]⟩
theorem vals_signs : ∀ (zs : List Nat) (us : List Value), us.length = zs.length → (∀ (i : Nat) (v : Value), us[i]? = some v → ∃ c u, zs[i]? = some c ∧ v = .str ⟨#[c]⟩ u) → Vals ((zs.map fun c => (⟨#[c]⟩ : Str)).map V.str) us
  | [], [], _, _ => .nil
  | [], _ :: _, e, _ => by simp at e
  | _ :: _, [], e, _ => by simp at e
  | z :: zs, u :: us, e, h => by
    obtain ⟨c, t, h1, h2⟩ := h 0 u rfl
    have h1 : z = c := by simpa using h1
    subst h1
    refine .cons ⟨t, h2⟩ (vals_signs zs us (by simpa using e) fun i v hv => ?_)
    obtain ⟨c, t', a, b⟩ := h (i + 1) v (by simpa using hv)
    exact ⟨c, t', by simpa using a, b⟩
theorem call_list_str {X : Cx} (hc : X.calm = true) : CallR X (.type "list") (fun xs H Q => ∃ z : Str, xs = [.str z] ∧ z.cps.size ≤ sizeLine ∧ ∀ l, H l = none → Q (.ref l) (upd H l (.lst ((signs z).map V.str)))) := by
  intro pins s σ H xs us Q I r h
  obtain ⟨z, rfl, hz, q⟩ := h
  obtain ⟨u, rfl, t, rfl⟩ := vals1 r
  refine list_of_str (I.ok.hd hc) hz fun h' tk acc' c' kp e it => ?_
  have vs : Vals ((signs z).map V.str) acc'.toList := by
    refine vals_signs z.cps.toList acc'.toList (by rw [Array.length_toList, Array.length_toList]; exact it.1) fun i v hv => ?_
    obtain ⟨c, u, a, b⟩ := it.2 i v (by rw [← Array.getElem?_toList]; exact hv)
    exact ⟨c, u, by rw [Array.getElem?_toList]; exact a, b⟩
  have hl : ((signs z).map V.str).length ≤ sizeLine := by
    rw [List.length_map, signs, List.length_map, Array.length_toList]; exact hz
  refine ⟨.ref s.heap.objs.size, _, I.laid (t' := tk) kp (Nat.le_refl _) (show ObjOk X.prog X.w _ h' _ (.lst _) from ⟨hl, acc'.toList, c', vs, by rw [e]⟩), rfl, q _ (I.hok.fresh (Nat.le_refl _))⟩

end Cs
namespace Cs
open PySem L2
open PyProof.Rows (envOfC)
/-! texts as lists of codes -/
abbrev S (l : List Nat) : Str := ⟨l.toArray⟩
theorem S_len (a : List Nat) : (S a).length = a.length := by simp [S, Str.length]
theorem S_cps (x : Str) : S x.cps.toList = x := by cases x; rfl
theorem S_inj {a b : List Nat} (h : S a = S b) : a = b := congrArg (fun x : Str => x.cps.toList) h
theorem signs_S (l : List Nat) : signs (S l) = l.map fun c => S [c] := rfl
theorem joinL_nil : ∀ ys : List (List Nat), TL.joinL [] ys = ys.flatten
  | [] => rfl
  | [p] => by show p = [p].flatten; simp
  | p :: q :: r => by
    show p ++ ([] ++ TL.joinL [] (q :: r)) = (p :: q :: r).flatten
    rw [joinL_nil (q :: r)]; simp
theorem map_tl_S : ∀ l : List (List Nat), (l.map S).map TL.tl = l
  | [] => rfl
  | x :: l => congrArg (fun z => x :: z) (map_tl_S l)
theorem join_nil (ys : List (List Nat)) : Txt.join (S []) (ys.map S) = S ys.flatten := by
  have e := TL.tl_join (S []) (ys.map S)
  rw [map_tl_S] at e
  have e2 : TL.tl (Txt.join (S []) (ys.map S)) = TL.tl (S (TL.joinL [] ys)) := (congrArg TL.tl (TL.join_eq (S []) (ys.map S))).trans e
  exact (TL.ext_tl e2).trans (by rw [joinL_nil])
theorem flat1 : ∀ cs : List Nat, (cs.map fun c => [c]).flatten = cs
  | [] => rfl
  | c :: cs => by
    show [c] ++ (cs.map fun c => [c]).flatten = c :: cs
    rw [flat1 cs]; rfl
theorem join_signs (cs : List Nat) : Txt.join (S []) (cs.map fun c => S [c]) = S cs := by
  have e := join_nil (cs.map fun c => [c])
  rw [flat1, List.map_map] at e
  exact e
theorem sum_signs (cs : List Nat) : ((cs.map fun c => S [c]).map (·.length)).sum = cs.length := by
  induction cs with
  | nil => rfl
  | cons c cs ih =>
    show 1 + ((cs.map fun c => S [c]).map (·.length)).sum = cs.length + 1
    omega
theorem empty_S : Str.ofString "" = S [] := by decide +kernel
/-- a heap that keeps all but a, and lays what was not there -/
theorem Kp.lay {a p : Addr} {H0 H : Hp} {o : HO} (k : Kp a H0 H) (n : H0 p = none) : Kp a H0 (upd H p o) := fun b u e => by
  obtain ⟨nb, e0⟩ := hid_sub e
  have q : b ≠ p := fun z => by rw [z, n] at e0; cases e0
  have z := k b u e
  obtain ⟨_, z⟩ := hid_sub z
  rw [hid_ne nb, upd_ne q]; exact z
theorem Kp.none {a b : Addr} {H H' : Hp} (k : Kp a H H') (n : b ≠ a) (h : H' b = none) : H b = none := by
  cases e : H b with
  | none => rfl
  | some o => rw [k.at n e] at h; cases h
theorem Src.lay {a p : Addr} {n : Nat} {H : Hp} {o : HO} (h : Src a n H) (e : p ≠ a) : Src a n (upd H p o) := by
  obtain ⟨d, s, c, q, r⟩ := h
  exact ⟨d, s, c, by rw [upd_ne (Ne.symm e)]; exact q, r⟩
theorem Same.lay {p : Addr} {H : Hp} {o : HO} (n : H p = none) : Same H (upd H p o) := fun b u e => by rw [upd_ne (ne_of_none e n)]; exact e
theorem Same.lay2 {p : Addr} {H0 H : Hp} {o : HO} (k : Same H0 H) (n : H0 p = none) : Same H0 (upd H p o) := fun b u e => by rw [upd_ne (ne_of_none e n)]; exact k b u e
/-- an alphabet: distinct small codes -/
structure Alp (al : List Nat) : Prop where
  nd : al.Nodup
  lo : 1 ≤ al.length
  hi : al.length ≤ 6
  asc : ∀ c ∈ al, c ∈ [97, 98, 99, 100, 101, 102, 103, 104, 105, 106, 107, 108, 109, 110, 111, 112, 113, 114, 115, 116, 117, 118, 119, 120, 121, 122, 48, 49, 50, 51, 52, 53, 54, 55, 56, 57, 32, 45, 46, 95]
theorem seqIx {j n : Nat} (h : j < n) : seqIndex? (j : Int) n = some j := by
  unfold seqIndex?
  have a : ¬ ((j : Int) < 0) := by omega
  simp only [a, if_false]
  have b : (decide (0 ≤ (j : Int)) && decide ((j : Int) < (n : Int))) = true := by simp; omega
  rw [if_pos b]; simp
theorem map_erase {α β : Type} (f : α → β) : ∀ (l : List α) (j : Nat), (l.map f).eraseIdx j = (l.eraseIdx j).map f
  | [], _ => rfl
  | _ :: _, 0 => rfl
  | a :: l, j + 1 => congrArg (fun z => f a :: z) (map_erase f l j)

end Cs
namespace Cs
open PySem L2
open PyProof.Rows (envOfC)
/-! a draw: some number below m, one draw less -/
def sp_draw : Sp := fun vs H Q _ => ∃ (a : Addr) (m : Int) (n : Nat), vs = [.ref a, .int m] ∧ Src a (n + 1) H ∧ 0 < m ∧ m < 2 ^ 30 ∧ ∀ (i : Int) (H' : Hp), 0 ≤ i → i < m → Src a n H' → Kp a H H' → Q (.int i) H'
theorem use_draw {a : Addr} {m : Int} {n : Nat} {H : Hp} {Q : VK} {E : XK} (h : Src a (n + 1) H) (h0 : 0 < m) (h1 : m < 2 ^ 30) (k : ∀ (i : Int) (H' : Hp), 0 ≤ i → i < m → Src a n H' → Kp a H H' → Q (.int i) H') : sp_draw [.ref a, .int m] H Q E :=
  ⟨a, m, n, rfl, h, h0, h1, k⟩
theorem cpow5 {s c : Int} (h1 : 0 ≤ s) (h2 : s < 2 ^ 40) (h3 : 0 ≤ c) (h4 : c ≤ 2 ^ 40) : CPow (s + 7919 * c) 5 := by
  refine ⟨by decide, by decide, ?_⟩
  omega
section
variable {P : Program} {w : World} {K : PySem.W.Frag} {mg : Str → Option Value} {base : Heap}
theorem ok_draw (F : At K mg "_law_draw" s__law_draw ["_law_source_here", "_law_many"]) : Cal P w K mg base 1 "_law_draw" ["_law_source_here", "_law_many"] sp_draw := by
  refine F.ok sc__law_draw (fun vs H Q E h => ?_) (fun f cdv A outer s H vs Q E hr h => ?_)
  · obtain ⟨a, m, n, rfl, _⟩ := h
    rfl
  · obtain ⟨a, m, n, rfl, ⟨d, s', c, e, h1, h2, h3, h4⟩, m0, m1, k⟩ := h
    refine ⟨_, (pss_cons (ps_asg (pe_op op_add (pe_ix (ix_listK (K := K) (by rfl)) (pv 0) pe_int (fun _ _ => rfl)) pe_int) (pg_sub (pv 0) pe_int set_list))
    (pss_cons (ps_if (pt_cmpR op_gt (pe_ix (ix_listK (K := K) (by rfl)) (pv 0) pe_int (fun _ _ => rfl)) pe_int (nomark _))
    (pss_cons (ps_set (i := 2) sc__law_draw.nd rfl (Or.inl rfl) (pe_op op_mod (pe_ix (ix_listK (K := K) (by rfl)) (pv 0) pe_int (fun _ _ => rfl)) (pv 1)))
    (pss_cons (ps_asg (pe_op op_fdiv (pe_ix (ix_listK (K := K) (by rfl)) (pv 0) pe_int (fun _ _ => rfl)) (pv 1)) (pg_sub (pv 0) pe_int set_list))
    (pss_one (ps_ret (pv 2)))))
    pss_nil)
    (pss_cons (ps_set (i := 3) sc__law_draw.nd rfl (Or.inl rfl) (pe_op op_mod (pe_op op_pow (pe_op op_add (pe_ix (ix_listK (K := K) (by rfl)) (pv 0) pe_int (fun _ _ => rfl)) (pe_op op_mul pe_int (pe_ix (ix_listK (K := K) (by rfl)) (pv 0) pe_int (fun _ _ => rfl)))) pe_int) pe_int))
    (pss_one (ps_ret (pe_op op_mod (pe_op op_fdiv (pe_op op_mod (pe_op op_mul (pe_op op_add (pv 3) (pe_ix (ix_listK (K := K) (by rfl)) (pv 0) pe_int (fun _ _ => rfl))) pe_int) pe_int) pe_int) (pv 1))))))), ?_⟩
    walk_at "go"
    refine rd_ixl (SqL.of e) (at_of (j := 2) rfl rfl) ?_
    walk_at "go"
    refine rd_setl e (j := 2) rfl ?_
    have e1 : upd H a (.lst ([V.int d, .int s', .int c].set 2 (.int (c + 1)))) a = some (.lst [.int d, .int s', .int (c + 1)]) := upd_same
    have k1 : Kp a H (upd H a (.lst ([V.int d, .int s', .int c].set 2 (.int (c + 1))))) := Kp.set
    generalize upd H a (.lst ([V.int d, .int s', .int c].set 2 (.int (c + 1)))) = H1 at e1 k1
    walk_at "go"
    refine rd_ixl (SqL.of e1) (at_of (j := 0) rfl rfl) ?_
    walk_at "go"
    refine ite2 (fun hd => ?_) (fun hd => ?_)
    · walk_at "go"
      refine rd_ixl (SqL.of e1) (at_of (j := 0) rfl rfl) ?_
      walk_at "go"
      refine rd_i m0 ?_
      walk_at "go"
      refine rd_ixl (SqL.of e1) (at_of (j := 0) rfl rfl) ?_
      walk_at "go"
      refine rd_i ⟨m0, by omega⟩ ?_
      walk_at "go"
      refine rd_setl e1 (j := 0) rfl ?_
      walk_at "go"
      refine k _ _ (Int.emod_nonneg _ (by omega)) (Int.emod_lt_of_pos _ m0) ⟨d / m, s', c + 1, upd_same, h1, h2, by omega, by omega⟩ (k1.trans Kp.set)
    · walk_at "go"
      refine rd_ixl (SqL.of e1) (at_of (j := 1) rfl rfl) ?_
      walk_at "go"
      refine rd_ixl (SqL.of e1) (at_of (j := 2) rfl rfl) ?_
      refine rd_i (.inl ⟨by decide, by decide⟩) ?_
      walk_at "go"
      refine rd_i (cpow5 h1 h2 (by omega) (by omega)) ?_
      walk_at "go"
      refine rd_i (by decide) ?_
      walk_at "go"
      refine rd_ixl (SqL.of e1) (at_of (j := 2) rfl rfl) ?_
      walk_at "go"
      refine rd_i (.inr ⟨by decide, by decide⟩) ?_
      walk_at "go"
      refine rd_i (by decide) ?_
      walk_at "go"
      refine rd_i ⟨by decide, by decide⟩ ?_
      walk_at "go"
      refine rd_i m0 ?_
      exact k _ _ (Int.emod_nonneg _ (by omega)) (Int.emod_lt_of_pos _ m0) ⟨d, s', c + 1, e1, h1, h2, by omega, by omega⟩ k1
end

end Cs
namespace Cs
open PySem L2
open PyProof.Rows (envOfC)
/-! data beside the source -/
theorem at_mem {xs : List V} {i : Int} (h0 : 0 ≤ i) (h1 : i < xs.length) : ∃ v, atI xs i = some v ∧ v ∈ xs := by
  obtain ⟨j, rfl⟩ : ∃ j : Nat, i = (j : Int) := ⟨i.toNat, by omega⟩
  have hj : j < xs.length := by omega
  exact ⟨xs[j], atI_nat (List.getElem?_eq_getElem hj), List.getElem_mem hj⟩
theorem hid_at {a b : Addr} {H : Hp} {o : HO} (n : b ≠ a) (e : H b = some o) : hid a H b = some o := by rw [hid_ne n]; exact e
abbrev DV (K : PySem.W.Frag) (a : Addr) (H : Hp) (v : V) (d : PyData) : Prop := Dp K (hid a H) v d
theorem DV.tup {K : PySem.W.Frag} {a p : Addr} {H : Hp} {xs : List V} {ds : List PyData} (n : p ≠ a) (e : H p = some (.tup xs)) (h : DpAll K (hid a H) xs ds) : DV K a H (.ref p) (.tuple ds) := L2.Dp.tup (SqT.of (hid_at n e)) h
theorem DV.lst {K : PySem.W.Frag} {a p : Addr} {H : Hp} {xs : List V} {ds : List PyData} (n : p ≠ a) (e : H p = some (.lst xs)) (h : DpAll K (hid a H) xs ds) : DV K a H (.ref p) (.list ds) := L2.Dp.lst (SqL.of (hid_at n e)) h
theorem DV.kp {K : PySem.W.Frag} {a : Addr} {H H' : Hp} {v : V} {d : PyData} (k : Kp a H H') (h : DV K a H v d) : DV K a H' v d := Dp.mono k h
theorem DV.at {K : PySem.W.Frag} {a : Addr} {H : Hp} {v : V} {d : PyData} (h : DV K a H v d) : Dp K H v d := Dp.mono hid_le h
theorem DVs.kp {K : PySem.W.Frag} {a : Addr} {H H' : Hp} {v : List V} {d : List PyData} (k : Kp a H H') (h : DpAll K (hid a H) v d) : DpAll K (hid a H') v d := DpAll.mono k h
/-- a new object, beside the source and what is kept -/
theorem rd_newK {a : Addr} {n : Nat} {H : Hp} {o : HO} {R : Addr → Hp → Prop} (hS : Src a n H) (k : ∀ p H', p ≠ a → H p = none → H' p = some o → Src a n H' → Kp a H H' → R p H') : New H o R := fun p hp =>
  k p _ (hS.ne hp) hp upd_same (hS.lay (hS.ne hp)) (Kp.refl.lay hp)
def dSet (cs : List Nat) : PyData := .tuple [.str (Str.ofString "set"), .str (S cs)]
theorem at_c {α : Type} {xs : List α} {z : Int} {j : Nat} {v : α} (e : z = 0 + (j : Int)) (h : xs[j]? = some v) : atI xs z = some v := by
  rw [e, Int.zero_add]
  exact atI_nat h
/-! data without lists: tuples that stand -/
def TS (H H' : Hp) : Prop := ∀ b xs, H b = some (.tup xs) → H' b = some (.tup xs)
theorem TS.refl {H : Hp} : TS H H := fun _ _ e => e
theorem TS.trans {H H1 H2 : Hp} (x : TS H H1) (y : TS H1 H2) : TS H H2 := fun b xs e => y b xs (x b xs e)
theorem TS.same {H H' : Hp} (s : Same H H') : TS H H' := fun b xs e => s b _ e
theorem TS.kp {a : Addr} {n : Nat} {H H' : Hp} (hS : Src a n H) (k : Kp a H H') : TS H H' := fun b xs e => by
  refine k.at (fun z => ?_) e
  obtain ⟨_, _, _, q, _⟩ := hS
  rw [z, q] at e; cases e
theorem TS.lay {p : Addr} {H : Hp} {o : HO} (n : H p = none) : TS H (upd H p o) := TS.same (Same.lay n)
theorem TS.set {p : Addr} {H : Hp} {xs : List V} {o : HO} (e : H p = some (.lst xs)) : TS H (upd H p o) := fun b ys q => by
  rw [upd_ne (fun z => by rw [z, e] at q; cases q)]; exact q
mutual
inductive Tp (H : Hp) : V → PyData → Prop
  | non : Tp H .non .none
  | bl (b : Bool) : Tp H (.bl b) (.bool b)
  | int (i : Int) : Tp H (.int i) (.int i)
  | str (x : Str) : Tp H (.str x) (.str x)
  | tup {a : Addr} {xs : List V} {ds : List PyData} : H a = some (.tup xs) → TpAll H xs ds → Tp H (.ref a) (.tuple ds)
inductive TpAll (H : Hp) : List V → List PyData → Prop
  | nil : TpAll H [] []
  | cons {v : V} {vs : List V} {d : PyData} {ds : List PyData} : Tp H v d → TpAll H vs ds → TpAll H (v :: vs) (d :: ds)
end
mutual
theorem Tp.ts {H H' : Hp} (s : TS H H') : ∀ {v : V} {d : PyData}, Tp H v d → Tp H' v d
  | _, _, .non => .non
  | _, _, .bl b => .bl b
  | _, _, .int i => .int i
  | _, _, .str x => .str x
  | _, _, .tup h t => .tup (s _ _ h) (TpAll.ts s t)
theorem TpAll.ts {H H' : Hp} (s : TS H H') : ∀ {vs : List V} {ds : List PyData}, TpAll H vs ds → TpAll H' vs ds
  | _, _, .nil => .nil
  | _, _, .cons h t => .cons (Tp.ts s h) (TpAll.ts s t)
end
mutual
theorem Tp.dp {K : PySem.W.Frag} {H : Hp} : ∀ {v : V} {d : PyData}, Tp H v d → Dp K H v d
  | _, _, .non => .non
  | _, _, .bl b => .bl b
  | _, _, .int i => .int i
  | _, _, .str x => .str x
  | _, _, .tup h t => .tup (SqT.of h) (TpAll.dp t)
theorem TpAll.dp {K : PySem.W.Frag} {H : Hp} : ∀ {vs : List V} {ds : List PyData}, TpAll H vs ds → DpAll K H vs ds
  | _, _, .nil => .nil
  | _, _, .cons h t => .cons (Tp.dp h) (TpAll.dp t)
end
theorem TS.hid {a : Addr} {n : Nat} {H : Hp} (hS : Src a n H) : TS H (Cs.hid a H) := fun b xs e => by
  rw [hid_ne (fun z => ?_)]; exact e
  obtain ⟨_, _, _, q, _⟩ := hS
  rw [z, q] at e; cases e
theorem Tp.dv {K : PySem.W.Frag} {a : Addr} {n : Nat} {H : Hp} {v : V} {d : PyData} (hS : Src a n H) (h : Tp H v d) : DV K a H v d := Tp.dp (Tp.ts (TS.hid hS) h)
theorem TpAll.length {H : Hp} : ∀ {vs : List V} {ds : List PyData}, TpAll H vs ds → vs.length = ds.length
  | _, _, .nil => rfl
  | _, _, .cons _ t => by rw [List.length_cons, List.length_cons, TpAll.length t]
theorem TpAll.app {H : Hp} : ∀ {vs ws : List V} {ds es : List PyData}, TpAll H vs ds → TpAll H ws es → TpAll H (vs ++ ws) (ds ++ es)
  | _, _, _, _, .nil, t => t
  | _, _, _, _, .cons h t, u => .cons h (TpAll.app t u)
theorem TpAll.drop {H : Hp} : ∀ {vs : List V} {ds : List PyData} (n : Nat), TpAll H vs ds → TpAll H (vs.drop n) (ds.drop n)
  | _, _, 0, t => t
  | _, _, _ + 1, .nil => .nil
  | _, _, n + 1, .cons _ t => TpAll.drop n t

end Cs
namespace Cs
open PySem L2
open PyProof.Rows (envOfC)
/-! the mirror of is_pattern over data -/
abbrev kS (s : String) : Str := Str.ofString s
def isStr : PyData → Bool | .str _ => true | _ => false
def isTup : PyData → Bool | .tuple _ => true | _ => false
def isIntB : PyData → Bool | .int _ => true | .bool _ => true | _ => false
def isBool : PyData → Bool | .bool _ => true | _ => false
theorem tyx_lst {K : PySem.W.Frag} {H : Hp} {a : Addr} {xs : List V} (h : SqL K H a xs) : TyX K H (.ref a) (.type "list") := by
  rcases h with (h | ⟨o, h⟩) | ⟨o, its, n, h, c, _⟩
  · exact .base (.lst h)
  · exact .base (.frz h)
  · exact .kList h c
theorem tyx_tup {K : PySem.W.Frag} {H : Hp} {a : Addr} {xs : List V} (h : SqT K H a xs) : TyX K H (.ref a) (.type "tuple") := by
  rcases h with (h | ⟨o, h⟩) | ⟨o, its, n, h, c, _⟩
  · exact .base (.tup h)
  · exact .fTuple h
  · exact .kTuple h c
section
variable {K : PySem.W.Frag} {H : Hp} {Q : VK} {v : V} {d : PyData}
theorem rd_isStr (h : Dp K H v d) (q : Q (.bl (isStr d)) H) : rIsi K [v, .ty "str"] H Q := by
  cases h with
  | non => exact rd_isi (.ty _) (.base .non) (kit_ty (b := "str") (r := false) (by decide +kernel)) q
  | bl b => exact rd_isi (.ty _) (.base (.bl b)) (kit_ty (b := "str") (r := false) (by decide +kernel)) q
  | int i => exact rd_isi (.ty _) (.base (.int i)) (kit_ty (b := "str") (r := false) (by decide +kernel)) q
  | str x => exact rd_isi (.ty _) (.base (.str x)) (kit_ty (b := "str") (r := true) (by decide +kernel)) q
  | lst e _ => exact rd_isi (.ty _) (tyx_lst e) (kit_ty (b := "str") (r := false) (by decide +kernel)) q
  | tup e _ => exact rd_isi (.ty _) (tyx_tup e) (kit_ty (b := "str") (r := false) (by decide +kernel)) q
theorem rd_isTup (h : Dp K H v d) (q : Q (.bl (isTup d)) H) : rIsi K [v, .ty "tuple"] H Q := by
  cases h with
  | non => exact rd_isi (.ty _) (.base .non) (kit_ty (b := "tuple") (r := false) (by decide +kernel)) q
  | bl b => exact rd_isi (.ty _) (.base (.bl b)) (kit_ty (b := "tuple") (r := false) (by decide +kernel)) q
  | int i => exact rd_isi (.ty _) (.base (.int i)) (kit_ty (b := "tuple") (r := false) (by decide +kernel)) q
  | str x => exact rd_isi (.ty _) (.base (.str x)) (kit_ty (b := "tuple") (r := false) (by decide +kernel)) q
  | lst e _ => exact rd_isi (.ty _) (tyx_lst e) (kit_ty (b := "tuple") (r := false) (by decide +kernel)) q
  | tup e _ => exact rd_isi (.ty _) (tyx_tup e) (kit_ty (b := "tuple") (r := true) (by decide +kernel)) q
theorem rd_isInt (h : Dp K H v d) (q : Q (.bl (isIntB d)) H) : rIsi K [v, .ty "int"] H Q := by
  cases h with
  | non => exact rd_isi (.ty _) (.base .non) (kit_ty (b := "int") (r := false) (by decide +kernel)) q
  | bl b => exact rd_isi (.ty _) (.base (.bl b)) (kit_ty (b := "int") (r := true) (by decide +kernel)) q
  | int i => exact rd_isi (.ty _) (.base (.int i)) (kit_ty (b := "int") (r := true) (by decide +kernel)) q
  | str x => exact rd_isi (.ty _) (.base (.str x)) (kit_ty (b := "int") (r := false) (by decide +kernel)) q
  | lst e _ => exact rd_isi (.ty _) (tyx_lst e) (kit_ty (b := "int") (r := false) (by decide +kernel)) q
  | tup e _ => exact rd_isi (.ty _) (tyx_tup e) (kit_ty (b := "int") (r := false) (by decide +kernel)) q
theorem rd_isBool (h : Dp K H v d) (q : Q (.bl (isBool d)) H) : rIsi K [v, .ty "bool"] H Q := by
  cases h with
  | non => exact rd_isi (.ty _) (.base .non) (kit_ty (b := "bool") (r := false) (by decide +kernel)) q
  | bl b => exact rd_isi (.ty _) (.base (.bl b)) (kit_ty (b := "bool") (r := true) (by decide +kernel)) q
  | int i => exact rd_isi (.ty _) (.base (.int i)) (kit_ty (b := "bool") (r := false) (by decide +kernel)) q
  | str x => exact rd_isi (.ty _) (.base (.str x)) (kit_ty (b := "bool") (r := false) (by decide +kernel)) q
  | lst e _ => exact rd_isi (.ty _) (tyx_lst e) (kit_ty (b := "bool") (r := false) (by decide +kernel)) q
  | tup e _ => exact rd_isi (.ty _) (tyx_tup e) (kit_ty (b := "bool") (r := false) (by decide +kernel)) q
theorem rd_isBl {b : Bool} (q : Q (.bl true) H) : rIsi K [.bl b, .ty "bool"] H Q := rd_isBool (.bl b) q
end
/-- an int, no bool, from lo to hi -/
def mWithin (lo hi : Int) : PyData → Bool
  | .int i => decide (lo ≤ i) && decide (i ≤ hi)
  | _ => false
def mHigh (l : Int) : PyData → Bool
  | .none => true
  | d => mWithin l 4 d
def mRange (lo hi : PyData) : Bool := match lo with
  | .int l => mWithin 0 4 (.int l) && mHigh l hi
  | _ => false
/-- a text of distinct characters of the alphabet in its order -/
def mSel (al : List Nat) : PyData → Bool
  | .str x => decide (x = S (al.filter fun c => decide (c ∈ x.cps.toList)))
  | _ => false
def mOne (al : List Nat) : List PyData → Bool
  | [p] => mSel al p
  | _ => false
def mThree : List PyData → Bool
  | [_, lo, hi] => mRange lo hi
  | _ => false
/-- an expression as far as can be told without its parts -/
def mWF (al : List Nat) : PyData → Bool
  | .tuple (.str w :: ps) =>
    if w = kS "set" then mOne al ps
    else if w = kS "not" then decide (ps.length = 1)
    else if w = kS "again" then mThree ps
    else decide (w = kS "row") || decide (w = kS "any") || decide (w = kS "all")
  | _ => false
def mParts : PyData → List PyData
  | .tuple (.str w :: ps) => if w = kS "set" then [] else if w = kS "again" then ps.take 1 else ps
  | _ => []
theorem mWF_eq (al : List Nat) (w : Str) (ps : List PyData) : mWF al (.tuple (.str w :: ps)) = if w = kS "set" then mOne al ps else if w = kS "not" then decide (ps.length = 1) else if w = kS "again" then mThree ps else (decide (w = kS "row") || decide (w = kS "any") || decide (w = kS "all")) := rfl
theorem mParts_eq (w : Str) (ps : List PyData) : mParts (.tuple (.str w :: ps)) = if w = kS "set" then [] else if w = kS "again" then ps.take 1 else ps := rfl

end Cs
namespace Cs
open PySem L2
open PyProof.Rows (envOfC)
/-! measures of expressions, by one fold over the parts -/
def rel {α : Type} (w : Str) (vs : List α) : List α := if w = kS "set" then [] else if w = kS "again" then vs.take 1 else vs
mutual
def foldD {α : Type} (f : Str → List PyData → List α → α) (z : α) : PyData → α
  | .tuple (.str w :: ps) => f w ps (rel w (foldDs f z ps))
  | _ => z
def foldDs {α : Type} (f : Str → List PyData → List α → α) (z : α) : List PyData → List α
  | [] => []
  | p :: ps => foldD f z p :: foldDs f z ps
end
theorem foldDs_map {α : Type} (f : Str → List PyData → List α → α) (z : α) : ∀ ps, foldDs f z ps = ps.map (foldD f z)
  | [] => by unfold foldDs; rfl
  | p :: ps => by unfold foldDs; rw [foldDs_map f z ps]; rfl
theorem rel_map {α β : Type} (w : Str) (g : α → β) (vs : List α) : rel w (vs.map g) = (rel w vs).map g := by
  unfold rel
  split
  · rfl
  · split
    · rw [List.map_take]
    · rfl
theorem mParts_rel (w : Str) (ps : List PyData) : mParts (.tuple (.str w :: ps)) = rel w ps := rfl
theorem foldD_eq {α : Type} (f : Str → List PyData → List α → α) (z : α) (w : Str) (ps : List PyData) : foldD f z (.tuple (.str w :: ps)) = f w ps ((rel w ps).map (foldD f z)) := by
  rw [foldD, foldDs_map, rel_map]
def mD : PyData → Nat := foldD (fun _ _ vs => 1 + vs.foldr max 0) 1
def mT : PyData → Nat := foldD (fun _ _ vs => 1 + vs.sum) 1
def mF (al : List Nat) : PyData → Bool := foldD (fun w ps vs => mWF al (.tuple (.str w :: ps)) && vs.all id) false
def isBar (w : Str) : Bool := decide (w = kS "all") || decide (w = kS "not")
def isRow (w : Str) : Bool := decide (w = kS "row") || decide (w = kS "again")
def mP : PyData → Bool := foldD (fun w _ vs => !isBar w && vs.all id) true
def mRP : PyData → Bool × Bool := foldD (fun w _ vs => (if isRow w then vs.all (·.2) else vs.all (·.1), !isBar w && vs.all (·.2))) (true, true)
def m1 (s : Int) : Int := if s > 1 then s else 1
def mFac : List PyData → Int
  | [_, .int l, .none] => l + 1
  | [_, _, .int h] => m1 h
  | _ => 1
def mW : PyData → Int := foldD (fun w ps vs => if w = kS "again" then m1 vs.sum * mFac ps else m1 vs.sum) 0
theorem mD_eq (w : Str) (ps : List PyData) : mD (.tuple (.str w :: ps)) = 1 + ((rel w ps).map mD).foldr max 0 := foldD_eq _ _ w ps
theorem mT_eq (w : Str) (ps : List PyData) : mT (.tuple (.str w :: ps)) = 1 + ((rel w ps).map mT).sum := foldD_eq _ _ w ps
theorem mF_eq (al : List Nat) (w : Str) (ps : List PyData) : mF al (.tuple (.str w :: ps)) = (mWF al (.tuple (.str w :: ps)) && ((rel w ps).map (mF al)).all id) := foldD_eq _ _ w ps
theorem mP_eq (w : Str) (ps : List PyData) : mP (.tuple (.str w :: ps)) = (!isBar w && ((rel w ps).map mP).all id) := foldD_eq _ _ w ps
theorem mRP_eq (w : Str) (ps : List PyData) : mRP (.tuple (.str w :: ps)) = (if isRow w then ((rel w ps).map mRP).all (·.2) else ((rel w ps).map mRP).all (·.1), !isBar w && ((rel w ps).map mRP).all (·.2)) := foldD_eq _ _ w ps
theorem mW_eq (w : Str) (ps : List PyData) : mW (.tuple (.str w :: ps)) = if w = kS "again" then m1 ((rel w ps).map mW).sum * mFac ps else m1 ((rel w ps).map mW).sum := foldD_eq _ _ w ps
def mR (d : PyData) : Bool := (mRP d).1
theorem foldr_max_le {l : List Nat} {n : Nat} (h : ∀ x ∈ l, x ≤ n) : l.foldr max 0 ≤ n := by
  induction l with
  | nil => exact Nat.zero_le _
  | cons a l ih =>
    rw [List.foldr_cons]
    exact Nat.max_le.mpr ⟨h a (by simp), ih fun x hx => h x (by simp [hx])⟩
theorem le_foldr_max {l : List Nat} {x : Nat} (h : x ∈ l) : x ≤ l.foldr max 0 := by
  induction l with
  | nil => simp at h
  | cons a l ih =>
    rw [List.foldr_cons]
    rcases List.mem_cons.mp h with rfl | h
    · exact Nat.le_max_left _ _
    · exact Nat.le_trans (ih h) (Nat.le_max_right _ _)
theorem mem_sum_le {l : List Nat} {x : Nat} (h : x ∈ l) : x ≤ l.sum := by
  induction l with
  | nil => simp at h
  | cons a l ih =>
    rw [List.sum_cons]
    rcases List.mem_cons.mp h with rfl | h
    · exact Nat.le_add_right _ _
    · exact Nat.le_trans (ih h) (Nat.le_add_left _ _)
theorem mD_part {w : Str} {ps : List PyData} {p : PyData} (h : p ∈ rel w ps) : mD p < mD (.tuple (.str w :: ps)) := by
  rw [mD_eq]
  have := le_foldr_max (List.mem_map_of_mem (f := mD) h)
  omega
/-- induction over the parts -/
theorem by_parts {C : PyData → Prop} (h0 : ∀ w ps, (∀ p ∈ rel w ps, C p) → C (.tuple (.str w :: ps))) (h1 : ∀ d, (∀ w ps, d ≠ .tuple (.str w :: ps)) → C d) : ∀ d, C d := by
  have key : ∀ n d, mD d ≤ n → C d := by
    intro n
    induction n with
    | zero =>
      intro d hd
      refine h1 d fun w ps e => ?_
      subst e
      rw [mD_eq] at hd; omega
    | succ n ih =>
      intro d hd
      by_cases hx : ∃ w ps, d = .tuple (.str w :: ps)
      · obtain ⟨w, ps, rfl⟩ := hx
        exact h0 w ps fun p hp => ih p (by have := mD_part hp; omega)
      · exact h1 d fun w ps e => hx ⟨w, ps, e⟩
  exact fun d => key _ d (Nat.le_refl _)
theorem foldD_no {α : Type} (f : Str → List PyData → List α → α) (z : α) (d : PyData) (h : ∀ w ps, d ≠ .tuple (.str w :: ps)) : foldD f z d = z := by
  unfold foldD
  split
  · exact absurd rfl (h _ _)
  · rfl
theorem mD_le_mT : ∀ d, mD d ≤ mT d := by
  refine by_parts (fun w ps ih => ?_) (fun d h => ?_)
  · rw [mD_eq, mT_eq]
    refine Nat.add_le_add_left (foldr_max_le fun x hx => ?_) 1
    obtain ⟨p, hp, rfl⟩ := List.mem_map.mp hx
    exact Nat.le_trans (ih p hp) (mem_sum_le (List.mem_map_of_mem (f := mT) hp))
  · exact Nat.le_of_eq ((foldD_no _ _ d h).trans (foldD_no _ _ d h).symm)
theorem all_mem {α : Type} {f g : α → Bool} : ∀ {l : List α}, (∀ x ∈ l, f x = g x) → l.all f = l.all g
  | [], _ => rfl
  | a :: l, h => by
    rw [List.all_cons, List.all_cons, h a (by simp), all_mem fun x hx => h x (by simp [hx])]
theorem mP_snd : ∀ d, (mRP d).2 = mP d := by
  refine by_parts (fun w ps ih => ?_) (fun d h => ?_)
  · rw [mRP_eq, mP_eq]
    show (!isBar w && _) = _
    congr 1
    rw [List.all_map, List.all_map]
    exact all_mem fun p hp => ih p hp
  · exact (congrArg Prod.snd (foldD_no _ _ d h)).trans (foldD_no _ _ d h).symm
theorem mR_eq (w : Str) (ps : List PyData) : mR (.tuple (.str w :: ps)) = if isRow w then (rel w ps).all mP else (rel w ps).all mR := by
  unfold mR
  rw [mRP_eq]
  show (if isRow w then _ else _) = _
  have e : ((rel w ps).map mRP).all (·.2) = (rel w ps).all mP := by
    rw [List.all_map]
    exact all_mem fun p _ => mP_snd p
  rw [e, List.all_map]
  rfl
theorem plain_right : ∀ d, mP d = true → mR d = true := by
  refine by_parts (fun w ps ih => ?_) (fun d h => ?_)
  · intro hp
    rw [mP_eq, Bool.and_eq_true, List.all_map, List.all_eq_true] at hp
    rw [mR_eq]
    split
    · exact List.all_eq_true.mpr fun p hq => hp.2 p hq
    · exact List.all_eq_true.mpr fun p hq => ih p hq (hp.2 p hq)
  · intro _
    unfold mR
    have e : mRP d = (true, true) := foldD_no _ _ d h
    rw [e]
/-! the loop over the parts -/
def mHead : PyData → Str
  | .tuple (.str w :: _) => w
  | _ => kS ""
def loopS (al : List Nat) : Nat → List (PyData × Bool) → Bool
  | _, [] => true
  | 0, _ :: _ => false
  | r + 1, (d, b) :: st => if mWF al d = false then false else if (b && isBar (mHead d)) = true then false else loopS al r (((mParts d).map fun p => (p, b || isRow (mHead d))).reverse ++ st)
theorem mWF_form {al : List Nat} {d : PyData} (h : mWF al d = true) : ∃ w ps, d = .tuple (.str w :: ps) ∧ (w = kS "set" ∨ w = kS "not" ∨ w = kS "again" ∨ w = kS "row" ∨ w = kS "any" ∨ w = kS "all") ∧ (w = kS "set" → mOne al ps = true) ∧ (w = kS "not" → ps.length = 1) ∧ (w = kS "again" → mThree ps = true) := by
  unfold mWF at h
  split at h
  · rename_i w ps
    refine ⟨w, ps, rfl, ?_⟩
    have d1 : kS "not" ≠ kS "set" := by decide +kernel
    have d2 : kS "again" ≠ kS "set" := by decide +kernel
    have d3 : kS "again" ≠ kS "not" := by decide +kernel
    by_cases h1 : w = kS "set"
    · rw [if_pos h1] at h
      exact ⟨.inl h1, fun _ => h, fun z => absurd (z.symm.trans h1) d1, fun z => absurd (z.symm.trans h1) d2⟩
    · rw [if_neg h1] at h
      by_cases h2 : w = kS "not"
      · rw [if_pos h2] at h
        exact ⟨.inr (.inl h2), fun z => absurd z h1, fun _ => of_decide_eq_true h, fun z => absurd (z.symm.trans h2) d3⟩
      · rw [if_neg h2] at h
        by_cases h3 : w = kS "again"
        · rw [if_pos h3] at h
          exact ⟨.inr (.inr (.inl h3)), fun z => absurd z h1, fun z => absurd z h2, fun _ => h⟩
        · rw [if_neg h3] at h
          simp only [Bool.or_eq_true, decide_eq_true_eq] at h
          refine ⟨?_, fun z => absurd z h1, fun z => absurd z h2, fun z => absurd z h3⟩
          rcases h with (h | h) | h
          · exact .inr (.inr (.inr (.inl h)))
          · exact .inr (.inr (.inr (.inr (.inl h))))
          · exact .inr (.inr (.inr (.inr (.inr h))))
  · cases h
def Good (al : List Nat) (x : PyData × Bool) : Prop := mF al x.1 = true ∧ mR x.1 = true ∧ (x.2 = true → mP x.1 = true)
theorem good_step {al : List Nat} {w : Str} {ps : List PyData} {b : Bool} : Good al (.tuple (.str w :: ps), b) ↔ mWF al (.tuple (.str w :: ps)) = true ∧ (b && isBar w) = false ∧ ∀ p ∈ rel w ps, Good al (p, b || isRow w) := by
  unfold Good
  show mF al (.tuple (.str w :: ps)) = true ∧ mR (.tuple (.str w :: ps)) = true ∧ (b = true → mP (.tuple (.str w :: ps)) = true) ↔ _
  rw [mF_eq, mR_eq, mP_eq, Bool.and_eq_true, List.all_map, List.all_eq_true, Bool.and_eq_true, List.all_map, List.all_eq_true]
  have nb : isRow w = true → isBar w = false := by
    intro h
    unfold isRow at h
    unfold isBar
    rw [Bool.or_eq_true, decide_eq_true_eq, decide_eq_true_eq] at h
    rcases h with rfl | rfl <;> decide +kernel
  constructor
  · rintro ⟨⟨h1, h2⟩, h3, h4⟩
    refine ⟨h1, ?_, fun p hp => ⟨h2 p hp, ?_, fun hb => ?_⟩⟩
    · cases b with
      | false => rfl
      | true => have := (h4 rfl).1; simpa using this
    · split at h3
      · exact plain_right p (List.all_eq_true.mp h3 p hp)
      · exact List.all_eq_true.mp h3 p hp
    · cases b with
      | true => exact (h4 rfl).2 p hp
      | false =>
        have hr : isRow w = true := by simpa using hb
        rw [if_pos hr] at h3
        exact List.all_eq_true.mp h3 p hp
  · rintro ⟨h1, h2, h3⟩
    refine ⟨⟨h1, fun p hp => (h3 p hp).1⟩, ?_, fun hb => ⟨?_, fun p hp => (h3 p hp).2.2 (by simp [hb])⟩⟩
    · split
      · rename_i hr
        exact List.all_eq_true.mpr fun p hp => (h3 p hp).2.2 (by simp [hr])
      · exact List.all_eq_true.mpr fun p hp => (h3 p hp).2.1
    · rw [hb] at h2
      simpa using h2
theorem sum_rev (l : List Nat) : l.reverse.sum = l.sum := by
  induction l with
  | nil => rfl
  | cons a l ih => rw [List.reverse_cons, List.sum_append, ih, List.sum_cons, List.sum_cons]; simp; omega
theorem mT_pos (d : PyData) : 1 ≤ mT d := by
  by_cases hx : ∃ w ps, d = .tuple (.str w :: ps)
  · obtain ⟨w, ps, rfl⟩ := hx
    rw [mT_eq]; omega
  · exact Nat.le_of_eq (foldD_no _ _ d fun w ps e => hx ⟨w, ps, e⟩).symm
theorem loopS_iff (al : List Nat) : ∀ (r : Nat) (st : List (PyData × Bool)), loopS al r st = true ↔ (∀ x ∈ st, Good al x) ∧ (st.map fun x => mT x.1).sum ≤ r := by
  intro r
  induction r with
  | zero =>
    intro st
    cases st with
    | nil => simp [loopS]
    | cons x st =>
      have := mT_pos x.1
      simp only [loopS, List.map_cons, List.sum_cons]
      constructor
      · intro h; cases h
      · rintro ⟨_, h⟩; omega
  | succ r ih =>
    intro st
    cases st with
    | nil => simp [loopS]
    | cons x st =>
      obtain ⟨d, b⟩ := x
      unfold loopS
      by_cases hw : mWF al d = true
      · obtain ⟨w, ps, rfl, -⟩ := mWF_form hw
        rw [if_neg (by rw [hw]; simp)]
        show (if (b && isBar w) = true then false else loopS al r (((rel w ps).map fun p => (p, b || isRow w)).reverse ++ st)) = true ↔ _
        have e1 : ((((rel w ps).map fun p => (p, b || isRow w)).reverse ++ st).map fun x => mT x.1).sum = ((rel w ps).map mT).sum + (st.map fun x => mT x.1).sum := by
          rw [List.map_append, List.sum_append, List.map_reverse, sum_rev, List.map_map]
          rfl
        by_cases hb : (b && isBar w) = true
        · rw [if_pos hb]
          constructor
          · intro h; cases h
          · rintro ⟨h, _⟩
            have := (good_step.mp (h (.tuple (.str w :: ps), b) (by simp))).2.1
            rw [hb] at this; cases this
        · rw [if_neg hb, ih, e1]
          have hb' : (b && isBar w) = false := by simpa using hb
          have e2 : (((.tuple (.str w :: ps), b) :: st).map fun x : PyData × Bool => mT x.1).sum = 1 + ((rel w ps).map mT).sum + (st.map fun x => mT x.1).sum := by
            rw [List.map_cons, List.sum_cons, mT_eq]
          rw [e2]
          constructor
          · rintro ⟨h, hs⟩
            refine ⟨fun x hx => ?_, by omega⟩
            rcases List.mem_cons.mp hx with rfl | hx
            · refine good_step.mpr ⟨hw, hb', fun p hp => h (p, b || isRow w) ?_⟩
              exact List.mem_append_left _ (List.mem_reverse.mpr (List.mem_map_of_mem (f := fun p => (p, b || isRow w)) hp))
            · exact h x (List.mem_append_right _ hx)
          · rintro ⟨h, hs⟩
            refine ⟨fun x hx => ?_, by omega⟩
            rcases List.mem_append.mp hx with hx | hx
            · obtain ⟨p, hp, rfl⟩ := List.mem_map.mp (List.mem_reverse.mp hx)
              exact (good_step.mp (h (.tuple (.str w :: ps), b) (by simp))).2.2 p hp
            · exact h x (List.mem_cons_of_mem _ hx)
      · have hw' : mWF al d = false := by simpa using hw
        rw [if_pos hw']
        constructor
        · intro h; cases h
        · rintro ⟨h, _⟩
          have g := (h (d, b) (by simp)).1
          exfalso
          by_cases hx : ∃ w ps, d = .tuple (.str w :: ps)
          · obtain ⟨w, ps, rfl⟩ := hx
            have g : mF al (.tuple (.str w :: ps)) = true := g
            rw [mF_eq, hw'] at g
            simp at g
          · have e : mF al d = false := foldD_no _ _ d fun w ps e => hx ⟨w, ps, e⟩
            have g : mF al d = true := g
            rw [e] at g; cases g
/-- what is_pattern answers -/
def mPat (al : List Nat) (d : PyData) : Bool := loopS al 20 [(d, false)] && decide (mW d ≤ 10)
theorem mPat_iff {al : List Nat} {d : PyData} : mPat al d = true ↔ mF al d = true ∧ mR d = true ∧ mT d ≤ 20 ∧ mW d ≤ 10 := by
  unfold mPat
  rw [Bool.and_eq_true, loopS_iff, decide_eq_true_eq]
  simp [Good]
  constructor
  · rintro ⟨⟨⟨a, b⟩, c⟩, e⟩; exact ⟨a, b, c, e⟩
  · rintro ⟨a, b, c, e⟩; exact ⟨⟨⟨a, b⟩, c⟩, e⟩

end Cs
namespace Cs
open PySem L2
open PyProof.Rows (envOfC)
/-! tuples by their parts -/
theorem Tp.tupI {H : Hp} {v : V} {ds : List PyData} (h : Tp H v (.tuple ds)) : ∃ p xs, v = .ref p ∧ H p = some (.tup xs) ∧ TpAll H xs ds := by
  cases h with
  | tup e h => exact ⟨_, _, rfl, e, h⟩
theorem TpAll.rep {H : Hp} {v : V} {d : PyData} (h : Tp H v d) : ∀ n : Nat, TpAll H (List.replicate n v) (List.replicate n d)
  | 0 => .nil
  | n + 1 => .cons h (TpAll.rep h n)
theorem flat_rep {α : Type} (v : α) : ∀ n : Nat, (List.replicate n [v]).flatten = List.replicate n v
  | 0 => rfl
  | n + 1 => by
    rw [List.replicate_succ, List.flatten_cons, flat_rep v n, List.replicate_succ]; rfl
theorem pick3 {y : V} (h : y ∈ ([V.str (kS "row"), .str (kS "any"), .str (kS "all")] : List V)) : ∃ u : Str, y = .str u ∧ (u = kS "row" ∨ u = kS "any" ∨ u = kS "all") := by
  simp only [List.mem_cons, List.not_mem_nil, or_false] at h
  rcases h with rfl | rfl | rfl
  · exact ⟨_, rfl, .inl rfl⟩
  · exact ⟨_, rfl, .inr (.inl rfl)⟩
  · exact ⟨_, rfl, .inr (.inr rfl)⟩
theorem if_tt {b : Bool} : (if b = true then true else true) = true := by cases b <;> rfl
theorem cut1 {x : V} {xs : List V} : cutV (x :: xs) (some 1) none = xs := by
  unfold cutV
  have e : HT.sIx (x :: xs).length 0 (some 1) = 1 := by
    show HT.sIx (x :: xs).length 0 (some ((1 : Nat) : Int)) = 1
    rw [HT.sIx_nat, List.length_cons]; omega
  rw [e, HT.sIx_none]
  show ((x :: xs).drop 1).take _ = xs
  rw [List.drop_one, List.tail_cons, List.take_of_length_le]
  rw [List.length_cons]; omega

end Cs
namespace Cs
open PySem L2
open PyProof.Rows (envOfC)
def sp_selection (K : PySem.W.Frag) : Sp := fun vs H Q _ => ∃ (al : List Nat) (v : V) (d : PyData), vs = [.str (S al), v] ∧ al.length ≤ 1000 ∧ Dp K H v d ∧ ∀ H', Same H H' → Q (.bl (mSel al d)) H'
theorem use_selection {K : PySem.W.Frag} {al : List Nat} {v : V} {d : PyData} {H : Hp} {Q : VK} {E : XK} (hA : al.length ≤ 1000) (h : Dp K H v d) (k : ∀ H', Same H H' → Q (.bl (mSel al d)) H') : sp_selection K [.str (S al), v] H Q E := ⟨al, v, d, rfl, hA, h, k⟩
/-- over a text, turn by turn -/
theorem lc_str {x : List Nat} {g : TG} {tt : TT} {te : TE} {vs : List Nat} {σ : St} {H1 : Hp} {D : Addr} {Qd : Hp → Prop} (Pv : Nat → Hp → Prop) (h0 : Pv 0 (upd H1 D (.lst [])))
    (hs : ∀ i c H, x[i]? = some c → Pv i H → g (.str (S [c])) (wipe σ vs) H fun σ2 H2 => wipe σ2 vs = wipe σ vs ∧ tt σ2 H2 fun b H3 =>
      if b = true then te σ2 H3 fun y H4 => ∃ acc, H4 D = some (.lst acc) ∧ acc.length < sizeLine ∧ Pv (i + 1) (upd H4 D (.lst (acc ++ [y]))) else Pv (i + 1) H3) (hd : ∀ H, Pv x.length H → Qd H) :
    ∃ W : Nat → Nat → Hp → Prop, (∃ m, W 0 m (upd H1 D (.lst []))) ∧ ∀ i m H, W i m H →
      ((Its (S x)).stop i H ∧ Qd H) ∨ ((Its (S x)).go i H ∧ ∃ Nx : Hp → Prop, (∀ H', Nx H' → ∃ m', m' < m ∧ W (i + 1) m' H') ∧ ∀ y H', (Its (S x)).yld i H y H' → g y (wipe σ vs) H' fun σ2 H2 => wipe σ2 vs = wipe σ vs ∧ tt σ2 H2 fun b H3 =>
        if b = true then te σ2 H3 fun y H4 => ∃ acc, H4 D = some (.lst acc) ∧ acc.length < sizeLine ∧ Nx (upd H4 D (.lst (acc ++ [y]))) else Nx H3) := by
  refine ⟨fun i m H => m = x.length - i ∧ i ≤ x.length ∧ Pv i H, ⟨x.length, by simp, Nat.zero_le _, h0⟩, ?_⟩
  rintro i m H ⟨rfl, hi, p⟩
  have sz : (S x).cps.size = x.length := by simp [S]
  by_cases hlt : i < x.length
  · refine .inr ⟨show i < (S x).cps.size by omega, Pv (i + 1), fun H' p' => ⟨x.length - (i + 1), by omega, rfl, hlt, p'⟩, fun y H' hy => ?_⟩
    obtain ⟨e, c, hc, y⟩ := hy
    subst e y
    exact hs i c _ (by rw [← Array.getElem?_toList] at hc; exact hc) p
  · have e : i = x.length := by omega
    subst e
    exact .inl ⟨show (S x).cps.size ≤ x.length by omega, hd H p⟩
theorem filter_snoc {α : Type} {p : α → Bool} {l : List α} {i : Nat} {c : α} (h : l[i]? = some c) : (l.take (i + 1)).filter p = (l.take i).filter p ++ (if p c = true then [c] else []) := by
  rw [List.take_add_one, h, List.filter_append]
  congr 1
  show List.filter p [c] = _
  rw [List.filter_cons, List.filter_nil]
section
variable {P : Program} {w : World} {K : PySem.W.Frag} {mg : Str → Option Value} {base : Heap}
theorem ok_selection (B : Blt mg) (F : At K mg "_is_selection" s__is_selection ["alphabet", "value"]) : Cal P w K mg base 1 "_is_selection" ["alphabet", "value"] (sp_selection K) := by
  refine F.ok sc__is_selection (fun vs H Q E h => ?_) (fun f cdv A outer s H vs Q E hr h => ?_)
  · obtain ⟨al, v, d, rfl, _⟩ := h
    rfl
  · obtain ⟨al, v, d, rfl, hA, hd, k⟩ := h
    refine ⟨_, (pss_one (ps_ret (pe_and (pe_callB (call_isiK' (K := K) (by rfl)) (by rfl) B.isinstance (by decide +kernel) (pa_cons (pv 1) (pa_cons (pe_ty (T := "str") B.str (by decide +kernel)) pa_nil))) (pe_one (pe_cmpR op_eq (pv 1) (pe_joinK (K := K) (by rfl) pe_str (pe_lc (own := [("character", 2)]) rfl sc__is_selection.nd (pi_str (pv 0)) (blkOk_by (N := ["alphabet", "value", "character"]) (sc := defScope s__is_selection) (by decide +kernel)) (fun _ _ _ _ _ => (pg_name (i := 2) sc__is_selection.nd rfl (Or.inl rfl))) (fun _ _ _ _ _ => (pts_one (pt_cmpR op_in_sign (pv 2) (pv 1) rfl))) (fun _ _ _ _ _ => (pv 2)))) (nomark _)))))), ?_⟩
    walk_at "go"
    refine rd_isStr hd ?_
    walk_at "go"
    cases hd with
    | str x =>
      refine iteT ?_
      walk_at "go"
      intro D hD
      refine lc_str (x := al) (fun i H' => H' D = some (.lst (((al.take i).filter fun c => decide (c ∈ x.cps.toList)).map fun c => V.str (S [c]))) ∧ Same H H') ⟨upd_same, Same.lay hD⟩ ?_ ?_
      · rintro i c H' hc ⟨eD, sm⟩
        walk_at "go"
        refine ⟨rfl, ?_⟩
        walk_at "go"
        refine ⟨c, x, rfl, rfl, ?_⟩
        walk_at "go"
        have hlen : ((al.take i).filter fun c => decide (c ∈ x.cps.toList)).length ≤ 1000 := Nat.le_trans (List.length_filter_le _ _) (by rw [List.length_take]; omega)
        refine ite2 (fun h1 => ?_) (fun h1 => ?_)
        · walk_at "go"
          refine ⟨_, eD, by rw [List.length_map, PySem.sizeLine_eq]; omega, ?_, Same.lay2 sm hD⟩
          rw [upd_same, filter_snoc hc, if_pos h1, List.map_append]; rfl
        · refine ⟨?_, sm⟩
          rw [filter_snoc hc, if_neg h1, List.append_nil]; exact eD
      · rintro H' ⟨eD, sm⟩
        rw [List.take_length] at eD
        have hlen : (al.filter fun c => decide (c ∈ x.cps.toList)).length ≤ 1000 := Nat.le_trans (List.length_filter_le _ _) hA
        refine ⟨_, D, (al.filter fun c => decide (c ∈ x.cps.toList)).map fun c => S [c], rfl, rfl, .inl (SqL.of (by rw [eD, List.map_map]; rfl)), ?_, ?_⟩
        · rw [sum_signs, List.length_map]
          show _ + _ * 0 ≤ _
          omega
        · walk_at "go"
          rw [empty_S, join_signs]
          have e : mSel al (.str x) = decide (V.str x = V.str (S (al.filter fun c => decide (c ∈ x.cps.toList)))) := by
            show decide (x = _) = _
            simp
          rw [← e]
          exact k _ sm
    | non => exact iteF (k _ (Same.refl _))
    | bl b => exact iteF (k _ (Same.refl _))
    | int b => exact iteF (k _ (Same.refl _))
    | lst _ _ => exact iteF (k _ (Same.refl _))
    | tup _ _ => exact iteF (k _ (Same.refl _))
end

end Cs
namespace Cs
open PySem L2
open PyProof.Rows (envOfC)
def sp_within (K : PySem.W.Frag) : Sp := fun vs H Q _ => ∃ (v : V) (d : PyData) (lo hi : Int), vs = [v, .int lo, .int hi] ∧ Dp K H v d ∧ Q (.bl (mWithin lo hi d)) H
theorem use_within {K : PySem.W.Frag} {v : V} {d : PyData} {lo hi : Int} {H : Hp} {Q : VK} {E : XK} (h : Dp K H v d) (k : Q (.bl (mWithin lo hi d)) H) : sp_within K [v, .int lo, .int hi] H Q E := ⟨v, d, lo, hi, rfl, h, k⟩
section
variable {P : Program} {w : World} {K : PySem.W.Frag} {mg : Str → Option Value} {base : Heap}
theorem ok_within (B : Blt mg) (F : At K mg "_is_integer_within" s__is_integer_within ["value", "least", "most"]) : Cal P w K mg base 1 "_is_integer_within" ["value", "least", "most"] (sp_within K) := by
  refine F.ok sc__is_integer_within (fun vs H Q E h => ?_) (fun f cdv A outer s H vs Q E hr h => ?_)
  · obtain ⟨v, d, lo, hi, rfl, _⟩ := h
    rfl
  · obtain ⟨v, d, lo, hi, rfl, hd, k⟩ := h
    refine ⟨_, (pss_one (ps_ret (pe_and (pe_callB (call_isiK' (K := K) (by rfl)) (by rfl) B.isinstance (by decide +kernel) (pa_cons (pv 0) (pa_cons (pe_ty (T := "int") B.int (by decide +kernel)) pa_nil))) (pe_and (pe_not (pe_callB (call_isiK' (K := K) (by rfl)) (by rfl) B.isinstance (by decide +kernel) (pa_cons (pv 0) (pa_cons (pe_ty (T := "bool") B.bool (by decide +kernel)) pa_nil)))) (pe_one (pe_chain op_le op_le (pv 1) (pv 0) (pv 2))))))), ?_⟩
    walk_at "go"
    refine rd_isInt hd ?_
    walk_at "go"
    cases hd with
    | int i =>
      refine iteT ?_
      walk_at "go"
      refine rd_isBool (.int i) ?_
      walk_at "go"
      refine iteT ?_
      walk_at "go"
      refine ite2 (fun h1 => ?_) (fun h1 => ?_)
      · walk_at "go"
        have e : mWithin lo hi (.int i) = decide (i ≤ hi) := by
          show (decide (lo ≤ i) && decide (i ≤ hi)) = decide (i ≤ hi)
          rw [h1]; rfl
        rw [e] at k; exact k
      · have h1' : decide (lo ≤ i) = false := by cases e : decide (lo ≤ i) <;> simp_all
        have e : mWithin lo hi (.int i) = false := by
          show (decide (lo ≤ i) && decide (i ≤ hi)) = false
          rw [h1']; rfl
        rw [e] at k; exact k
    | bl b =>
      refine iteT ?_
      walk_at "go"
      refine rd_isBool (.bl b) ?_
      walk_at "go"
      exact iteF k
    | non => exact iteF k
    | str x => exact iteF k
    | lst _ _ => exact iteF k
    | tup _ _ => exact iteF k
end

end Cs
namespace Cs
open PySem L2
open PyProof.Rows (envOfC)
structure PatK (mg : Str → Option Value) : Prop where
  c_MOST_TUPLES : ∃ u, mg "MOST_TUPLES" = some u ∧ RelV (.int 20) u
  c_MOST_WIDTH : ∃ u, mg "MOST_WIDTH" = some u ∧ RelV (.int 10) u
  c_MOST_REPEATS : ∃ u, mg "MOST_REPEATS" = some u ∧ RelV (.int 4) u

end Cs
namespace Cs
open PySem L2
open PyProof.Rows (envOfC)
def sp_range (K : PySem.W.Frag) : Sp := fun vs H Q _ => ∃ (v1 v2 : V) (d1 d2 : PyData), vs = [v1, v2] ∧ Dp K H v1 d1 ∧ Dp K H v2 d2 ∧ Q (.bl (mRange d1 d2)) H
theorem use_range {K : PySem.W.Frag} {v1 v2 : V} {d1 d2 : PyData} {H : Hp} {Q : VK} {E : XK} (h1 : Dp K H v1 d1) (h2 : Dp K H v2 d2) (k : Q (.bl (mRange d1 d2)) H) : sp_range K [v1, v2] H Q E := ⟨v1, v2, d1, d2, rfl, h1, h2, k⟩
section
variable {P : Program} {w : World} {K : PySem.W.Frag} {mg : Str → Option Value} {base : Heap}
theorem ok_range (B : Blt mg) (T : PatK mg) (G__is_integer_within : Cal P w K mg base 1 "_is_integer_within" ["value", "least", "most"] (sp_within K)) (F : At K mg "_is_range" s__is_range ["low", "high"]) : Cal P w K mg base 2 "_is_range" ["low", "high"] (sp_range K) := by
  refine F.ok sc__is_range (fun vs H Q E h => ?_) (fun f cdv A outer s H vs Q E hr h => ?_)
  · obtain ⟨v1, v2, d1, d2, rfl, _⟩ := h
    rfl
  · obtain ⟨v1, v2, d1, d2, rfl, h1, h2, k⟩ := h
    refine ⟨_, (pss_cons (ps_if (pt_not (pt_val (pe_c G__is_integer_within (hr.mono (by first | decide | omega)) (pa_cons (pv 0) (pa_cons pe_int (pa_cons (pe_k T.c_MOST_REPEATS) pa_nil))))))
    (pss_one (ps_ret pe_bl))
    pss_nil)
    (pss_one (ps_ret (pe_or (pe_cmpR op_isN (pv 1) pe_non (nomark _)) (pe_one (pe_c G__is_integer_within (hr.mono (by first | decide | omega)) (pa_cons (pv 1) (pa_cons (pv 0) (pa_cons (pe_k T.c_MOST_REPEATS) pa_nil))))))))), ?_⟩
    walk_at "go"
    refine use_within h1 ?_
    walk_at "go"
    cases h1 with
    | int l =>
      refine ite2 (fun h1 => ?_) (fun h1 => ?_)
      · walk_at "go"
        have h1' : mWithin 0 4 (.int l) = false := by cases e : mWithin 0 4 (.int l) <;> simp_all
        have e : mRange (.int l) d2 = false := by
          show (mWithin 0 4 (.int l) && _) = false
          rw [h1']; rfl
        rw [e] at k; exact k
      · walk_at "go"
        have h1' : mWithin 0 4 (.int l) = true := by cases e : mWithin 0 4 (.int l) <;> simp_all
        have e : mRange (.int l) d2 = mHigh l d2 := by
          show (mWithin 0 4 (.int l) && _) = _
          rw [h1']; rfl
        rw [e] at k
        refine ⟨rfl, ?_⟩
        walk_at "go"
        cases h2 with
        | non => exact iteT k
        | int i =>
          refine iteF ?_
          walk_at "go"
          exact use_within (.int i) k
        | bl i =>
          refine iteF ?_
          walk_at "go"
          exact use_within (.bl i) k
        | str i =>
          refine iteF ?_
          walk_at "go"
          exact use_within (.str i) k
        | lst a b =>
          refine iteF ?_
          walk_at "go"
          exact use_within (.lst a b) k
        | tup a b =>
          refine iteF ?_
          walk_at "go"
          exact use_within (.tup a b) k
    | non => refine iteT ?_; walk_at "go"; exact k
    | bl b => refine iteT ?_; walk_at "go"; exact k
    | str x => refine iteT ?_; walk_at "go"; exact k
    | lst _ _ => refine iteT ?_; walk_at "go"; exact k
    | tup _ _ => refine iteT ?_; walk_at "go"; exact k
end

end Cs
namespace Cs
open PySem L2
open PyProof.Rows (envOfC)
def sp_wf (K : PySem.W.Frag) : Sp := fun vs H Q _ => ∃ (al : List Nat) (v : V) (d : PyData), vs = [.str (S al), v] ∧ al.length ≤ 1000 ∧ Dp K H v d ∧ ∀ H', Same H H' → Q (.bl (mWF al d)) H'
theorem use_wf {K : PySem.W.Frag} {al : List Nat} {v : V} {d : PyData} {H : Hp} {Q : VK} {E : XK} (hA : al.length ≤ 1000) (h : Dp K H v d) (k : ∀ H', Same H H' → Q (.bl (mWF al d)) H') : sp_wf K [.str (S al), v] H Q E := ⟨al, v, d, rfl, hA, h, k⟩
theorem beq_dec {a b : Str} : (a == b) = decide (b = a) := by
  by_cases h : b = a
  · subst h; simp
  · rw [decide_eq_false h]; exact beq_eq_false_iff_ne.mpr (Ne.symm h)
theorem dec_S {a b : Str} : decide (V.str a = V.str b) = decide (a = b) := by simp
theorem dec_len {n m : Nat} : decide (V.int (n : Nat) = V.int (m : Nat)) = decide (n = m) := by
  by_cases h : n = m
  · subst h; simp
  · rw [decide_eq_false h]
    refine decide_eq_false fun e => h ?_
    injection e with e
    omega
theorem dpAll3 {K : PySem.W.Frag} {H : Hp} {vs : List V} {ps : List PyData} (h : DpAll K H vs ps) (l : vs.length = 3) : ∃ v1 v2 v3 d1 d2 d3, vs = [v1, v2, v3] ∧ ps = [d1, d2, d3] ∧ Dp K H v1 d1 ∧ Dp K H v2 d2 ∧ Dp K H v3 d3 := by
  cases h with
  | nil => simp at l
  | cons a1 h => cases h with
    | nil => simp at l
    | cons a2 h => cases h with
      | nil => simp at l
      | cons a3 h => cases h with
        | nil => exact ⟨_, _, _, _, _, _, rfl, rfl, a1, a2, a3⟩
        | cons a4 h => simp at l
theorem mOne_no {al : List Nat} {ps : List PyData} (h : ps.length ≠ 1) : mOne al ps = false := by
  match ps with
  | [] => rfl
  | [_] => exact absurd rfl h
  | _ :: _ :: _ => rfl
theorem mThree_no {ps : List PyData} (h : ps.length ≠ 3) : mThree ps = false := by
  match ps with
  | [] => rfl
  | [_] => rfl
  | [_, _] => rfl
  | [_, _, _] => exact absurd rfl h
  | _ :: _ :: _ :: _ :: _ => rfl
section
variable {P : Program} {w : World} {K : PySem.W.Frag} {mg : Str → Option Value} {base : Heap}
theorem ok_wf (B : Blt mg) (G__is_selection : Cal P w K mg base 1 "_is_selection" ["alphabet", "value"] (sp_selection K)) (G__is_range : Cal P w K mg base 2 "_is_range" ["low", "high"] (sp_range K)) (F : At K mg "_is_well_formed" s__is_well_formed ["alphabet", "value"]) : Cal P w K mg base 3 "_is_well_formed" ["alphabet", "value"] (sp_wf K) := by
  refine F.ok sc__is_well_formed (fun vs H Q E h => ?_) (fun f cdv A outer s H vs Q E hr h => ?_)
  · obtain ⟨al, v, d, rfl, _⟩ := h
    rfl
  · obtain ⟨al, v, d, rfl, hA, hd, k⟩ := h
    refine ⟨_, (pss_cons (ps_if (PW.pt (pw_or (pt_not (pt_val (pe_callB (call_isiK' (K := K) (by rfl)) (by rfl) B.isinstance (by decide +kernel) (pa_cons (pv 1) (pa_cons (pe_ty (T := "tuple") B.tuple (by decide +kernel)) pa_nil))))) (pw_or (pt_cmpR op_eq (pe_callB (call_len_seqK (K := K) (by rfl)) (by rfl) B.len PySem.boot_len (pa_cons (pv 1) pa_nil)) pe_int (nomark _)) (pw_or1 (pt_not (pt_val (pe_callB (call_isiK' (K := K) (by rfl)) (by rfl) B.isinstance (by decide +kernel) (pa_cons (pe_ix (ix_tupK (K := K) (by rfl)) (pv 1) pe_int (fun _ _ => rfl)) (pa_cons (pe_ty (T := "str") B.str (by decide +kernel)) pa_nil)))))))))
    (pss_one (ps_ret pe_bl))
    pss_nil)
    (pss_cons (ps_set (i := 2) sc__is_well_formed.nd rfl (Or.inl rfl) (pe_ix (ix_tupK (K := K) (by rfl)) (pv 1) pe_int (fun _ _ => rfl)))
    (pss_cons (ps_if (pt_cmpR op_eq (pv 2) pe_str (nomark _))
    (pss_one (ps_ret (pe_and (pe_cmpR op_eq (pe_callB (call_len_seqK (K := K) (by rfl)) (by rfl) B.len PySem.boot_len (pa_cons (pv 1) pa_nil)) pe_int (nomark _)) (pe_one (pe_c G__is_selection (hr.mono (by first | decide | omega)) (pa_cons (pv 0) (pa_cons (pe_ix (ix_tupK (K := K) (by rfl)) (pv 1) pe_int (fun _ _ => rfl)) pa_nil)))))))
    pss_nil)
    (pss_cons (ps_if (pt_cmpR op_eq (pv 2) pe_str (nomark _))
    (pss_one (ps_ret (pe_cmpR op_eq (pe_callB (call_len_seqK (K := K) (by rfl)) (by rfl) B.len PySem.boot_len (pa_cons (pv 1) pa_nil)) pe_int (nomark _))))
    pss_nil)
    (pss_cons (ps_if (pt_cmpR op_eq (pv 2) pe_str (nomark _))
    (pss_one (ps_ret (pe_and (pe_cmpR op_eq (pe_callB (call_len_seqK (K := K) (by rfl)) (by rfl) B.len PySem.boot_len (pa_cons (pv 1) pa_nil)) pe_int (nomark _)) (pe_one (pe_c G__is_range (hr.mono (by first | decide | omega)) (pa_cons (pe_ix (ix_tupK (K := K) (by rfl)) (pv 1) pe_int (fun _ _ => rfl)) (pa_cons (pe_ix (ix_tupK (K := K) (by rfl)) (pv 1) pe_int (fun _ _ => rfl)) pa_nil)))))))
    pss_nil)
    (pss_one (ps_ret (pe_cmpR (op_in_seqK (K := K) (by rfl)) (pv 2) (pe_tup (pa_cons pe_str (pa_cons pe_str (pa_cons pe_str pa_nil)))) (by first | rfl | decide))))))))), ?_⟩
    walk_at "go"
    refine rd_isTup hd ?_
    walk_at "go"
    cases hd with
    | @tup a xs ds ha hx =>
      refine iteF ?_
      walk_at "go"
      refine rd_len (.inr ha) ?_
      walk_at "go"
      cases hx with
      | nil =>
        refine iteT ?_
        walk_at "go"
        exact k _ (Same.refl _)
      | @cons v0 vs d0 ps h0 hx =>
        have e0 : decide (V.int ((v0 :: vs).length : Nat) = V.int 0) = false := (dec_len (m := 0)).trans rfl
        rw [e0]
        refine iteF ?_
        walk_at "go"
        refine rd_ixt ha (at_of (j := 0) rfl rfl) ?_
        walk_at "go"
        refine rd_isStr h0 ?_
        walk_at "go"
        cases h0 with
        | str w =>
          refine iteF ?_
          walk_at "go"
          refine rd_ixt ha (at_of (j := 0) rfl rfl) ?_
          walk_at "go"
          rw [dec_S]
          refine ite2 (fun h1 => ?_) (fun h1 => ?_)
          · have w1 := of_decide_eq_true h1
            subst w1
            walk_at "go"
            refine rd_len (.inr ha) ?_
            walk_at "go"
            refine ite2 (fun h2 => ?_) (fun h2 => ?_)
            · walk_at "go"
              have h2 : vs.length = 1 := by
                have := of_decide_eq_true ((dec_len (m := 2)).symm.trans h2)
                rw [List.length_cons] at this; omega
              cases hx with
              | nil => simp at h2
              | @cons v1 vs1 d1 ps1 h1' hx1 =>
                cases hx1 with
                | nil =>
                  refine rd_ixt ha (at_of (j := 1) rfl rfl) ?_
                  walk_at "go"
                  exact use_selection hA h1' k
                | cons _ _ => simp at h2
            · have h2 : ¬ vs.length = 1 := fun z => h2 ((dec_len (m := 2)).trans (decide_eq_true (by rw [List.length_cons]; omega)))
              have e : mWF al (.tuple (.str (kS "set") :: ps)) = false := by
                rw [mWF_eq, if_pos rfl]
                exact mOne_no (by rw [← DpAll.length hx]; exact h2)
              have kk := k H (Same.refl _)
              rw [e] at kk
              exact kk
          · have n1 : ¬ w = kS "set" := fun z => h1 (decide_eq_true z)
            walk_at "go"
            rw [dec_S]
            refine ite2 (fun h2 => ?_) (fun h2 => ?_)
            · have w1 := of_decide_eq_true h2
              subst w1
              walk_at "go"
              refine rd_len (.inr ha) ?_
              walk_at "go"
              have e : mWF al (.tuple (.str (kS "not") :: ps)) = decide (V.int ((V.str (kS "not") :: vs).length : Nat) = V.int 2) := by
                rw [mWF_eq, if_neg n1, if_pos rfl]
                refine Eq.trans ?_ (dec_len (m := 2)).symm
                rw [List.length_cons, (DpAll.length hx)]
                simp
              rw [← e]
              exact k _ (Same.refl _)
            · have n2 : ¬ w = kS "not" := fun z => h2 (decide_eq_true z)
              walk_at "go"
              rw [dec_S]
              refine ite2 (fun h3 => ?_) (fun h3 => ?_)
              · have w1 := of_decide_eq_true h3
                subst w1
                walk_at "go"
                refine rd_len (.inr ha) ?_
                walk_at "go"
                refine ite2 (fun h2 => ?_) (fun h2 => ?_)
                · walk_at "go"
                  have h2 : vs.length = 3 := by
                    have := of_decide_eq_true ((dec_len (m := 4)).symm.trans h2)
                    rw [List.length_cons] at this; omega
                  obtain ⟨v1, v2, v3, d1, d2, d3, rfl, rfl, a1, a2, a3⟩ := dpAll3 hx h2
                  refine rd_ixt ha (at_of (j := 2) rfl rfl) ?_
                  walk_at "go"
                  refine rd_ixt ha (at_of (j := 3) rfl rfl) ?_
                  walk_at "go"
                  exact use_range a2 a3 (k _ (Same.refl _))
                · have h2 : ¬ vs.length = 3 := fun z => h2 ((dec_len (m := 4)).trans (decide_eq_true (by rw [List.length_cons]; omega)))
                  have e : mWF al (.tuple (.str (kS "again") :: ps)) = false := by
                    rw [mWF_eq, if_neg n1, if_neg n2, if_pos rfl]
                    exact mThree_no (by rw [← DpAll.length hx]; exact h2)
                  have kk := k H (Same.refl _)
                  rw [e] at kk
                  exact kk
              · have n3 : ¬ w = kS "again" := fun z => h3 (decide_eq_true z)
                walk_at "go"
                refine ⟨by show 3 ≤ sizeLine; decide, rd_new fun p H' hp eP sm => ?_⟩
                walk_at "go"
                refine rd_in (.inr (SqT.of eP)) rfl rfl ?_
                have e : mWF al (.tuple (.str w :: ps)) = inV (.str w) [.str (kS "row"), .str (kS "any"), .str (kS "all")] := by
                  rw [mWF_eq, if_neg n1, if_neg n2, if_neg n3]
                  show _ = ((kS "row" == w) || ((kS "any" == w) || ((kS "all" == w) || false)))
                  rw [Bool.or_false, Bool.or_assoc, beq_dec, beq_dec, beq_dec]
                have kk := k _ sm
                rw [e] at kk
                exact kk
        | non => refine iteT ?_; walk_at "go"; exact k _ (Same.refl _)
        | bl b => refine iteT ?_; walk_at "go"; exact k _ (Same.refl _)
        | int b => refine iteT ?_; walk_at "go"; exact k _ (Same.refl _)
        | lst _ _ => refine iteT ?_; walk_at "go"; exact k _ (Same.refl _)
        | tup _ _ => refine iteT ?_; walk_at "go"; exact k _ (Same.refl _)
    | non => refine iteT ?_; walk_at "go"; exact k _ (Same.refl _)
    | bl b => refine iteT ?_; walk_at "go"; exact k _ (Same.refl _)
    | int b => refine iteT ?_; walk_at "go"; exact k _ (Same.refl _)
    | str b => refine iteT ?_; walk_at "go"; exact k _ (Same.refl _)
    | lst _ _ => refine iteT ?_; walk_at "go"; exact k _ (Same.refl _)
end

end Cs
namespace Cs
open PySem L2
open PyProof.Rows (envOfC)
/-! the parts: w is known to be a text, an again has a part -/
def sp_parts (K : PySem.W.Frag) : Sp := fun vs H Q _ => ∃ (Hd : Hp) (v : V) (w : Str) (ps : List PyData), vs = [v] ∧ Same Hd H ∧ Dp K Hd v (.tuple (.str w :: ps)) ∧ (w = kS "again" → 1 ≤ ps.length) ∧ ∀ (p : Addr) (xs : List V) (H' : Hp), Same H H' → SqT K H' p xs → DpAll K Hd xs (mParts (.tuple (.str w :: ps))) → Q (.ref p) H'
theorem use_parts {K : PySem.W.Frag} {Hd : Hp} {v : V} {w : Str} {ps : List PyData} {H : Hp} {Q : VK} {E : XK} (s : Same Hd H) (h : Dp K Hd v (.tuple (.str w :: ps))) (ha : w = kS "again" → 1 ≤ ps.length) (k : ∀ (p : Addr) (xs : List V) (H' : Hp), Same H H' → SqT K H' p xs → DpAll K Hd xs (mParts (.tuple (.str w :: ps))) → Q (.ref p) H') : sp_parts K [v] H Q E := ⟨Hd, v, w, ps, rfl, s, h, ha, k⟩
section
variable {P : Program} {w : World} {K : PySem.W.Frag} {mg : Str → Option Value} {base : Heap}
theorem ok_parts (F : At K mg "_parts" s__parts ["expression"]) : Cal P w K mg base 1 "_parts" ["expression"] (sp_parts K) := by
  refine F.ok sc__parts (fun vs H Q E h => ?_) (fun f cdv A outer s H vs Q E hr h => ?_)
  · obtain ⟨_, v, w, ps, rfl, _⟩ := h
    rfl
  · obtain ⟨Hd, v, w, ps, rfl, hs0, hd, ha, k⟩ := h
    refine ⟨_, (pss_cons (ps_if (pt_cmpR op_eq (pe_ix (ix_tupK (K := K) (by rfl)) (pv 0) pe_int (fun _ _ => rfl)) pe_str (nomark _))
    (pss_one (ps_ret (pe_tup pa_nil)))
    pss_nil)
    (pss_cons (ps_if (pt_cmpR op_eq (pe_ix (ix_tupK (K := K) (by rfl)) (pv 0) pe_int (fun _ _ => rfl)) pe_str (nomark _))
    (pss_one (ps_ret (pe_tup (pa_cons (pe_ix (ix_tupK (K := K) (by rfl)) (pv 0) pe_int (fun _ _ => rfl)) pa_nil))))
    pss_nil)
    (pss_one (ps_ret (pe_slice (sl_tupAK (K := K) (by rfl)) (pv 0) (po_some pe_int) po_none))))), ?_⟩
    walk_at "go"
    cases hd with
    | @tup a xs ds hs hx =>
      have hs := Same.seqT hs0 hs
      cases hx with
      | @cons v0 vs _ _ h0 hx =>
        cases h0
        refine rd_ixt hs (at_of (j := 0) rfl rfl) ?_
        walk_at "go"
        rw [dec_S]
        refine ite2 (fun h1 => ?_) (fun h1 => ?_)
        · have w1 := of_decide_eq_true h1
          subst w1
          walk_at "go"
          refine ⟨by show 0 ≤ sizeLine; decide, rd_new fun p H' hp eP sm => ?_⟩
          exact k p [] H' sm (SqT.of eP) (by rw [mParts_eq, if_pos rfl]; exact .nil)
        · have n1 : ¬ w = kS "set" := fun z => h1 (decide_eq_true z)
          walk_at "go"
          refine rd_ixt hs (at_of (j := 0) rfl rfl) ?_
          walk_at "go"
          rw [dec_S]
          refine ite2 (fun h2 => ?_) (fun h2 => ?_)
          · have w1 := of_decide_eq_true h2
            subst w1
            walk_at "go"
            cases hx with
            | nil => exact absurd (ha rfl) (by simp)
            | @cons v1 vs1 d1 ps1 a1 hx1 =>
              refine rd_ixt hs (at_of (j := 1) rfl rfl) ?_
              walk_at "go"
              refine ⟨by show 1 ≤ sizeLine; decide, rd_new fun p H' hp eP sm => ?_⟩
              exact k p [v1] H' sm (SqT.of eP) (by rw [mParts_eq, if_neg n1, if_pos rfl]; exact .cons a1 .nil)
          · have n2 : ¬ w = kS "again" := fun z => h2 (decide_eq_true z)
            walk_at "go"
            refine rd_sla hs (fun z => ?_) (fun _ => ?_)
            · exfalso
              have z1 := z.1
              have e : HT.sIx (V.str w :: vs).length 0 (some 1) = 1 := by
                show HT.sIx (V.str w :: vs).length 0 (some ((1 : Nat) : Int)) = 1
                rw [HT.sIx_nat, List.length_cons]; omega
              omega
            · rw [cut1]
              refine rd_new fun p H' hp eP sm => ?_
              exact k p vs H' sm (SqT.of eP) (by rw [mParts_eq, if_neg n1, if_neg n2]; exact hx)
end

end Cs
namespace Cs
open PySem L2
open PyProof.Rows (envOfC)
def sp_width (K : PySem.W.Frag) (al : List Nat) (n : Nat) : Sp := fun vs H Q _ => ∃ (v : V) (d : PyData), vs = [v] ∧ Dp K H v d ∧ mF al d = true ∧ mD d ≤ n ∧ mT d ≤ 1000 ∧ ∀ H', Same H H' → Q (.int (mW d)) H'
theorem use_width {K : PySem.W.Frag} {al : List Nat} {n : Nat} {v : V} {d : PyData} {H : Hp} {Q : VK} {E : XK} (h : Dp K H v d) (hF : mF al d = true) (hD : mD d ≤ n) (hT : mT d ≤ 1000) (k : ∀ H', Same H H' → Q (.int (mW d)) H') : sp_width K al n [v] H Q E := ⟨v, d, rfl, h, hF, hD, hT, k⟩
theorem mF_form {al : List Nat} {d : PyData} (h : mF al d = true) : ∃ w ps, d = .tuple (.str w :: ps) ∧ mWF al (.tuple (.str w :: ps)) = true ∧ ∀ p ∈ rel w ps, mF al p = true := by
  by_cases hx : ∃ w ps, d = .tuple (.str w :: ps)
  · obtain ⟨w, ps, rfl⟩ := hx
    rw [mF_eq, Bool.and_eq_true, List.all_map, List.all_eq_true] at h
    exact ⟨w, ps, rfl, h.1, h.2⟩
  · have e : mF al d = false := foldD_no _ _ d fun w ps e => hx ⟨w, ps, e⟩
    rw [e] at h; cases h
theorem mThree_form {ps : List PyData} (h : mThree ps = true) : ∃ p l hi, ps = [p, .int l, hi] ∧ 0 ≤ l ∧ l ≤ 4 ∧ (hi = .none ∨ ∃ m, hi = .int m ∧ l ≤ m ∧ m ≤ 4) := by
  unfold mThree at h
  split at h
  · rename_i p lo hi
    unfold mRange at h
    split at h
    · rename_i l
      rw [Bool.and_eq_true] at h
      obtain ⟨h1, h2⟩ := h
      unfold mWithin at h1
      simp only [Bool.and_eq_true, decide_eq_true_eq] at h1
      refine ⟨p, l, hi, rfl, h1.1, h1.2, ?_⟩
      unfold mHigh at h2
      split at h2
      · exact .inl rfl
      · unfold mWithin at h2
        split at h2
        · simp only [Bool.and_eq_true, decide_eq_true_eq] at h2
          exact .inr ⟨_, rfl, h2.1, h2.2⟩
        · cases h2
    · cases h
  · cases h
theorem mT_part {w : Str} {ps : List PyData} {p : PyData} (h : p ∈ rel w ps) : mT p < mT (.tuple (.str w :: ps)) := by
  rw [mT_eq]
  have := mem_sum_le (List.mem_map_of_mem (f := mT) h)
  omega
theorem len_le_sum {l : List Nat} (h : ∀ x ∈ l, 1 ≤ x) : l.length ≤ l.sum := by
  induction l with
  | nil => simp
  | cons a l ih =>
    rw [List.length_cons, List.sum_cons]
    have := ih fun x hx => h x (by simp [hx])
    have := h a (by simp)
    omega
theorem rel_len {w : Str} {ps : List PyData} : (rel w ps).length < mT (.tuple (.str w :: ps)) := by
  rw [mT_eq]
  have := len_le_sum (l := (rel w ps).map mT) fun x hx => by
    obtain ⟨p, _, rfl⟩ := List.mem_map.mp hx
    exact mT_pos p
  rw [List.length_map] at this
  omega
theorem map_snoc {α β : Type} (f : α → β) {l : List α} {i : Nat} {x : α} (h : l[i]? = some x) : (l.take (i + 1)).map f = (l.take i).map f ++ [f x] := by
  rw [List.take_add_one, h, List.map_append]; rfl
section
variable {P : Program} {w : World} {K : PySem.W.Frag} {mg : Str → Option Value} {base : Heap}
theorem ok_width (B : Blt mg) (G__parts : Cal P w K mg base 1 "_parts" ["expression"] (sp_parts K)) (F : At K mg "_width" s__width ["expression"]) (al : List Nat) : ∀ n : Nat, Cal P w K mg base (n + 2) "_width" ["expression"] (sp_width K al n) := by
  intro n
  induction n with
  | zero =>
    refine F.ok (k := 1) sc__width (fun vs H Q E h => ?_) (fun f cdv A outer s H vs Q E hr h => ?_)
    · obtain ⟨v, d, rfl, _⟩ := h
      rfl
    · obtain ⟨v, d, rfl, _, hF, hD, _⟩ := h
      obtain ⟨w', ps, rfl, _⟩ := mF_form hF
      rw [mD_eq] at hD
      omega
  | succ n G__width =>
    refine F.ok (k := n + 2) sc__width (fun vs H Q E h => ?_) (fun f cdv A outer s H vs Q E hr h => ?_)
    · obtain ⟨v, d, rfl, _⟩ := h
      rfl
    · obtain ⟨v, d, rfl, hd, hF, hD, hT, k⟩ := h
      obtain ⟨w', ps, rfl, hW, hP⟩ := mF_form hF
      obtain ⟨_, _, e0, hw, _, _, h3⟩ := mWF_form hW
      injection e0 with e0
      injection e0 with e1 e2
      injection e1 with e1
      subst e1 e2
      refine ⟨_, (pss_cons (ps_set (i := 1) sc__width.nd rfl (Or.inl rfl) (pe_callB (call_max2 rfl) (by rfl) B.max (by decide +kernel) (pa_cons pe_int (pa_cons (pe_callB (cr_sumK (K := K) (by rfl) rfl) (by rfl) B.sum (by decide +kernel) (pa_cons (pe_lc (own := [("part", 4)]) rfl sc__width.nd (pi_tupK (K := K) (by rfl) (pe_c G__parts (hr.mono (by first | decide | omega)) (pa_cons (pv 0) pa_nil))) (blkOk_by (N := ["expression", "width", "low", "high", "part"]) (sc := defScope s__width) (by decide +kernel)) (fun _ _ _ _ _ => (pg_name (i := 4) sc__width.nd rfl (Or.inl rfl))) (fun _ _ _ _ _ => pts_nil) (fun _ _ _ _ _ => (pe_c G__width (hr.mono (by first | decide | omega)) (pa_cons (pv 4) pa_nil)))) pa_nil)) pa_nil))))
    (pss_cons (ps_if (pt_cmpR op_ne (pe_ix (ix_tupK (K := K) (by rfl)) (pv 0) pe_int (fun _ _ => rfl)) pe_str (nomark _))
    (pss_one (ps_ret (pv 1)))
    pss_nil)
    (pss_cons (ps_par (i := 2) (j := 3) (by rfl) sc__width.nd rfl rfl (by decide) rfl rfl (pa_cons (pe_ix (ix_tupK (K := K) (by rfl)) (pv 0) pe_int (fun _ _ => rfl)) (pa_cons (pe_ix (ix_tupK (K := K) (by rfl)) (pv 0) pe_int (fun _ _ => rfl)) pa_nil)) (by rfl))
    (pss_one (ps_ret (pe_op op_mul (pv 1) (pe_ifExp (pt_cmpR op_isN (pv 3) pe_non (nomark _)) (pe_op op_add (pv 2) pe_int) (pe_callB (call_max2 rfl) (by rfl) B.max (by decide +kernel) (pa_cons pe_int (pa_cons (pv 3) pa_nil)))))))))), ?_⟩
      walk_at "go"
      refine use_parts (Same.refl _) hd (fun z => ?_) fun p xs H1 sm1 hp hx => ?_
      · obtain ⟨_, _, _, rfl, _⟩ := mThree_form (h3 z)
        simp
      rw [mParts_rel] at hx
      replace hx := DpAll.mono sm1 hx
      refine ⟨p, rfl, ⟨_, hp⟩, ?_⟩
      intro D hD'
      have lx : xs.length = (rel w' ps).length := DpAll.length hx
      have lr := @rel_len w' ps
      refine lc_tup (xs := xs) (fun i H' => H' D = some (.lst ((((rel w' ps).take i).map mW).map V.int)) ∧ Same H1 H') ⟨upd_same, Same.lay hD'⟩ (fun i H' _ h => Same.seqT h.2 hp) ?_ ?_
      · rintro i y H' hi ⟨eD, sm⟩
        obtain ⟨dp, hdp, hy⟩ := DpAll.get hx hi
        have hm := List.mem_of_getElem? hdp
        walk_at "go"
        refine ⟨rfl, ?_⟩
        walk_at "go"
        refine use_width (Dp.mono sm hy) (hP dp hm) (by have := mD_part hm; omega) (by have := mT_part hm; omega) fun H2 sm2 => ?_
        refine ⟨_, sm2 _ _ eD, by rw [List.length_map, List.length_map, List.length_take, PySem.sizeLine_eq]; omega, ?_, Same.lay2 (L2.Same.trans sm sm2) hD'⟩
        rw [upd_same, map_snoc mW hdp, List.map_append]; rfl
      · rintro H3 ⟨eD, sm⟩
        rw [lx, List.take_length] at eD
        walk_at "go"
        refine rd_sum (SqL.of eD) ?_
        walk_at "go"
        refine ⟨1, _, rfl, ?_⟩
        walk_at "go"
        have smA : Same H H3 := L2.Same.trans sm1 sm
        have hd3 := Dp.mono smA hd
        cases hd3 with
        | @tup a ys ds hs hy =>
          cases hy with
          | @cons v0 vs _ _ h0 hy =>
            cases h0
            refine rd_ixt hs (at_of (j := 0) rfl rfl) ?_
            walk_at "go"
            rw [dec_S]
            refine ite2 (fun h1 => ?_) (fun h1 => ?_)
            · have n1 : ¬ w' = kS "again" := by simpa using h1
              walk_at "go"
              have kk := k H3 smA
              rw [mW_eq, if_neg n1] at kk
              exact kk
            · have w1 : w' = kS "again" := by simpa using h1
              obtain ⟨pp, l, hi, rfl, l0, l4, hh⟩ := mThree_form (h3 w1)
              obtain ⟨v1, v2, v3, d1, d2, d3, rfl, e3, a1, a2, a3⟩ := dpAll3 hy (DpAll.length hy)
              injection e3 with e3 e4
              injection e4 with e4 e5
              injection e5 with e5 _
              subst e3 e4 e5
              cases a2
              walk_at "go"
              refine rd_ixt hs (at_of (j := 2) rfl rfl) ?_
              walk_at "go"
              refine rd_ixt hs (at_of (j := 3) rfl rfl) ?_
              walk_at "go"
              have kk := k H3 smA
              rw [mW_eq, if_pos w1] at kk
              rcases hh with rfl | ⟨m, rfl, m0, m4⟩
              · cases a3
                refine ⟨rfl, ?_⟩
                walk_at "go"
                refine iteT ?_
                walk_at "go"
                refine rd_i (.inr ⟨by omega, by omega⟩) ?_
                exact kk
              · cases a3
                refine ⟨rfl, ?_⟩
                walk_at "go"
                refine iteF ?_
                walk_at "go"
                refine ⟨1, m, rfl, ?_⟩
                refine rd_i (.inr (by split <;> omega)) ?_
                exact kk
end

end Cs
namespace Cs
open PySem L2
open PyProof.Rows (envOfC)
/-! the loop over a stack of parts -/
def mN : PyData → Nat := foldD (fun _ ps vs => max ps.length (vs.foldr max 0)) 0
theorem mN_eq (w : Str) (ps : List PyData) : mN (.tuple (.str w :: ps)) = max ps.length (((rel w ps).map mN).foldr max 0) := foldD_eq _ _ w ps
theorem rel_le {w : Str} {ps : List PyData} : (rel w ps).length ≤ ps.length := by
  unfold rel
  split
  · exact Nat.zero_le _
  · split
    · rw [List.length_take]; omega
    · exact Nat.le_refl _
theorem mN_part {w : Str} {ps : List PyData} {p : PyData} (h : p ∈ rel w ps) : mN p ≤ mN (.tuple (.str w :: ps)) := by
  rw [mN_eq]
  have := le_foldr_max (List.mem_map_of_mem (f := mN) h)
  omega
theorem mN_len {w : Str} {ps : List PyData} : (rel w ps).length ≤ mN (.tuple (.str w :: ps)) := by
  rw [mN_eq]
  have := @rel_le w ps
  omega
def sp_small (K : PySem.W.Frag) : Sp := fun vs H Q _ => ∃ (al : List Nat) (v : V) (d : PyData), vs = [.str (S al), v] ∧ al.length ≤ 1000 ∧ Dp K H v d ∧ mN d ≤ 100000 ∧ ∀ H', Same H H' → Q (.bl (loopS al 20 [(d, false)])) H'
theorem use_small {K : PySem.W.Frag} {al : List Nat} {v : V} {d : PyData} {H : Hp} {Q : VK} {E : XK} (hA : al.length ≤ 1000) (h : Dp K H v d) (hN : mN d ≤ 100000) (k : ∀ H', Same H H' → Q (.bl (loopS al 20 [(d, false)])) H') : sp_small K [.str (S al), v] H Q E := ⟨al, v, d, rfl, hA, h, hN, k⟩
/-- the stack as it lies: pairs of data and a bool -/
inductive Stk (K : PySem.W.Frag) (Hd H : Hp) : List V → List (PyData × Bool) → Prop
  | nil : Stk K Hd H [] []
  | cons {q : Addr} {x : V} {d : PyData} {b : Bool} {vs : List V} {us : List (PyData × Bool)} : H q = some (.tup [x, .bl b]) → Dp K Hd x d → Stk K Hd H vs us → Stk K Hd H (.ref q :: vs) ((d, b) :: us)
theorem Stk.mono {K : PySem.W.Frag} {Hd Hd' H H' : Hp} (s : Same Hd Hd') (k : TS H H') : ∀ {vs us}, Stk K Hd H vs us → Stk K Hd' H' vs us
  | _, _, .nil => .nil
  | _, _, .cons h d t => .cons (k _ _ h) (Dp.mono s d) (Stk.mono s k t)
theorem Stk.app {K : PySem.W.Frag} {Hd H : Hp} : ∀ {vs us vs' us'}, Stk K Hd H vs us → Stk K Hd H vs' us' → Stk K Hd H (vs ++ vs') (us ++ us')
  | _, _, _, _, .nil, t => t
  | _, _, _, _, .cons h d t, t' => .cons h d (Stk.app t t')
theorem Stk.length {K : PySem.W.Frag} {Hd H : Hp} : ∀ {vs us}, Stk K Hd H vs us → vs.length = us.length
  | _, _, .nil => rfl
  | _, _, .cons _ _ t => by rw [List.length_cons, List.length_cons, Stk.length t]
theorem Stk.last {K : PySem.W.Frag} {Hd H : Hp} {vs us} (h : Stk K Hd H vs us) : (vs = [] ∧ us = []) ∨ ∃ vs' us' q x d b, vs = vs' ++ [.ref q] ∧ us = us' ++ [(d, b)] ∧ H q = some (.tup [x, .bl b]) ∧ Dp K Hd x d ∧ Stk K Hd H vs' us' := by
  induction h with
  | nil => exact .inl ⟨rfl, rfl⟩
  | @cons q x d b vs us h1 h2 t ih =>
    rcases ih with ⟨rfl, rfl⟩ | ⟨vs', us', q', x', d', b', rfl, rfl, a1, a2, a3⟩
    · exact .inr ⟨[], [], q, x, d, b, rfl, rfl, h1, h2, .nil⟩
    · exact .inr ⟨.ref q :: vs', (d, b) :: us', q', x', d', b', rfl, rfl, a1, a2, .cons h1 h2 a3⟩
theorem TS.ofKp {L : Addr} {H H' : Hp} {ys : List V} (e : H L = some (.lst ys)) (k : Kp L H H') : TS H H' := fun b xs q => k.at (fun z => by rw [z, e] at q; cases q) q
section
variable {K : PySem.W.Frag} {σ : St} {H : Hp} {Q : VK} {b : Bool} {a : Addr} {w : Str} {xs : List V}
theorem in2 {s1 s2 : Str} : inV (.str w) [.str s1, .str s2] = (decide (w = s1) || decide (w = s2)) := by
  show ((s1 == w) || ((s2 == w) || false)) = _
  rw [Bool.or_false, beq_dec, beq_dec]
theorem rd_rowOr {i j : Nat} (h5 : σ[i]? = some (some (.bl b))) (h4 : σ[j]? = some (some (.ref a))) (hs : SqT K H a (.str w :: xs)) (k : ∀ H2, Same H H2 → Q (.bl (b || isRow w)) H2) :
    tOrV (tVar i) (tOp (rIn K false) (tOp (rIxT K) (tVar j) (tC (.int 0))) (tTup (tCons (tC (.str (kS "row"))) (tCons (tC (.str (kS "again"))) tNil)))) σ H Q := by
  refine ⟨_, h5, b, rfl, ?_⟩
  cases b with
  | true => exact iteT (k H (Same.refl _))
  | false =>
    refine iteF ?_
    refine rd_op (rd_op ⟨_, h4, ?_⟩)
    walk_at "go"
    refine rd_ixt hs (at_of (j := 0) rfl rfl) ?_
    walk_at "go"
    refine ⟨by show 2 ≤ sizeLine; decide, rd_new fun p H' hp eP sm => ?_⟩
    refine rd_in (.inr (SqT.of eP)) rfl rfl ?_
    rw [if_neg Bool.false_ne_true, in2]
    exact k H' sm
theorem rd_barAnd {i j : Nat} {R : Bool → Hp → Prop} (h5 : σ[i]? = some (some (.bl b))) (h4 : σ[j]? = some (some (.ref a))) (hs : SqT K H a (.str w :: xs)) (k : ∀ H2, Same H H2 → R (b && isBar w) H2) :
    tAnd (tTruth K (tVar i)) (tTest (tOp (rIn K false) (tOp (rIxT K) (tVar j) (tC (.int 0))) (tTup (tCons (tC (.str (kS "all"))) (tCons (tC (.str (kS "not"))) tNil))))) σ H R := by
  refine ⟨_, h5, b, rfl, ?_⟩
  cases b with
  | false => exact iteF (k H (Same.refl _))
  | true =>
    refine iteT ?_
    refine rd_test (rd_op (rd_op ⟨_, h4, ?_⟩))
    walk_at "go"
    refine rd_ixt hs (at_of (j := 0) rfl rfl) ?_
    walk_at "go"
    refine ⟨by show 2 ≤ sizeLine; decide, rd_new fun p H' hp eP sm => ?_⟩
    refine rd_in (.inr (SqT.of eP)) rfl rfl ?_
    rw [if_neg Bool.false_ne_true, in2]
    exact ⟨_, rfl, k H' sm⟩
end
theorem Same.ofKp {L : Addr} {H0 H : Hp} (n : H0 L = none) (k : Kp L H0 H) : Same H0 H := fun b o e => k.at (ne_of_none e n) e
section
variable {P : Program} {w : World} {K : PySem.W.Frag} {mg : Str → Option Value} {base : Heap}
theorem ok_small (B : Blt mg) (T : PatK mg) (G__is_well_formed : Cal P w K mg base 3 "_is_well_formed" ["alphabet", "value"] (sp_wf K)) (G__parts : Cal P w K mg base 1 "_parts" ["expression"] (sp_parts K))
    (F : At K mg "_is_small_expression" s__is_small_expression ["alphabet", "value"]) : Cal P w K mg base 4 "_is_small_expression" ["alphabet", "value"] (sp_small K) := by
  refine F.ok sc__is_small_expression (fun vs H Q E h => ?_) (fun f cdv A outer s H vs Q E hr h => ?_)
  · obtain ⟨al, v, d, rfl, _⟩ := h
    rfl
  · obtain ⟨al, v, d, rfl, hA, hd, hN, k⟩ := h
    obtain ⟨R, hR⟩ : ∃ R, R = loopS al 20 [(d, false)] := ⟨_, rfl⟩
    rw [← hR] at k
    refine ⟨_, (pss_cons (ps_set (i := 2) sc__is_small_expression.nd rfl (Or.inl rfl) (pe_lst (pa_cons (pe_tup (pa_cons (pv 1) (pa_cons pe_bl pa_nil))) pa_nil)))
    (pss_cons (ps_set (i := 3) sc__is_small_expression.nd rfl (Or.inl rfl) pe_int)
    (pss_cons (ps_while PassesOwn.never (pt_truthK (K := K) (by rfl) (pv 2))
    (pss_cons (ps_asg (pe_bm0K (K := K) (by rfl) PySem.F.plainAttrs_list PySem.F.slot_list_pop PySem.F.type_list_pop mt_pop (pv 2)) (pg_tupK (K := K) (by rfl) (by rfl) (pgs_cons (pg_name (i := 4) sc__is_small_expression.nd rfl (Or.inl rfl)) (pgs_cons (pg_name (i := 5) sc__is_small_expression.nd rfl (Or.inl rfl)) pgs_nil))))
    (pss_cons (ps_aug (i := 3) sc__is_small_expression.nd rfl (Or.inl rfl) pe_int ip_add)
    (pss_cons (ps_if (PW.pt (pw_or (pt_cmpR op_gt (pv 3) (pe_k T.c_MOST_TUPLES) (nomark _)) (pw_or1 (pt_not (pt_val (pe_c G__is_well_formed (hr.mono (by first | decide | omega)) (pa_cons (pv 0) (pa_cons (pv 4) pa_nil))))))))
    (pss_one (ps_ret pe_bl))
    pss_nil)
    (pss_cons (ps_if (PW.pt (pw_and (pt_truthK (K := K) (by rfl) (pv 5)) (pw_and1 (pt_cmpR (op_in_seqK (K := K) (by rfl)) (pe_ix (ix_tupK (K := K) (by rfl)) (pv 4) pe_int (fun _ _ => rfl)) (pe_tup (pa_cons pe_str (pa_cons pe_str pa_nil))) (by first | rfl | decide)))))
    (pss_one (ps_ret pe_bl))
    pss_nil)
    (pss_cons (ps_set (i := 6) sc__is_small_expression.nd rfl (Or.inr rfl) (pe_or (pv 5) (pe_one (pe_cmpR (op_in_seqK (K := K) (by rfl)) (pe_ix (ix_tupK (K := K) (by rfl)) (pv 4) pe_int (fun _ _ => rfl)) (pe_tup (pa_cons pe_str (pa_cons pe_str pa_nil))) (by first | rfl | decide)))))
    (pss_one (ps_expr (pe_bmK (K := K) (by rfl) PySem.F.plainAttrs_list PySem.F.slot_list_extend PySem.F.type_list_extend mt_extend (pv 2) (pa_cons (pe_lc (own := [("inner", 7)]) rfl sc__is_small_expression.nd (pi_tupK (K := K) (by rfl) (pe_c G__parts (hr.mono (by first | decide | omega)) (pa_cons (pv 4) pa_nil))) (blkOk_by (N := ["alphabet", "value", "waiting", "tuples", "part", "must_be_plain", "plain_below", "inner"]) (sc := defScope s__is_small_expression) (by decide +kernel)) (fun _ _ _ _ _ => (pg_name (i := 7) sc__is_small_expression.nd rfl (Or.inl rfl))) (fun _ _ _ _ _ => pts_nil) (fun _ _ _ _ _ => (pe_tup (pa_cons (pv 7) (pa_cons (pv 6) pa_nil))))) pa_nil))))))))))
    (pss_one (ps_ret pe_bl))))), ?_⟩
    walk_at "go"
    refine ⟨by show 2 ≤ sizeLine; decide, rd_new fun q0 H1 n0 e0 sm1 => ?_⟩
    walk_at "go"
    refine ⟨by show 1 ≤ sizeLine; decide, fun L hL => ?_⟩
    walk_at "go"
    have hL0 : H L = none := L2.Same.free sm1 hL
    have ql : q0 ≠ L := fun z => by rw [z] at e0; rw [e0] at hL; cases hL
    refine rd_while (m0 := 20) (fun r σ H' => ∃ (vs : List V) (us : List (PyData × Bool)) (t : Int) (x4 x5 x6 x7 : Option V), σ = [some (.str (S al)), some v, some (.ref L), some (.int t), x4, x5, x6, x7] ∧ t + r = 20 ∧ r ≤ 20 ∧ H' L = some (.lst vs) ∧ Stk K (hid L H') H' vs us ∧
        (∀ x ∈ us, mN x.1 ≤ 100000) ∧ us.length ≤ 1 + 100000 * (20 - r) ∧ Kp L H H' ∧ loopS al r us.reverse = R) ?_ ?_ ?_
    · refine ⟨_, [(d, false)], 0, none, none, none, none, rfl, rfl, by decide, upd_same, .cons (by rw [upd_ne ql]; exact e0) (Dp.mono (fun b o e => ?_) hd) .nil, ?_, by simp, (Kp.of sm1).trans ((Kp.refl).lay hL), hR.symm⟩
      · have nb : b ≠ L := ne_of_none e hL0
        rw [hid_ne nb, upd_ne nb]; exact sm1 _ _ e
      · intro x hx
        rw [List.mem_singleton.mp hx]; exact hN
    · rintro r σ H2 ⟨vs, us, t, x4, x5, x6, x7, rfl, ht, r20, eL, hS, hNs, hlen, kp, hres⟩
      walk_at "go"
      refine ⟨!vs.isEmpty, .inl ⟨vs, SqL.of eL, rfl⟩, ?_⟩
      rcases hS.last with ⟨rfl, rfl⟩ | ⟨vs', us', q, x, dd, b, rfl, rfl, eq, hx, hS'⟩
      · refine iteF ?_
        walk_at "go"
        have e : R = true := by rw [← hres]; simp [loopS]
        rw [e] at k
        exact k _ (Same.ofKp hL0 kp)
      · have e : (!(vs' ++ [V.ref q]).isEmpty) = true := by simp
        rw [e]
        refine iteT ?_
        walk_at "go"
        refine ⟨.inl ⟨rfl, _, SqL.of eL⟩, L, _, V.ref q, rfl, rfl, eL, by simp, ?_⟩
        rw [List.dropLast_concat]
        have nq : q ≠ L := fun z => by rw [z, eL] at eq; cases eq
        have k3 : Kp L H2 (upd H2 L (.lst vs')) := Kp.set
        have eL3 : upd H2 L (.lst vs') L = some (.lst vs') := upd_same
        generalize upd H2 L (.lst vs') = H3 at k3 eL3
        have hS3 := hS'.mono k3 (TS.ofKp eL k3)
        have eq3 := k3.at nq eq
        have hx3 : Dp K (hid L H3) x dd := Dp.mono k3 hx
        have hrev : (us' ++ [(dd, b)]).reverse = (dd, b) :: us'.reverse := by simp
        rw [hrev] at hres
        walk_at "go"
        refine rd_gtup (SqT.of eq3) rfl ?_
        walk_at "go"
        refine ite2 (fun h1 => ?_) (fun h1 => ?_)
        · -- more tuples than allowed
          have h1 := of_decide_eq_true h1
          have r0 : r = 0 := by omega
          subst r0
          refine iteT ?_
          walk_at "go"
          have e : R = false := by rw [← hres]; rfl
          rw [e] at k
          exact k _ (Same.ofKp hL0 (kp.trans k3))
        · have h1 : ¬ 20 < t + 1 := fun z => h1 (decide_eq_true z)
          obtain ⟨r', rfl⟩ : ∃ r', r = r' + 1 := ⟨r - 1, by omega⟩
          walk_at "go"
          refine use_wf hA (Dp.mono hid_le hx3) fun H4 sm4 => ?_
          have hSm4 : Same H H4 := L2.Same.trans (Same.ofKp hL0 (kp.trans k3)) sm4
          walk_at "go"
          unfold loopS at hres
          by_cases hw : mWF al dd = true
          · rw [hw]
            refine iteF ?_
            rw [if_neg (by rw [hw]; simp)] at hres
            obtain ⟨w', ps, rfl, -, -, -, h3⟩ := mWF_form hw
            have hx4 : Dp K (hid L H4) x (.tuple (.str w' :: ps)) := Dp.mono (Kp.of sm4) hx3
            have hx4c := hx4
            cases hx4c with
            | @tup a ys _ hs hy =>
              cases hy with
              | @cons v0 ys' _ _ hv0 hy =>
                cases hv0
                have hs4 := Same.seqT (hid_le (a := L)) hs
                with_reducible refine rd_next ?_
                with_reducible refine rd_seq ?_
                with_reducible refine rd_ifs ?_
                refine rd_barAnd (i := 5) (j := 4) (by rfl) (by rfl) hs4 fun H5 sm5 => ?_
                refine ite2 (fun h2 => ?_) (fun h2 => ?_)
                · walk_at "go"
                  have e : R = false := by
                    rw [← hres, if_pos (show (b && isBar (mHead (.tuple (.str w' :: ps)))) = true from h2)]
                  rw [e] at k
                  exact k _ (L2.Same.trans hSm4 sm5)
                · rw [if_neg (show ¬ (b && isBar (mHead (.tuple (.str w' :: ps)))) = true from h2)] at hres
                  with_reducible refine rd_next ?_
                  with_reducible refine rd_seq ?_
                  with_reducible refine rd_asg ?_
                  refine rd_rowOr (i := 5) (j := 4) (by rfl) (by rfl) (Same.seqT sm5 hs4) fun H6 sm6 => ?_
                  walk_at "go"
                  have sm46 := L2.Same.trans sm5 sm6
                  have eL6 : H6 L = some (.lst vs') := sm46 _ _ (sm4 _ _ eL3)
                  refine ⟨.inl ⟨rfl, _, SqL.of eL6⟩, ?_⟩
                  walk_at "go"
                  refine use_parts (Hd := hid L H4) (L2.Same.trans hid_le sm46) hx4 (fun z => ?_) fun p xs H7 sm7 hp hxs => ?_
                  · obtain ⟨_, _, _, rfl, _⟩ := mThree_form (h3 z)
                    simp
                  rw [mParts_rel] at hxs hres
                  refine ⟨p, rfl, ⟨_, hp⟩, ?_⟩
                  intro D hD
                  have eL7 := sm7 _ _ eL6
                  have DL : D ≠ L := fun z => by rw [z, eL7] at hD; cases hD
                  have lx : xs.length = (rel w' ps).length := DpAll.length hxs
                  have hNd : mN (.tuple (.str w' :: ps)) ≤ 100000 := hNs (.tuple (.str w' :: ps), b) (by simp)
                  have lr := @mN_len w' ps
                  have s37 : Same H3 H7 := L2.Same.trans (L2.Same.trans sm4 sm46) sm7
                  refine lc_tup (xs := xs) (fun i H' => ∃ zs : List V, H' D = some (.lst zs) ∧ Stk K (hid L H7) H' zs (((rel w' ps).take i).map fun p => (p, b || isRow w')) ∧ Same H7 H') ?_ (fun i H' _ h => Same.seqT h.choose_spec.2.2 hp) ?_ ?_
                  · exact ⟨[], upd_same, .nil, Same.lay hD⟩
                  · rintro i y H' hi ⟨zs, eD, hz, sm⟩
                    obtain ⟨dp, hdp, hy⟩ := DpAll.get hxs hi
                    have lz : zs.length ≤ 100000 := by
                      have := hz.length
                      rw [List.length_map, List.length_take] at this
                      omega
                    walk_at "go"
                    refine ⟨rfl, ?_⟩
                    walk_at "go"
                    refine ⟨by show 2 ≤ sizeLine; decide, rd_new fun q' H8 hq' eQ sm8 => ?_⟩
                    have eD8 := sm8 _ _ eD
                    have eL8 : H8 L = some (.lst vs') := sm8 _ _ (sm _ _ eL7)
                    have nqD : q' ≠ D := fun z => by rw [z, eD8] at eQ; cases eQ
                    have sm78 : Same H7 (upd H8 D (.lst (zs ++ [.ref q']))) := Same.lay2 (L2.Same.trans sm sm8) hD
                    refine ⟨zs, eD8, by rw [PySem.sizeLine_eq]; omega, zs ++ [.ref q'], upd_same, ?_, sm78⟩
                    rw [map_snoc (fun p => (p, b || isRow w')) hdp]
                    have tD : TS H8 (upd H8 D (.lst (zs ++ [.ref q']))) := TS.set eD8
                    refine (hz.mono (Same.refl _) (TS.trans (TS.same sm8) tD)).app (.cons (tD _ _ eQ) (Dp.mono (Kp.of (L2.Same.trans sm46 sm7)) hy) .nil)
                  · rintro H9 ⟨zs, eD, hz, sm⟩
                    rw [lx, List.take_length] at hz
                    walk_at "go"
                    have eL9 := sm _ _ eL7
                    have lz := hz.length
                    rw [List.length_map] at lz
                    have lv := hS'.length
                    have lu : us'.length + 1 ≤ 1 + 100000 * (20 - (r' + 1)) := by
                      have := hlen
                      rw [List.length_append] at this
                      exact this
                    have hb : 100000 * (20 - (r' + 1)) + 100000 ≤ 100000 * (20 - r') := by omega
                    have hb3 : 100000 * (20 - (r' + 1)) ≤ 2000000 := by omega
                    have hb2 : vs'.length + zs.length ≤ 16777216 := by omega
                    refine ⟨L, D, vs', zs, rfl, rfl, eL9, eD, by rw [PySem.sizeLine_eq]; exact hb2, ?_⟩
                    have k10 : Kp L H9 (upd H9 L (.lst (vs' ++ zs))) := Kp.set
                    have t10 := TS.ofKp eL9 k10
                    have s39 : Kp L H3 (upd H9 L (.lst (vs' ++ zs))) := (Kp.of (L2.Same.trans s37 sm)).trans k10
                    refine ⟨r', Nat.lt_succ_self _, vs' ++ zs, us' ++ (rel w' ps).map (fun p => (p, b || isRow w')), t + 1, _, _, _, _, rfl, by omega, by omega, upd_same, ?_, ?_, ?_, (kp.trans k3).trans s39, ?_⟩
                    · exact (hS3.mono s39 (TS.ofKp eL3 s39)).app (hz.mono ((Kp.of sm).trans k10) t10)
                    · intro z hz'
                      rcases List.mem_append.mp hz' with hz' | hz'
                      · exact hNs z (List.mem_append_left _ hz')
                      · obtain ⟨p', hp', rfl⟩ := List.mem_map.mp hz'
                        exact Nat.le_trans (mN_part hp') hNd
                    · rw [List.length_append, List.length_map]; omega
                    · rw [List.reverse_append]; exact hres
          · have hw' : mWF al dd = false := by simpa using hw
            rw [hw']
            refine iteT ?_
            walk_at "go"
            have e : R = false := by rw [← hres, if_pos hw']
            rw [e] at k
            exact k _ hSm4
    · intro σ H Q Q' hq h
      obtain ⟨v, e, b, t, q⟩ := h
      exact ⟨v, e, b, t, hq _ _ q⟩
end

end Cs
namespace Cs
open PySem L2
open PyProof.Rows (envOfC)
/-! data of bounded depth and width, its texts short -/
def BdW (W : Nat) : Nat → PyData → Prop
  | 0, d => match d with
    | .tuple _ => False
    | .list _ => False
    | .str x => x.length ≤ 60
    | _ => True
  | n + 1, d => match d with
    | .tuple ds => ds.length ≤ W ∧ ∀ e ∈ ds, BdW W n e
    | .list ds => ds.length ≤ W ∧ ∀ e ∈ ds, BdW W n e
    | .str x => x.length ≤ 60
    | _ => True
abbrev Bd : Nat → PyData → Prop := BdW 60
theorem Bd.str {n : Nat} {x : Str} (h : Bd n (.str x)) : x.length ≤ 60 := by
  cases n <;> exact h
theorem Bd.tup {n : Nat} {ds : List PyData} (h : Bd n (.tuple ds)) : ∃ m, n = m + 1 ∧ ds.length ≤ 60 ∧ ∀ e ∈ ds, Bd m e := by
  cases n with
  | zero => exact h.elim
  | succ m => exact ⟨m, rfl, h⟩
theorem mF_no {al : List Nat} {d : PyData} (h : ∀ w ps, d ≠ .tuple (.str w :: ps)) : mF al d = false := foldD_no _ _ d h
theorem BdW.mono {W W' : Nat} (hW : W ≤ W') : ∀ {n n' : Nat} {d : PyData}, n ≤ n' → BdW W n d → BdW W' n' d := by
  intro n
  induction n with
  | zero =>
    intro n' d _ h
    cases d with
    | tuple ds => exact h.elim
    | list ds => exact h.elim
    | _ => cases n' <;> exact h
  | succ n ih =>
    intro n' d hn h
    obtain ⟨m, rfl⟩ : ∃ m, n' = m + 1 := ⟨n' - 1, by omega⟩
    cases d with
    | tuple ds => exact ⟨Nat.le_trans h.1 hW, fun e he => ih (by omega) (h.2 e he)⟩
    | list ds => exact ⟨Nat.le_trans h.1 hW, fun e he => ih (by omega) (h.2 e he)⟩
    | _ => exact h

end Cs
namespace Cs
open PySem L2
open PyProof.Rows (envOfC)
/-! values beside the source, bounded -/
def G (K : PySem.W.Frag) (a : Addr) (W n : Nat) (H : Hp) (v : V) : Prop := ∃ d, BdW W n d ∧ DV K a H v d
theorem G.kp {K : PySem.W.Frag} {a : Addr} {W n : Nat} {H H' : Hp} {v : V} (h : G K a W n H v) (k : Kp a H H') : G K a W n H' v := by
  obtain ⟨d, b, e⟩ := h
  exact ⟨d, b, e.kp k⟩
def GA (K : PySem.W.Frag) (a : Addr) (W n : Nat) (H : Hp) (xs : List V) : Prop := ∀ v ∈ xs, G K a W n H v
theorem GA.kp {K : PySem.W.Frag} {a : Addr} {W n : Nat} {H H' : Hp} {xs : List V} (h : GA K a W n H xs) (k : Kp a H H') : GA K a W n H' xs := fun v hv => (h v hv).kp k
theorem GA.nil {K : PySem.W.Frag} {a : Addr} {W n : Nat} {H : Hp} : GA K a W n H [] := fun v hv => by simp at hv
theorem GA.cons {K : PySem.W.Frag} {a : Addr} {W n : Nat} {H : Hp} {v : V} {xs : List V} (g : G K a W n H v) (h : GA K a W n H xs) : GA K a W n H (v :: xs) := fun u hu => by
  rcases List.mem_cons.mp hu with e | e
  · rw [e]; exact g
  · exact h u e
theorem GA.app {K : PySem.W.Frag} {a : Addr} {W n : Nat} {H : Hp} {xs ys : List V} (g : GA K a W n H xs) (h : GA K a W n H ys) : GA K a W n H (xs ++ ys) := fun u hu => by
  rcases List.mem_append.mp hu with e | e
  · exact g u e
  · exact h u e
theorem GA.take {K : PySem.W.Frag} {a : Addr} {W n : Nat} {H : Hp} {xs : List V} (m : Nat) (g : GA K a W n H xs) : GA K a W n H (xs.take m) := fun u hu => g u (List.mem_of_mem_take hu)
theorem GA.drop {K : PySem.W.Frag} {a : Addr} {W n : Nat} {H : Hp} {xs : List V} (m : Nat) (g : GA K a W n H xs) : GA K a W n H (xs.drop m) := fun u hu => g u (List.mem_of_mem_drop hu)
section
variable {K : PySem.W.Frag} {a : Addr} {W n : Nat} {H : Hp}
theorem G.non : G K a W n H .non := ⟨.none, by cases n <;> trivial, .non⟩
theorem G.bl (b : Bool) : G K a W n H (.bl b) := ⟨.bool b, by cases n <;> trivial, .bl b⟩
theorem G.int (b : Int) : G K a W n H (.int b) := ⟨.int b, by cases n <;> trivial, .int b⟩
theorem G.str {b : Str} (h : b.length ≤ 60) : G K a W n H (.str b) := ⟨.str b, by cases n <;> exact h, .str b⟩
theorem GA.dp : ∀ {xs : List V}, GA K a W n H xs → ∃ ds, DpAll K (hid a H) xs ds ∧ ∀ d ∈ ds, BdW W n d
  | [], _ => ⟨[], .nil, by simp⟩
  | x :: xs, h => by
    obtain ⟨d, b, e⟩ := h x (by simp)
    obtain ⟨ds, e2, b2⟩ := GA.dp (xs := xs) fun v hv => h v (by simp [hv])
    refine ⟨d :: ds, .cons e e2, fun c hc => ?_⟩
    rcases List.mem_cons.mp hc with z | z
    · rw [z]; exact b
    · exact b2 c z
theorem G.tup {p : Addr} {xs : List V} (pa : p ≠ a) (e : H p = some (.tup xs)) (h : GA K a W n H xs) (hl : xs.length ≤ W) : G K a W (n + 1) H (.ref p) := by
  obtain ⟨ds, e2, b2⟩ := GA.dp h
  exact ⟨.tuple ds, ⟨by rw [← DpAll.length e2]; exact hl, b2⟩, DV.tup pa e e2⟩
theorem G.lst {p : Addr} {xs : List V} (pa : p ≠ a) (e : H p = some (.lst xs)) (h : GA K a W n H xs) (hl : xs.length ≤ W) : G K a W (n + 1) H (.ref p) := by
  obtain ⟨ds, e2, b2⟩ := GA.dp h
  exact ⟨.list ds, ⟨by rw [← DpAll.length e2]; exact hl, b2⟩, DV.lst pa e e2⟩
end
theorem G.up {K : PySem.W.Frag} {a : Addr} {W n : Nat} {H : Hp} {v : V} (h : G K a W n H v) : G K a W (n + 1) H v := by
  obtain ⟨d, b, e⟩ := h
  exact ⟨d, b.mono (Nat.le_refl _) (Nat.le_succ _), e⟩
theorem GA.up {K : PySem.W.Frag} {a : Addr} {W n : Nat} {H : Hp} {v : List V} (h : GA K a W n H v) : GA K a W (n + 1) H v := fun u hu => (h u hu).up
theorem G.mono {K : PySem.W.Frag} {a : Addr} {W W' n n' : Nat} {H : Hp} {v : V} (h : G K a W n H v) (hW : W ≤ W') (hn : n ≤ n') : G K a W' n' H v := by
  obtain ⟨d, b, e⟩ := h
  exact ⟨d, b.mono hW hn, e⟩
theorem GA.mono {K : PySem.W.Frag} {a : Addr} {W W' n n' : Nat} {H : Hp} {v : List V} (h : GA K a W n H v) (hW : W ≤ W') (hn : n ≤ n') : GA K a W' n' H v := fun u hu => (h u hu).mono hW hn

end Cs
namespace Cs
open PySem L2
open PyProof.Rows (envOfC)
/-! tuples that may be empty: cuts and + -/
theorem op_catAK {X : Cx} {K : PySem.W.Frag} (h : X.K = K) : OpR X (binaryOp .Add) (rCatA K) := by subst h; exact op_catA
abbrev ST (K : PySem.W.Frag) (a : Addr) (H : Hp) (p : Addr) (xs : List V) : Prop := SqT K (hid a H) p xs
section
variable {K : PySem.W.Frag} {a p q : Addr} {m : Nat} {H H' : Hp} {xs ys : List V} {lo hi : Option Int} {Q : VK}
theorem ST.kp (h : ST K a H p xs) (k : Kp a H H') : ST K a H' p xs := Same.seqT k h
theorem ST.at (h : ST K a H p xs) : SqT K H p xs := Same.seqT hid_le h
theorem ST.new (n : p ≠ a) (e : H p = some (.tup xs)) : ST K a H p xs := SqT.of (hid_at n e)
theorem cut_whole (h : HT.sIx xs.length 0 lo = 0 ∧ HT.sIx xs.length xs.length hi = xs.length) : cutV xs lo hi = xs := by
  unfold cutV
  rw [h.1, h.2]
  simp
theorem rd_slaK (hS : Src a m H) (h : ST K a H p xs) (k : ∀ p' H', ST K a H' p' (cutV xs lo hi) → Src a m H' → Kp a H H' → Q (.ref p') H') : rSlA K (.ref p) lo hi H Q :=
  rd_sla h.at (fun z => k p H (by rw [cut_whole z]; exact h) hS Kp.refl) fun _ => rd_newK hS fun p' H' pa _ eP hS' k' => k p' H' (ST.new pa eP) hS' k'
theorem rd_catK (hS : Src a m H) (h1 : ST K a H p xs) (h2 : ST K a H q ys) (hl : xs.length + ys.length ≤ 1000) (k : ∀ p' H', ST K a H' p' (xs ++ ys) → Src a m H' → Kp a H H' → Q (.ref p') H') : rCatA K (.ref p) (.ref q) H Q := by
  refine ⟨p, q, xs, ys, rfl, rfl, h1.at, h2.at, by rw [PySem.sizeLine_eq]; omega, fun z => ?_, fun _ z => ?_, fun _ _ => ?_⟩
  · subst z
    exact k q H h2 hS Kp.refl
  · subst z
    rw [List.append_nil] at k
    exact k p H h1 hS Kp.refl
  · exact rd_newK hS fun p' H' pa _ eP hS' k' => k p' H' (ST.new pa eP) hS' k'
theorem GA.cut {W n : Nat} (g : GA K a W n H xs) : GA K a W n H (cutV xs lo hi) := (g.drop _).take _
theorem cut_to {k : Nat} (h : k ≤ xs.length) : (cutV xs none (some (k : Int))).length ≤ k := by
  unfold cutV
  rw [HT.sIx_none, HT.sIx_nat, List.length_take]
  omega
theorem cut_from {k : Nat} (h : k ≤ xs.length) : (cutV xs (some (k : Int)) none).length ≤ xs.length - k := by
  unfold cutV
  rw [HT.sIx_none, HT.sIx_nat, List.length_take]
  omega
theorem cut_one {k : Nat} (h : k + 1 ≤ xs.length) : (cutV xs (some (k : Int)) (some (((k + 1 : Nat) : Int)))).length ≤ 1 := by
  unfold cutV
  rw [HT.sIx_nat, HT.sIx_nat, List.length_take]
  omega
theorem G.tupS {W n : Nat} (e : ST K a H p xs) (h : GA K a W n H xs) (hl : xs.length ≤ W) : G K a W (n + 1) H (.ref p) := by
  obtain ⟨ds, e2, b2⟩ := GA.dp h
  exact ⟨.tuple ds, ⟨by rw [← DpAll.length e2]; exact hl, b2⟩, L2.Dp.tup e e2⟩
/-- a value beside the source: a tuple of such, or none -/
theorem G.cases {W n : Nat} {v : V} (h : G K a W n H v) : (∃ (p : Addr) (xs : List V) (j : Nat) (ds : List PyData), n = j + 1 ∧ v = .ref p ∧ ST K a H p xs ∧ GA K a W j H xs ∧ xs.length ≤ W ∧ DpAll K (hid a H) xs ds) ∨ ∃ d, DV K a H v d ∧ isTup d = false := by
  obtain ⟨d, b, e⟩ := h
  cases e with
  | @tup p xs ds e hx =>
    refine .inl ?_
    cases n with
    | zero => exact b.elim
    | succ j =>
      refine ⟨p, xs, j, ds, rfl, rfl, e, fun v hv => ?_, by rw [DpAll.length hx]; exact b.1, hx⟩
      obtain ⟨i, hi⟩ := List.getElem?_of_mem hv
      obtain ⟨d, hd, hv⟩ := DpAll.get hx hi
      exact ⟨d, b.2 d (List.mem_of_getElem? hd), hv⟩
  | non => exact .inr ⟨_, .non, rfl⟩
  | bl c => exact .inr ⟨_, .bl c, rfl⟩
  | int c => exact .inr ⟨_, .int c, rfl⟩
  | str c => exact .inr ⟨_, .str c, rfl⟩
  | lst e h => exact .inr ⟨_, L2.Dp.lst e h, rfl⟩
end

end Cs
namespace Cs
open PySem L2
open PyProof.Rows (envOfC)
/-! z[::-1] of a short text: some text that is no longer -/
def tBack (te : TE) : TE := fun σ H Q => te σ H fun x H1 => ∃ z : Str, x = .str z ∧ z.length ≤ 6 ∧ ∀ y : Str, y.length ≤ 6 → Q (.str y) H1
theorem rd_back {te : TE} {σ : St} {H : Hp} {Q : VK} (h : te σ H fun x H1 => ∃ z : Str, x = .str z ∧ z.length ≤ 6 ∧ ∀ y : Str, y.length ≤ 6 → Q (.str y) H1) : tBack te σ H Q := h
theorem back_few : ∀ n : Nat, n ≤ 6 → (Builtin.Str.strSliceIndices none none (-1) n).length ≤ 6 := by decide +kernel
theorem pe_back {X : Cx} {e : Expr} {te : TE} {k : Nat} {p1 p2 p3 pos : Pos} (he : PE X e te) : PE X (.Subscript e (.Slice none none (some (.UnaryOp .USub (.Constant (.int 1) k p1) p2)) p3) pos) (tBack te) := by
  have minus : PO X (some (.UnaryOp .USub (.Constant (.int 1) k p1) p2)) (tPart (tUn (rU fun i => .int (-i)) (tC (.int 1)))) := po_some (pe_un un_neg pe_int)
  constructor
  intro pins s σ H Q I h
  apply PyProof.Rows.Subscript_
  apply thn (he.run pins s σ H _ I h)
  rintro v s1 ⟨x, H1, I1, r1, z, rfl, hz, q⟩
  obtain ⟨t, rfl⟩ := r1
  apply wpAny_Slice
  apply thn (po_none.run pins s1 σ H1 (fun o H2 => o = none ∧ H2 = H1) I1 ⟨rfl, rfl⟩)
  rintro vl s2 ⟨_, _, I2, pl, rfl, rfl⟩
  apply thn (po_none.run pins s2 σ _ (fun o H3 => o = none ∧ H3 = _) I2 ⟨rfl, rfl⟩)
  rintro vu s3 ⟨_, _, I3, pu, rfl, rfl⟩
  apply thn (minus.run pins s3 σ _ (fun o H4 => o = some (-1) ∧ H4 = _) I3 ⟨1, rfl, -1, rfl, rfl, rfl⟩)
  rintro vs s4 ⟨_, _, I4, ps, rfl, rfl⟩
  obtain ⟨l, rfl, el⟩ := IsPart.raw pl
  obtain ⟨u, rfl, eu⟩ := IsPart.raw pu
  obtain ⟨st, rfl, es⟩ := IsPart.raw ps
  have hstr : (Value.str z t) = .str z t := rfl
  refine PyProof.Rows.tail_any (ops := [.str z t, .ref s4.heap.objs.size]) (typeIs_str _ _ _) F.slot_str_getitem.lookup ?_ (by with_unfolding_all rfl)
  refine wpAny_getItem_str_slice (l := l) (u := u) (st := st) (Heap.IsSliceOf.new _ _ _ _) (by rw [es]; rfl) ?_
  have I5 : L2.Inv X pins σ _ { s4 with heap := s4.heap.push { cls := Value.type "slice", data := Data.fields #[partValue l, partValue u, partValue st] } } := I4.kept (t' := s4.toks) fun b ob q => Heap.get?_push_of_some _ q
  have ep : slicePicked z l u st = Builtin.Str.strSliceIndices none none (-1) z.length := by
    unfold slicePicked
    rw [el, eu, es]; rfl
  unfold sliceMade
  rw [es, ep]
  have few := back_few z.length hz
  have six : (⟨((Builtin.Str.strSliceIndices none none (-1) z.length).filterMap (z.cps[·]?)).toArray⟩ : Str).length ≤ 6 := by
    show (((Builtin.Str.strSliceIndices none none (-1) z.length).filterMap (z.cps[·]?)).toArray).size ≤ 6
    rw [List.size_toArray]
    exact Nat.le_trans (List.length_filterMap_le _ _) few
  have no : ¬ ((((some (-1 : Int)).getD 1 == 1) && (Builtin.Str.strSliceIndices none none (-1) z.length).length == z.length) = true) := by
    have : ((some (-1 : Int)).getD 1 == 1) = false := by decide
    rw [this]; simp
  rw [if_neg no]
  exact ⟨by rw [PySem.sizeLine_eq]; omega, .str _, _, I5.tok _, ⟨_, rfl⟩, q _ six⟩

end Cs
namespace Cs
open PySem L2
open PyProof.Rows (envOfC)
theorem rd_cat {a b : Addr} {xs ys : List V} {H : Hp} {Q : VK} (h1 : H a = some (.lst xs)) (h2 : H b = some (.lst ys)) (h3 : xs.length + ys.length ≤ sizeLine) (k : New H (.lst (xs ++ ys)) fun p H2 => Q (.ref p) H2) : rCat (.ref a) (.ref b) H Q := ⟨a, b, xs, ys, rfl, rfl, h1, h2, h3, k⟩
theorem rd_ixl_any {K : PySem.W.Frag} {p : Addr} {xs : List V} {i : Int} {H : Hp} {Q : VK} (e : H p = some (.lst xs)) (h0 : 0 ≤ i) (h1 : i < xs.length) (k : ∀ v ∈ xs, Q v H) : rIxL K (.ref p) (.int i) H Q := by
  obtain ⟨v, hv, hm⟩ := at_mem h0 h1
  exact rd_ixl (SqL.of e) hv (k v hm)
def sp_other (K : PySem.W.Frag) : Sp := fun vs H Q _ => ∃ (a : Addr) (al : List Nat) (n : Nat), vs = [.ref a, .str (S al)] ∧ Alp al ∧ Src a (n + 1) H ∧ ∀ (v : V) (d : PyData) (H' : Hp), BdW 10 3 d → DV K a H' v d → Src a n H' → Kp a H H' → Q v H'
theorem use_other {K : PySem.W.Frag} {a : Addr} {al : List Nat} {n : Nat} {H : Hp} {Q : VK} {E : XK} (hA : Alp al) (hS : Src a (n + 1) H) (k : ∀ (v : V) (d : PyData) (H' : Hp), BdW 10 3 d → DV K a H' v d → Src a n H' → Kp a H H' → Q v H') : sp_other K [.ref a, .str (S al)] H Q E := ⟨a, al, n, rfl, hA, hS, k⟩
section
variable {P : Program} {w : World} {K : PySem.W.Frag} {mg : Str → Option Value} {base : Heap}
theorem ok_other (G__law_draw : Cal P w K mg base 1 "_law_draw" ["_law_source_here", "_law_many"] sp_draw) (F : At K mg "_law_other" s__law_other ["_law_source_here", "_law_alphabet_here"]) : Cal P w K mg base 2 "_law_other" ["_law_source_here", "_law_alphabet_here"] (sp_other K) := by
  refine F.ok sc__law_other (fun vs H Q E h => ?_) (fun f cdv A outer s H vs Q E hr h => ?_)
  · obtain ⟨a, al, n, rfl, _⟩ := h
    rfl
  · obtain ⟨a, al, n, rfl, hA, hS, k⟩ := h
    have lal : (S al).length ≤ 60 := by rw [S_len]; have := hA.hi; omega
    have laa : (S al ++ S al).length ≤ 60 := by
      have e : (S al ++ S al).length = (S al).length + (S al).length := by
        show ((S al).cps ++ (S al).cps).size = _
        rw [Array.size_append]; rfl
      rw [e, S_len]; have := hA.hi; omega
    have hi := hA.hi
    refine ⟨_, (pss_cons (ps_set (i := 2) sc__law_other.nd rfl (Or.inl rfl) (pe_lst (pa_cons pe_non (pa_cons pe_bl (pa_cons pe_int (pa_cons pe_int (pa_cons pe_str (pa_cons pe_str (pa_cons pe_str (pa_cons (pe_tup pa_nil) (pa_cons (pe_lst pa_nil) (pa_cons (pe_tup (pa_cons pe_str pa_nil)) (pa_cons (pe_tup (pa_cons pe_str (pa_cons pe_int pa_nil))) (pa_cons (pe_tup (pa_cons pe_str (pa_cons pe_str pa_nil))) (pa_cons (pe_lst (pa_cons pe_str (pa_cons pe_str pa_nil))) (pa_cons (pe_tup (pa_cons pe_str (pa_cons pe_str pa_nil))) pa_nil))))))))))))))))
    (pss_cons (ps_set (i := 2) sc__law_other.nd rfl (Or.inl rfl) (pe_op op_cat (pv 2) (pe_lst (pa_cons (pe_tup (pa_cons pe_str (pa_cons (pv 1) pa_nil))) (pa_cons (pe_tup (pa_cons pe_str (pa_cons (pe_back (pv 1)) pa_nil))) (pa_cons (pe_tup (pa_cons pe_str (pa_cons (pe_op op_add_str (pv 1) (pv 1)) pa_nil))) (pa_cons (pe_tup (pa_cons pe_str (pa_cons (pe_lst (pa_cons pe_str pa_nil)) pa_nil))) (pa_cons (pe_tup (pa_cons pe_str pa_nil)) pa_nil))))))))
    (pss_cons (ps_set (i := 2) sc__law_other.nd rfl (Or.inl rfl) (pe_op op_cat (pv 2) (pe_lst (pa_cons (pe_tup (pa_cons pe_str (pa_cons (pe_tup (pa_cons pe_str (pa_cons pe_str pa_nil))) (pa_cons pe_int pa_nil)))) (pa_cons (pe_tup (pa_cons pe_str (pa_cons (pe_tup (pa_cons pe_str pa_nil)) (pa_cons (pe_tup (pa_cons pe_str pa_nil)) pa_nil)))) (pa_cons (pe_tup (pa_cons pe_str pa_nil)) (pa_cons (pe_tup (pa_cons (pe_tup (pa_cons pe_str (pa_cons pe_str pa_nil))) pa_nil)) (pa_cons (pe_tup (pa_cons pe_str (pa_cons pe_non pa_nil))) pa_nil))))))))
    (pss_one (ps_ret (pe_ix (ix_listK (K := K) (by rfl)) (pv 2) (pe_c G__law_draw (hr.mono (by first | decide | omega)) (pa_cons (pv 0) (pa_cons pe_int pa_nil))) (fun _ _ => rfl))))))), ?_⟩
    walk_at "go"
    have kk0 : Kp a H H := Kp.refl
    have hS0 := hS
    have A0 : GA K a 10 3 H [] := .nil
    refine ⟨by show 0 ≤ sizeLine; decide, rd_newK hS0 fun p1 H1 pa1 hp1 eP1 hS1 k1 => ?_⟩
    have B1 : GA K a 10 3 H1 [] := A0.kp k1
    have g1 : G K a 10 3 H1 (.ref p1) := G.tup pa1 eP1 .nil (by show 0 ≤ 10; decide)
    have A1 : GA K a 10 3 H1 [.ref p1] := .cons g1 B1
    have kk1 := kk0.trans k1
    walk_at "go"
    refine ⟨by show 0 ≤ sizeLine; decide, rd_newK hS1 fun p2 H2 pa2 hp2 eP2 hS2 k2 => ?_⟩
    have B2 : GA K a 10 3 H2 [.ref p1] := A1.kp k2
    have g2 : G K a 10 3 H2 (.ref p2) := G.lst pa2 eP2 .nil (by show 0 ≤ 10; decide)
    have A2 : GA K a 10 3 H2 [.ref p2, .ref p1] := .cons g2 B2
    have kk2 := kk1.trans k2
    walk_at "go"
    refine ⟨by show 1 ≤ sizeLine; decide, rd_newK hS2 fun p3 H3 pa3 hp3 eP3 hS3 k3 => ?_⟩
    have B3 : GA K a 10 3 H3 [.ref p2, .ref p1] := A2.kp k3
    have g3 : G K a 10 3 H3 (.ref p3) := G.tup pa3 eP3 (.cons (.str (by decide)) .nil) (by show 1 ≤ 10; decide)
    have A3 : GA K a 10 3 H3 [.ref p3, .ref p2, .ref p1] := .cons g3 B3
    have kk3 := kk2.trans k3
    walk_at "go"
    refine ⟨by show 2 ≤ sizeLine; decide, rd_newK hS3 fun p4 H4 pa4 hp4 eP4 hS4 k4 => ?_⟩
    have B4 : GA K a 10 3 H4 [.ref p3, .ref p2, .ref p1] := A3.kp k4
    have g4 : G K a 10 3 H4 (.ref p4) := G.tup pa4 eP4 (.cons (.str (by decide)) (.cons (.int _) .nil)) (by show 2 ≤ 10; decide)
    have A4 : GA K a 10 3 H4 [.ref p4, .ref p3, .ref p2, .ref p1] := .cons g4 B4
    have kk4 := kk3.trans k4
    walk_at "go"
    refine ⟨by show 2 ≤ sizeLine; decide, rd_newK hS4 fun p5 H5 pa5 hp5 eP5 hS5 k5 => ?_⟩
    have B5 : GA K a 10 3 H5 [.ref p4, .ref p3, .ref p2, .ref p1] := A4.kp k5
    have g5 : G K a 10 3 H5 (.ref p5) := G.tup pa5 eP5 (.cons (.str (by decide)) (.cons (.str (by decide)) .nil)) (by show 2 ≤ 10; decide)
    have A5 : GA K a 10 3 H5 [.ref p5, .ref p4, .ref p3, .ref p2, .ref p1] := .cons g5 B5
    have kk5 := kk4.trans k5
    walk_at "go"
    refine ⟨by show 2 ≤ sizeLine; decide, rd_newK hS5 fun p6 H6 pa6 hp6 eP6 hS6 k6 => ?_⟩
    have B6 : GA K a 10 3 H6 [.ref p5, .ref p4, .ref p3, .ref p2, .ref p1] := A5.kp k6
    have g6 : G K a 10 3 H6 (.ref p6) := G.lst pa6 eP6 (.cons (.str (by decide)) (.cons (.str (by decide)) .nil)) (by show 2 ≤ 10; decide)
    have A6 : GA K a 10 3 H6 [.ref p6, .ref p5, .ref p4, .ref p3, .ref p2, .ref p1] := .cons g6 B6
    have kk6 := kk5.trans k6
    walk_at "go"
    refine ⟨by show 2 ≤ sizeLine; decide, rd_newK hS6 fun p7 H7 pa7 hp7 eP7 hS7 k7 => ?_⟩
    have B7 : GA K a 10 3 H7 [.ref p6, .ref p5, .ref p4, .ref p3, .ref p2, .ref p1] := A6.kp k7
    have g7 : G K a 10 3 H7 (.ref p7) := G.tup pa7 eP7 (.cons (.str (by decide)) (.cons (.str (by decide)) .nil)) (by show 2 ≤ 10; decide)
    have A7 : GA K a 10 3 H7 [.ref p7, .ref p6, .ref p5, .ref p4, .ref p3, .ref p2, .ref p1] := .cons g7 B7
    have kk7 := kk6.trans k7
    walk_at "go"
    refine ⟨by show 14 ≤ sizeLine; decide, rd_newK hS7 fun p8 H8 pa8 hp8 eP8 hS8 k8 => ?_⟩
    have B8 : GA K a 10 3 H8 [.ref p7, .ref p6, .ref p5, .ref p4, .ref p3, .ref p2, .ref p1] := A7.kp k8
    have A8 := B8
    have kk8 := kk7.trans k8
    walk_at "go"
    refine ⟨by show 2 ≤ sizeLine; decide, rd_newK hS8 fun p9 H9 pa9 hp9 eP9 hS9 k9 => ?_⟩
    have B9 : GA K a 10 3 H9 [.ref p7, .ref p6, .ref p5, .ref p4, .ref p3, .ref p2, .ref p1] := A8.kp k9
    have g9 : G K a 10 3 H9 (.ref p9) := G.tup pa9 eP9 (.cons (.str (by decide)) (.cons (.str lal) .nil)) (by show 2 ≤ 10; decide)
    have A9 : GA K a 10 3 H9 [.ref p9, .ref p7, .ref p6, .ref p5, .ref p4, .ref p3, .ref p2, .ref p1] := .cons g9 B9
    have kk9 := kk8.trans k9
    have ep8_9 := k9.at pa8 eP8
    walk_at "go"
    refine rd_back ?_
    walk_at "go"
    refine ⟨by rw [S_len]; exact hA.hi, fun y hy => ?_⟩
    walk_at "go"
    refine ⟨by show 2 ≤ sizeLine; decide, rd_newK hS9 fun p10 H10 pa10 hp10 eP10 hS10 k10 => ?_⟩
    have B10 : GA K a 10 3 H10 [.ref p9, .ref p7, .ref p6, .ref p5, .ref p4, .ref p3, .ref p2, .ref p1] := A9.kp k10
    have g10 : G K a 10 3 H10 (.ref p10) := G.tup pa10 eP10 (.cons (.str (by decide)) (.cons (.str (Nat.le_trans hy (by decide))) .nil)) (by show 2 ≤ 10; decide)
    have A10 : GA K a 10 3 H10 [.ref p10, .ref p9, .ref p7, .ref p6, .ref p5, .ref p4, .ref p3, .ref p2, .ref p1] := .cons g10 B10
    have kk10 := kk9.trans k10
    have ep8_10 := k10.at pa8 ep8_9
    walk_at "go"
    refine ⟨S al, S al, rfl, rfl, by rw [S_len, PySem.sizeLine_eq]; omega, ?_⟩
    walk_at "go"
    refine ⟨by show 2 ≤ sizeLine; decide, rd_newK hS10 fun p11 H11 pa11 hp11 eP11 hS11 k11 => ?_⟩
    have B11 : GA K a 10 3 H11 [.ref p10, .ref p9, .ref p7, .ref p6, .ref p5, .ref p4, .ref p3, .ref p2, .ref p1] := A10.kp k11
    have g11 : G K a 10 3 H11 (.ref p11) := G.tup pa11 eP11 (.cons (.str (by decide)) (.cons (.str laa) .nil)) (by show 2 ≤ 10; decide)
    have A11 : GA K a 10 3 H11 [.ref p11, .ref p10, .ref p9, .ref p7, .ref p6, .ref p5, .ref p4, .ref p3, .ref p2, .ref p1] := .cons g11 B11
    have kk11 := kk10.trans k11
    have ep8_11 := k11.at pa8 ep8_10
    walk_at "go"
    refine ⟨by show 1 ≤ sizeLine; decide, rd_newK hS11 fun p12 H12 pa12 hp12 eP12 hS12 k12 => ?_⟩
    have B12 : GA K a 10 3 H12 [.ref p11, .ref p10, .ref p9, .ref p7, .ref p6, .ref p5, .ref p4, .ref p3, .ref p2, .ref p1] := A11.kp k12
    have g12 : G K a 10 2 H12 (.ref p12) := G.lst pa12 eP12 (.cons (.str (by decide)) .nil) (by show 1 ≤ 10; decide)
    have A12 : GA K a 10 3 H12 [.ref p12, .ref p11, .ref p10, .ref p9, .ref p7, .ref p6, .ref p5, .ref p4, .ref p3, .ref p2, .ref p1] := .cons (g12).up B12
    have kk12 := kk11.trans k12
    have ep8_12 := k12.at pa8 ep8_11
    walk_at "go"
    refine ⟨by show 2 ≤ sizeLine; decide, rd_newK hS12 fun p13 H13 pa13 hp13 eP13 hS13 k13 => ?_⟩
    have B13 : GA K a 10 3 H13 [.ref p12, .ref p11, .ref p10, .ref p9, .ref p7, .ref p6, .ref p5, .ref p4, .ref p3, .ref p2, .ref p1] := A12.kp k13
    have g13 : G K a 10 3 H13 (.ref p13) := G.tup pa13 eP13 (.cons (.str (by decide)) (.cons (g12.kp k13) .nil)) (by show 2 ≤ 10; decide)
    have A13 : GA K a 10 3 H13 [.ref p13, .ref p12, .ref p11, .ref p10, .ref p9, .ref p7, .ref p6, .ref p5, .ref p4, .ref p3, .ref p2, .ref p1] := .cons g13 B13
    have kk13 := kk12.trans k13
    have ep8_13 := k13.at pa8 ep8_12
    have qp12_13 := g12.kp k13
    walk_at "go"
    refine ⟨by show 1 ≤ sizeLine; decide, rd_newK hS13 fun p14 H14 pa14 hp14 eP14 hS14 k14 => ?_⟩
    have B14 : GA K a 10 3 H14 [.ref p13, .ref p12, .ref p11, .ref p10, .ref p9, .ref p7, .ref p6, .ref p5, .ref p4, .ref p3, .ref p2, .ref p1] := A13.kp k14
    have g14 : G K a 10 3 H14 (.ref p14) := G.tup pa14 eP14 (.cons (.str (by decide)) .nil) (by show 1 ≤ 10; decide)
    have A14 : GA K a 10 3 H14 [.ref p14, .ref p13, .ref p12, .ref p11, .ref p10, .ref p9, .ref p7, .ref p6, .ref p5, .ref p4, .ref p3, .ref p2, .ref p1] := .cons g14 B14
    have kk14 := kk13.trans k14
    have ep8_14 := k14.at pa8 ep8_13
    walk_at "go"
    refine ⟨by show 5 ≤ sizeLine; decide, rd_newK hS14 fun p15 H15 pa15 hp15 eP15 hS15 k15 => ?_⟩
    have B15 : GA K a 10 3 H15 [.ref p14, .ref p13, .ref p12, .ref p11, .ref p10, .ref p9, .ref p7, .ref p6, .ref p5, .ref p4, .ref p3, .ref p2, .ref p1] := A14.kp k15
    have A15 := B15
    have kk15 := kk14.trans k15
    have ep8_15 := k15.at pa8 ep8_14
    walk_at "go"
    refine rd_cat ep8_15 eP15 (by show 19 ≤ sizeLine; decide) (rd_newK hS15 fun p16 H16 pa16 hp16 eP16 hS16 k16 => ?_)
    have B16 : GA K a 10 3 H16 [.ref p14, .ref p13, .ref p12, .ref p11, .ref p10, .ref p9, .ref p7, .ref p6, .ref p5, .ref p4, .ref p3, .ref p2, .ref p1] := A15.kp k16
    have A16 := B16
    have kk16 := kk15.trans k16
    walk_at "go"
    refine ⟨by show 2 ≤ sizeLine; decide, rd_newK hS16 fun p17 H17 pa17 hp17 eP17 hS17 k17 => ?_⟩
    have B17 : GA K a 10 3 H17 [.ref p14, .ref p13, .ref p12, .ref p11, .ref p10, .ref p9, .ref p7, .ref p6, .ref p5, .ref p4, .ref p3, .ref p2, .ref p1] := A16.kp k17
    have g17 : G K a 10 2 H17 (.ref p17) := G.tup pa17 eP17 (.cons (.str (by decide)) (.cons (.str (by decide)) .nil)) (by show 2 ≤ 10; decide)
    have A17 : GA K a 10 3 H17 [.ref p17, .ref p14, .ref p13, .ref p12, .ref p11, .ref p10, .ref p9, .ref p7, .ref p6, .ref p5, .ref p4, .ref p3, .ref p2, .ref p1] := .cons (g17).up B17
    have kk17 := kk16.trans k17
    have ep16_17 := k17.at pa16 eP16
    walk_at "go"
    refine ⟨by show 3 ≤ sizeLine; decide, rd_newK hS17 fun p18 H18 pa18 hp18 eP18 hS18 k18 => ?_⟩
    have B18 : GA K a 10 3 H18 [.ref p17, .ref p14, .ref p13, .ref p12, .ref p11, .ref p10, .ref p9, .ref p7, .ref p6, .ref p5, .ref p4, .ref p3, .ref p2, .ref p1] := A17.kp k18
    have g18 : G K a 10 3 H18 (.ref p18) := G.tup pa18 eP18 (.cons (.str (by decide)) (.cons (g17.kp k18) (.cons (.int _) .nil))) (by show 3 ≤ 10; decide)
    have A18 : GA K a 10 3 H18 [.ref p18, .ref p17, .ref p14, .ref p13, .ref p12, .ref p11, .ref p10, .ref p9, .ref p7, .ref p6, .ref p5, .ref p4, .ref p3, .ref p2, .ref p1] := .cons g18 B18
    have kk18 := kk17.trans k18
    have ep16_18 := k18.at pa16 ep16_17
    have qp17_18 := g17.kp k18
    walk_at "go"
    refine ⟨by show 1 ≤ sizeLine; decide, rd_newK hS18 fun p19 H19 pa19 hp19 eP19 hS19 k19 => ?_⟩
    have B19 : GA K a 10 3 H19 [.ref p18, .ref p17, .ref p14, .ref p13, .ref p12, .ref p11, .ref p10, .ref p9, .ref p7, .ref p6, .ref p5, .ref p4, .ref p3, .ref p2, .ref p1] := A18.kp k19
    have g19 : G K a 10 2 H19 (.ref p19) := G.tup pa19 eP19 (.cons (.str (by decide)) .nil) (by show 1 ≤ 10; decide)
    have A19 : GA K a 10 3 H19 [.ref p19, .ref p18, .ref p17, .ref p14, .ref p13, .ref p12, .ref p11, .ref p10, .ref p9, .ref p7, .ref p6, .ref p5, .ref p4, .ref p3, .ref p2, .ref p1] := .cons (g19).up B19
    have kk19 := kk18.trans k19
    have ep16_19 := k19.at pa16 ep16_18
    walk_at "go"
    refine ⟨by show 1 ≤ sizeLine; decide, rd_newK hS19 fun p20 H20 pa20 hp20 eP20 hS20 k20 => ?_⟩
    have B20 : GA K a 10 3 H20 [.ref p19, .ref p18, .ref p17, .ref p14, .ref p13, .ref p12, .ref p11, .ref p10, .ref p9, .ref p7, .ref p6, .ref p5, .ref p4, .ref p3, .ref p2, .ref p1] := A19.kp k20
    have g20 : G K a 10 2 H20 (.ref p20) := G.tup pa20 eP20 (.cons (.str (by decide)) .nil) (by show 1 ≤ 10; decide)
    have A20 : GA K a 10 3 H20 [.ref p20, .ref p19, .ref p18, .ref p17, .ref p14, .ref p13, .ref p12, .ref p11, .ref p10, .ref p9, .ref p7, .ref p6, .ref p5, .ref p4, .ref p3, .ref p2, .ref p1] := .cons (g20).up B20
    have kk20 := kk19.trans k20
    have ep16_20 := k20.at pa16 ep16_19
    have qp19_20 := g19.kp k20
    walk_at "go"
    refine ⟨by show 3 ≤ sizeLine; decide, rd_newK hS20 fun p21 H21 pa21 hp21 eP21 hS21 k21 => ?_⟩
    have B21 : GA K a 10 3 H21 [.ref p20, .ref p19, .ref p18, .ref p17, .ref p14, .ref p13, .ref p12, .ref p11, .ref p10, .ref p9, .ref p7, .ref p6, .ref p5, .ref p4, .ref p3, .ref p2, .ref p1] := A20.kp k21
    have g21 : G K a 10 3 H21 (.ref p21) := G.tup pa21 eP21 (.cons (.str (by decide)) (.cons (qp19_20.kp k21) (.cons (g20.kp k21) .nil))) (by show 3 ≤ 10; decide)
    have A21 : GA K a 10 3 H21 [.ref p21, .ref p20, .ref p19, .ref p18, .ref p17, .ref p14, .ref p13, .ref p12, .ref p11, .ref p10, .ref p9, .ref p7, .ref p6, .ref p5, .ref p4, .ref p3, .ref p2, .ref p1] := .cons g21 B21
    have kk21 := kk20.trans k21
    have ep16_21 := k21.at pa16 ep16_20
    have qp19_21 := qp19_20.kp k21
    have qp20_21 := g20.kp k21
    walk_at "go"
    refine ⟨by show 1 ≤ sizeLine; decide, rd_newK hS21 fun p22 H22 pa22 hp22 eP22 hS22 k22 => ?_⟩
    have B22 : GA K a 10 3 H22 [.ref p21, .ref p20, .ref p19, .ref p18, .ref p17, .ref p14, .ref p13, .ref p12, .ref p11, .ref p10, .ref p9, .ref p7, .ref p6, .ref p5, .ref p4, .ref p3, .ref p2, .ref p1] := A21.kp k22
    have g22 : G K a 10 3 H22 (.ref p22) := G.tup pa22 eP22 (.cons (.str (by decide)) .nil) (by show 1 ≤ 10; decide)
    have A22 : GA K a 10 3 H22 [.ref p22, .ref p21, .ref p20, .ref p19, .ref p18, .ref p17, .ref p14, .ref p13, .ref p12, .ref p11, .ref p10, .ref p9, .ref p7, .ref p6, .ref p5, .ref p4, .ref p3, .ref p2, .ref p1] := .cons g22 B22
    have kk22 := kk21.trans k22
    have ep16_22 := k22.at pa16 ep16_21
    walk_at "go"
    refine ⟨by show 2 ≤ sizeLine; decide, rd_newK hS22 fun p23 H23 pa23 hp23 eP23 hS23 k23 => ?_⟩
    have B23 : GA K a 10 3 H23 [.ref p22, .ref p21, .ref p20, .ref p19, .ref p18, .ref p17, .ref p14, .ref p13, .ref p12, .ref p11, .ref p10, .ref p9, .ref p7, .ref p6, .ref p5, .ref p4, .ref p3, .ref p2, .ref p1] := A22.kp k23
    have g23 : G K a 10 2 H23 (.ref p23) := G.tup pa23 eP23 (.cons (.str (by decide)) (.cons (.str (by decide)) .nil)) (by show 2 ≤ 10; decide)
    have A23 : GA K a 10 3 H23 [.ref p23, .ref p22, .ref p21, .ref p20, .ref p19, .ref p18, .ref p17, .ref p14, .ref p13, .ref p12, .ref p11, .ref p10, .ref p9, .ref p7, .ref p6, .ref p5, .ref p4, .ref p3, .ref p2, .ref p1] := .cons (g23).up B23
    have kk23 := kk22.trans k23
    have ep16_23 := k23.at pa16 ep16_22
    walk_at "go"
    refine ⟨by show 1 ≤ sizeLine; decide, rd_newK hS23 fun p24 H24 pa24 hp24 eP24 hS24 k24 => ?_⟩
    have B24 : GA K a 10 3 H24 [.ref p23, .ref p22, .ref p21, .ref p20, .ref p19, .ref p18, .ref p17, .ref p14, .ref p13, .ref p12, .ref p11, .ref p10, .ref p9, .ref p7, .ref p6, .ref p5, .ref p4, .ref p3, .ref p2, .ref p1] := A23.kp k24
    have g24 : G K a 10 3 H24 (.ref p24) := G.tup pa24 eP24 (.cons (g23.kp k24) .nil) (by show 1 ≤ 10; decide)
    have A24 : GA K a 10 3 H24 [.ref p24, .ref p23, .ref p22, .ref p21, .ref p20, .ref p19, .ref p18, .ref p17, .ref p14, .ref p13, .ref p12, .ref p11, .ref p10, .ref p9, .ref p7, .ref p6, .ref p5, .ref p4, .ref p3, .ref p2, .ref p1] := .cons g24 B24
    have kk24 := kk23.trans k24
    have ep16_24 := k24.at pa16 ep16_23
    have qp23_24 := g23.kp k24
    walk_at "go"
    refine ⟨by show 2 ≤ sizeLine; decide, rd_newK hS24 fun p25 H25 pa25 hp25 eP25 hS25 k25 => ?_⟩
    have B25 : GA K a 10 3 H25 [.ref p24, .ref p23, .ref p22, .ref p21, .ref p20, .ref p19, .ref p18, .ref p17, .ref p14, .ref p13, .ref p12, .ref p11, .ref p10, .ref p9, .ref p7, .ref p6, .ref p5, .ref p4, .ref p3, .ref p2, .ref p1] := A24.kp k25
    have g25 : G K a 10 3 H25 (.ref p25) := G.tup pa25 eP25 (.cons (.str (by decide)) (.cons .non .nil)) (by show 2 ≤ 10; decide)
    have A25 : GA K a 10 3 H25 [.ref p25, .ref p24, .ref p23, .ref p22, .ref p21, .ref p20, .ref p19, .ref p18, .ref p17, .ref p14, .ref p13, .ref p12, .ref p11, .ref p10, .ref p9, .ref p7, .ref p6, .ref p5, .ref p4, .ref p3, .ref p2, .ref p1] := .cons g25 B25
    have kk25 := kk24.trans k25
    have ep16_25 := k25.at pa16 ep16_24
    walk_at "go"
    refine ⟨by show 5 ≤ sizeLine; decide, rd_newK hS25 fun p26 H26 pa26 hp26 eP26 hS26 k26 => ?_⟩
    have B26 : GA K a 10 3 H26 [.ref p25, .ref p24, .ref p23, .ref p22, .ref p21, .ref p20, .ref p19, .ref p18, .ref p17, .ref p14, .ref p13, .ref p12, .ref p11, .ref p10, .ref p9, .ref p7, .ref p6, .ref p5, .ref p4, .ref p3, .ref p2, .ref p1] := A25.kp k26
    have A26 := B26
    have kk26 := kk25.trans k26
    have ep16_26 := k26.at pa16 ep16_25
    walk_at "go"
    refine rd_cat ep16_26 eP26 (by show 24 ≤ sizeLine; decide) (rd_newK hS26 fun p27 H27 pa27 hp27 eP27 hS27 k27 => ?_)
    have B27 : GA K a 10 3 H27 [.ref p25, .ref p24, .ref p23, .ref p22, .ref p21, .ref p20, .ref p19, .ref p18, .ref p17, .ref p14, .ref p13, .ref p12, .ref p11, .ref p10, .ref p9, .ref p7, .ref p6, .ref p5, .ref p4, .ref p3, .ref p2, .ref p1] := A26.kp k27
    have A27 := B27
    have kk27 := kk26.trans k27
    walk_at "go"
    refine use_draw (n := n) hS27 (by decide) (by decide) fun z H9 z0 z1 hS9 k9 => ?_
    walk_at "go"
    refine rd_ixl_any (k9.at pa27 eP27) z0 (by exact z1) fun v hm => ?_
    have big := A27.kp k9
    have g : G K a 10 3 H9 v := by
      simp only [List.cons_append, List.nil_append, List.mem_cons, List.not_mem_nil, or_false] at hm
      rcases hm with rfl | rfl | rfl | rfl | rfl | rfl | rfl | rfl | rfl | rfl | rfl | rfl | rfl | rfl | rfl | rfl | rfl | rfl | rfl | rfl | rfl | rfl | rfl | rfl
      all_goals first | exact G.non | exact G.bl _ | exact G.int _ | exact G.str (by decide) | exact big _ (by simp)
    obtain ⟨d, bd, dv⟩ := g
    exact k v d H9 bd dv hS9 (kk27.trans k9)
end

end Cs
namespace Cs
open PySem L2
open PyProof.Rows (envOfC)
/-! lists of ints as data -/
theorem dpInts {K : PySem.W.Frag} {H : Hp} {p : Addr} {ns : List Int} (e : H p = some (.lst (ns.map V.int))) : Dp K H (.ref p) (.list (ns.map PyData.int)) := by
  refine .lst (SqL.of e) ?_
  clear e
  induction ns with
  | nil => exact .nil
  | cons a l ih => exact .cons (.int a) ih
theorem eqvInts : ∀ l m : List Int, (PyData.list (l.map PyData.int)).eqv (.list (m.map .int)) = decide (l = m)
  | [], [] => by simp [PyData.eqv, PyData.eqvAll]
  | [], b :: m => by simp [PyData.eqv, PyData.eqvAll]
  | a :: l, [] => by simp [PyData.eqv, PyData.eqvAll]
  | a :: l, b :: m => by
    have ih := eqvInts l m
    simp only [PyData.eqv] at ih
    simp only [List.map_cons, PyData.eqv, PyData.eqvAll, ih]
    by_cases h : a = b <;> simp [h]
theorem inInts (a : Int) (l : List Int) : inV (.int a) (l.map V.int) = decide (a ∈ l) := by
  unfold inV
  rw [List.any_map]
  induction l with
  | nil => rfl
  | cons b l ih =>
    rw [List.any_cons, ih]
    have e : (((fun y => eqV y (V.int a)) ∘ V.int) b) = decide (a = b) := by
      show (b == a) = _
      by_cases h : a = b
      · subst h; simp
      · rw [decide_eq_false h]; exact beq_eq_false_iff_ne.mpr (Ne.symm h)
    rw [e]
    by_cases h : a = b <;> simp [h]
/-- a statement by itself, with what is known behind it -/
theorem rd_cutR {t : L2.TS} {D : Ends} {σ : St} {H : Hp} (C : St → Hp → Prop) (rest : ∀ σ H, C σ H → D.nx σ H) (h : ∀ nx' : St → Hp → Prop, (∀ σ H, C σ H → nx' σ H) → t { D with nx := nx' } σ H) : t D σ H := h D.nx rest

end Cs
namespace Cs
open PySem L2
open PyProof.Rows (envOfC)
def sp_changed (K : PySem.W.Frag) (N : Nat) : Sp := fun vs H Q _ => ∃ (a : Addr) (al : List Nat) (W m n : Nat) (v : V), vs = [.ref a, .str (S al), v] ∧ n ≤ N ∧ Alp al ∧ 10 ≤ W ∧ W ≤ 50 ∧ G K a W n H v ∧ Src a (m + 6 * (n + 1)) H ∧
  ∀ (v' : V) (H' : Hp), G K a (W + 1) (n + 4) H' v' → Src a m H' → Kp a H H' → Q v' H'
theorem use_changed {K : PySem.W.Frag} {N n : Nat} {a : Addr} {al : List Nat} {W m : Nat} {v : V} {H : Hp} {Q : VK} {E : XK} (hn : n ≤ N) (hA : Alp al) (w1 : 10 ≤ W) (w2 : W ≤ 50) (g : G K a W n H v) (hS : Src a (m + 6 * (n + 1)) H)
    (k : ∀ (v' : V) (H' : Hp), G K a (W + 1) (n + 4) H' v' → Src a m H' → Kp a H H' → Q v' H') : sp_changed K N [.ref a, .str (S al), v] H Q E := ⟨a, al, W, m, n, v, rfl, hn, hA, w1, w2, g, hS, k⟩
theorem rd_rng2 {tas : TA} {σ : St} {H : Hp} {R : It → Hp → Prop} (h : tas σ H fun vs H1 => ∃ i j : Int, vs = [.int i, .int j] ∧ (-(2 ^ 62) ≤ i ∧ i < 2 ^ 62 ∧ -(2 ^ 62) ≤ j ∧ j < 2 ^ 62) ∧ R (Itr i (j - i).toNat) H1) : iRng2 tas σ H R := h
section
variable {P : Program} {w : World} {K : PySem.W.Frag} {mg : Str → Option Value} {base : Heap}
theorem ok_changed (B : Blt mg) (G__law_draw : Cal P w K mg base 1 "_law_draw" ["_law_source_here", "_law_many"] sp_draw) (G__law_other : Cal P w K mg base 2 "_law_other" ["_law_source_here", "_law_alphabet_here"] (sp_other K))
    (F : At K mg "_law_changed" s__law_changed ["_law_source_here", "_law_alphabet_here", "_law_value"]) : ∀ n : Nat, Cal P w K mg base (n + 3) "_law_changed" ["_law_source_here", "_law_alphabet_here", "_law_value"] (sp_changed K n) := by
  have step : ∀ (N : Nat) (q : Sp), Cal P w K mg base (N + 2) "_law_changed" ["_law_source_here", "_law_alphabet_here", "_law_value"] q → (∀ m, N = m + 1 → q = sp_changed K m) → Cal P w K mg base (N + 3) "_law_changed" ["_law_source_here", "_law_alphabet_here", "_law_value"] (sp_changed K N) := by
    intro N q G__law_changed hq
    refine F.ok (k := N + 2) sc__law_changed (fun vs H Q E h => ?_) (fun f cdv A outer s H vs Q E hr h => ?_)
    · obtain ⟨a, al, W, m, n, v, rfl, _⟩ := h
      rfl
    · obtain ⟨a, al, W, m, n, v, rfl, hn, hA, w1, w2, g, hS, k⟩ := h
      have e0 : m + 6 * (n + 1) = m + 6 * n + 5 + 1 := by omega
      rw [e0] at hS
      refine ⟨_, (pss_cons (ps_set (i := 3) sc__law_changed.nd rfl (Or.inl rfl) (pe_c G__law_draw (hr.mono (by first | decide | omega)) (pa_cons (pv 0) (pa_cons pe_int pa_nil))))
    (pss_cons (ps_set (i := 4) sc__law_changed.nd rfl (Or.inl rfl) (pe_ifExp (pt_val (pe_callB (call_isiK' (K := K) (by rfl)) (by rfl) B.isinstance (by decide +kernel) (pa_cons (pv 2) (pa_cons (pe_ty (T := "tuple") B.tuple (by decide +kernel)) pa_nil)))) (pe_lc (own := [("_law_k", 5)]) rfl sc__law_changed.nd (pi_range2 (by rfl) B.range (pa_cons pe_int (pa_cons (pe_callB (call_len_seqK (K := K) (by rfl)) (by rfl) B.len PySem.boot_len (pa_cons (pv 2) pa_nil)) pa_nil))) (blkOk_by (N := ["_law_source_here", "_law_alphabet_here", "_law_value", "_law_at", "_law_inner", "_law_k", "_law_way", "_law_low"]) (sc := defScope s__law_changed) (by decide +kernel)) (fun _ _ _ _ _ => (pg_name (i := 5) sc__law_changed.nd rfl (Or.inl rfl))) (fun _ _ _ _ _ => (pts_one (pt_val (pe_callB (call_isiK' (K := K) (by rfl)) (by rfl) B.isinstance (by decide +kernel) (pa_cons (pe_ix (ix_tupK (K := K) (by rfl)) (pv 2) (pv 5) (fun _ _ => rfl)) (pa_cons (pe_ty (T := "tuple") B.tuple (by decide +kernel)) pa_nil)))))) (fun _ _ _ _ _ => (pv 5))) (pe_lst pa_nil)))
    (pss_cons (ps_if (PW.pt (pw_and (pt_cmpR (op_neDK (K := K) (by rfl) hr.units) (pv 4) (pe_lst pa_nil) (nomark _)) (pw_and1 (pt_cmpR op_gt (pv 3) pe_int (nomark _)))))
    (pss_cons (ps_set (i := 5) sc__law_changed.nd rfl (Or.inl rfl) (pe_ix (ix_listK (K := K) (by rfl)) (pv 4) (pe_c G__law_draw (hr.mono (by first | decide | omega)) (pa_cons (pv 0) (pa_cons (pe_callB (call_len_seqK (K := K) (by rfl)) (by rfl) B.len PySem.boot_len (pa_cons (pv 4) pa_nil)) pa_nil))) (fun _ _ => rfl)))
    (pss_one (ps_ret (pe_op (op_catAK (K := K) (by rfl)) (pe_op (op_catAK (K := K) (by rfl)) (pe_slice (sl_tupAK (K := K) (by rfl)) (pv 2) po_none (po_some (pv 5))) (pe_tup (pa_cons (pe_c G__law_changed (hr.mono (by first | decide | omega)) (pa_cons (pv 0) (pa_cons (pv 1) (pa_cons (pe_ix (ix_tupK (K := K) (by rfl)) (pv 2) (pv 5) (fun _ _ => rfl)) pa_nil)))) pa_nil))) (pe_slice (sl_tupAK (K := K) (by rfl)) (pv 2) (po_some (pe_op op_add (pv 5) pe_int)) po_none)))))
    pss_nil)
    (pss_cons (ps_set (i := 6) sc__law_changed.nd rfl (Or.inl rfl) (pe_c G__law_draw (hr.mono (by first | decide | omega)) (pa_cons (pv 0) (pa_cons pe_int pa_nil))))
    (pss_cons (ps_if (PW.pt (pw_or (pt_not (pt_val (pe_callB (call_isiK' (K := K) (by rfl)) (by rfl) B.isinstance (by decide +kernel) (pa_cons (pv 2) (pa_cons (pe_ty (T := "tuple") B.tuple (by decide +kernel)) pa_nil))))) (pw_or (pt_cmpR op_eq (pe_callB (call_len_seqK (K := K) (by rfl)) (by rfl) B.len PySem.boot_len (pa_cons (pv 2) pa_nil)) pe_int (nomark _)) (pw_or1 (pt_cmpR op_eq (pv 6) pe_int (nomark _))))))
    (pss_one (ps_ret (pe_c G__law_other (hr.mono (by first | decide | omega)) (pa_cons (pv 0) (pa_cons (pv 1) pa_nil)))))
    pss_nil)
    (pss_cons (ps_set (i := 5) sc__law_changed.nd rfl (Or.inl rfl) (pe_c G__law_draw (hr.mono (by first | decide | omega)) (pa_cons (pv 0) (pa_cons (pe_callB (call_len_seqK (K := K) (by rfl)) (by rfl) B.len PySem.boot_len (pa_cons (pv 2) pa_nil)) pa_nil))))
    (pss_cons (ps_if (pt_cmpR op_eq (pv 6) pe_int (nomark _))
    (pss_one (ps_ret (pe_op (op_catAK (K := K) (by rfl)) (pe_tup (pa_cons (pe_ix (ix_listK (K := K) (by rfl)) (pe_lst (pa_cons pe_str (pa_cons pe_str (pa_cons pe_str (pa_cons pe_str (pa_cons pe_str (pa_cons pe_str (pa_cons pe_str (pa_cons pe_str pa_nil))))))))) (pe_c G__law_draw (hr.mono (by first | decide | omega)) (pa_cons (pv 0) (pa_cons pe_int pa_nil))) (fun _ _ => rfl)) pa_nil)) (pe_slice (sl_tupAK (K := K) (by rfl)) (pv 2) (po_some pe_int) po_none))))
    pss_nil)
    (pss_cons (ps_if (pt_cmpR op_eq (pv 6) pe_int (nomark _))
    (pss_one (ps_ret (pe_op (op_catAK (K := K) (by rfl)) (pe_slice (sl_tupAK (K := K) (by rfl)) (pv 2) po_none (po_some (pv 5))) (pe_slice (sl_tupAK (K := K) (by rfl)) (pv 2) (po_some (pe_op op_add (pv 5) pe_int)) po_none))))
    pss_nil)
    (pss_cons (ps_if (pt_cmpR op_eq (pv 6) pe_int (nomark _))
    (pss_one (ps_ret (pe_op (op_catAK (K := K) (by rfl)) (pe_op (op_catAK (K := K) (by rfl)) (pe_slice (sl_tupAK (K := K) (by rfl)) (pv 2) po_none (po_some (pv 5))) (pe_slice (sl_tupAK (K := K) (by rfl)) (pv 2) (po_some (pv 5)) (po_some (pe_op op_add (pv 5) pe_int)))) (pe_slice (sl_tupAK (K := K) (by rfl)) (pv 2) (po_some (pv 5)) po_none))))
    pss_nil)
    (pss_cons (ps_if (pt_cmpR op_eq (pv 6) pe_int (nomark _))
    (pss_one (ps_ret (pe_callTy (call_list_ofK (K := K) (by rfl)) (by rfl) B.list (by decide +kernel) (pa_cons (pv 2) pa_nil))))
    pss_nil)
    (pss_cons (ps_if (pt_cmpR op_eq (pv 6) pe_int (nomark _))
    (pss_cons (ps_set (i := 7) sc__law_changed.nd rfl (Or.inl rfl) (pe_ix (ix_listK (K := K) (by rfl)) (pe_lst (pa_cons pe_int (pa_cons pe_int (pa_cons pe_int (pa_cons pe_int (pa_cons (pe_un un_neg pe_int) (pa_cons pe_bl (pa_cons pe_non (pa_cons pe_str pa_nil))))))))) (pe_c G__law_draw (hr.mono (by first | decide | omega)) (pa_cons (pv 0) (pa_cons pe_int pa_nil))) (fun _ _ => rfl)))
    (pss_one (ps_ret (pe_tup (pa_cons pe_str (pa_cons (pv 2) (pa_cons (pv 7) (pa_cons (pe_ix (ix_listK (K := K) (by rfl)) (pe_lst (pa_cons pe_non (pa_cons pe_int (pa_cons pe_int (pa_cons pe_int (pa_cons pe_int (pa_cons pe_bl (pa_cons pe_str pa_nil)))))))) (pe_c G__law_draw (hr.mono (by first | decide | omega)) (pa_cons (pv 0) (pa_cons pe_int pa_nil))) (fun _ _ => rfl)) pa_nil))))))))
    pss_nil)
    (pss_cons (ps_if (pt_cmpR op_eq (pv 6) pe_int (nomark _))
    (pss_one (ps_ret (pe_tup (pa_cons (pe_ix (ix_listK (K := K) (by rfl)) (pe_lst (pa_cons pe_str (pa_cons pe_str (pa_cons pe_str (pa_cons pe_str pa_nil))))) (pe_c G__law_draw (hr.mono (by first | decide | omega)) (pa_cons (pv 0) (pa_cons pe_int pa_nil))) (fun _ _ => rfl)) (pa_cons (pv 2) pa_nil)))))
    pss_nil)
    (pss_one (ps_ret (pe_op (op_catAK (K := K) (by rfl)) (pe_op (op_catAK (K := K) (by rfl)) (pe_slice (sl_tupAK (K := K) (by rfl)) (pv 2) po_none (po_some (pv 5))) (pe_tup (pa_cons (pe_c G__law_other (hr.mono (by first | decide | omega)) (pa_cons (pv 0) (pa_cons (pv 1) pa_nil))) pa_nil))) (pe_slice (sl_tupAK (K := K) (by rfl)) (pv 2) (po_some (pe_op op_add (pv 5) pe_int)) po_none)))))))))))))))), ?_⟩
      walk_at "go"
      refine use_draw hS (by decide) (by decide) fun at_ H1 a0 a1 hS1 k1 => ?_
      with_reducible refine rd_gname ?_
      with_reducible refine rd_seq ?_
      have hc := G.cases g
      refine rd_cutR (t := tAsg _ _) (fun σ' H' => ∃ (D : Addr) (ks : List Int), σ' = [some (.ref a), some (.str (S al)), some v, some (.int at_), some (.ref D), none, none, none] ∧ D ≠ a ∧ H' D = some (.lst (ks.map V.int)) ∧ ks.length ≤ 60 ∧
        (∀ z ∈ ks, ∃ (p : Addr) (xs : List V) (j i : Nat), n = j + 1 ∧ v = .ref p ∧ ST K a H p xs ∧ GA K a W j H xs ∧ xs.length ≤ W ∧ z = (i : Int) ∧ i < xs.length) ∧ Src a (m + 6 * n + 5) H' ∧ Kp a H H') ?rest ?here
      case here =>
        intro nx fin
        walk_at "go"
        rcases hc with ⟨p, xs, j, ds, rfl, rfl, hst, hga, hlen, hdp⟩ | ⟨d, hd, hno⟩
        · have hst1 := hst.kp k1
          refine rd_isTup (d := .tuple ds) (L2.Dp.tup hst1.at (DpAll.mono hid_le (DpAll.mono k1 hdp))) ?_
          walk_at "go"
          refine iteT ?_
          walk_at "go"
          refine rd_rng2 ?_
          walk_at "go"
          refine rd_len (.inr hst1.at) ?_
          walk_at "go"
          refine ⟨1, _, rfl, ⟨by decide, by decide, by omega, by omega⟩, ?_⟩
          intro D hD
          have Da : D ≠ a := hS1.ne hD
          have hD0 : H D = none := k1.none Da hD
          refine lc_range (lo := 1) (n := _) (fun i H' => ∃ ks : List Int, H' D = some (.lst (ks.map V.int)) ∧ ks.length ≤ i ∧ (∀ z ∈ ks, ∃ i : Nat, z = (i : Int) ∧ i < xs.length) ∧ Src a (m + 6 * (j + 1) + 5) H' ∧ Kp a H H') ?_ ?_ ?_
          · exact ⟨[], upd_same, by simp, by simp, hS1.lay Da, k1.lay hD0⟩
          · rintro i H' hi ⟨ks, eD, hl, hks, hS', kp⟩
            have hi2 : 1 + i < xs.length := by omega
            have hstq := hst.kp kp
            have hdq := DpAll.mono hid_le (DpAll.mono kp hdp)
            obtain ⟨dx, hdx, hdv⟩ := DpAll.get hdq (List.getElem?_eq_getElem hi2)
            have ei : (1 : Int) + (i : Int) = ((1 + i : Nat) : Int) := by omega
            walk_at "go"
            refine ⟨rfl, ?_⟩
            walk_at "go"
            rw [ei]
            refine rd_ixt hstq.at (atI_nat (List.getElem?_eq_getElem hi2)) ?_
            walk_at "go"
            refine rd_isTup hdv ?_
            walk_at "go"
            refine ite2 (fun _ => ?_) (fun _ => ?_)
            · walk_at "go"
              refine ⟨_, eD, by rw [List.length_map, PySem.sizeLine_eq]; omega, ks ++ [((1 + i : Nat) : Int)], ?_, by rw [List.length_append]; simp; omega, ?_, hS'.lay Da, kp.lay hD0⟩
              · rw [upd_same, List.map_append]; rfl
              · intro z hz
                rcases List.mem_append.mp hz with hz | hz
                · exact hks z hz
                · rw [List.mem_singleton.mp hz]; exact ⟨_, rfl, hi2⟩
            · exact ⟨ks, eD, by omega, hks, hS', kp⟩
          · rintro H' ⟨ks, eD, hl, hks, hS', kp⟩
            walk_at "go"
            refine fin _ _ ⟨D, ks, rfl, Da, eD, by omega, fun z hz => ?_, hS', kp⟩
            obtain ⟨i, e1, e2⟩ := hks z hz
            exact ⟨p, xs, j, i, rfl, rfl, hst, hga, hlen, e1, e2⟩
        · refine rd_isTup (d := d) (DV.at (DV.kp k1 hd)) ?_
          rw [hno]
          walk_at "go"
          refine ⟨by show 0 ≤ sizeLine; decide, rd_newK hS1 fun D H2 Da hD eD hS2 k2 => ?_⟩
          walk_at "go"
          exact fin _ _ ⟨D, [], rfl, Da, eD, by simp, by simp, hS2, k1.trans k2⟩
      case rest =>
        rintro σ2 H2 ⟨D, ks, rfl, Da, eD, hkl, hks, hS2, k2⟩
        with_reducible refine rd_seq ?_
        refine rd_cutR (t := tIfS _ _ _) (fun σ' H' => σ' = [some (.ref a), some (.str (S al)), some v, some (.int at_), some (.ref D), none, none, none] ∧ Src a (m + 6 * n + 5) H' ∧ Kp a H H') ?rest ?here
        case here =>
          intro nx fin
          walk_at "go"
          refine ⟨by show 0 ≤ sizeLine; decide, rd_newK hS2 fun e H3 ea he eE hS3 k3 => ?_⟩
          have eD3 := k3.at Da eD
          refine ⟨_, _, dpInts eD3, dpInts (ns := []) eE, PySem.W.shaped_ints _, PySem.W.shaped_ints _, ?_⟩
          rw [eqvInts]
          walk_at "go"
          refine ite2 (fun z1 => ?_) (fun z1 => ?_)
          · have hne : ks ≠ [] := by simpa using z1
            have hpos : 0 < ks.length := List.length_pos_iff.mpr hne
            walk_at "go"
            refine ite2 (fun z2 => ?_) (fun z2 => ?_)
            · -- within
              walk_at "go"
              refine rd_len (.inl (SqL.of eD3)) ?_
              walk_at "go"
              refine use_draw (n := m + 6 * n + 4) hS3 (by rw [List.length_map]; omega) (by rw [List.length_map]; omega) fun c H4 c0 c1 hS4 k4 => ?_
              walk_at "go"
              refine rd_ixl_any (k4.at Da eD3) c0 (by exact c1) fun u hu => ?_
              obtain ⟨z, hz, rfl⟩ := List.mem_map.mp hu
              obtain ⟨p, xs, j, i, rfl, rfl, hst, hga, hlen, rfl, hi⟩ := hks z hz
              obtain ⟨M, rfl⟩ : ∃ M, N = M + 1 := ⟨N - 1, by omega⟩
              obtain rfl := hq M rfl
              have k04 := k2.trans (k3.trans k4)
              have hst4 := hst.kp k04
              walk_at "go"
              refine rd_slaK hS4 hst4 fun p1 H5 st5 hS5 k5 => ?_
              walk_at "go"
              have hst5 := hst4.kp k5
              refine rd_ixt hst5.at (atI_nat (List.getElem?_eq_getElem hi)) ?_
              walk_at "go"
              refine use_changed (n := j) (m := m + 4) (by omega) hA w1 w2 ((hga.kp (k04.trans k5)) _ (List.getElem_mem hi)) (hS5.mono (by omega)) fun v' H6 g6 hS6 k6 => ?_
              walk_at "go"
              refine ⟨by show 1 ≤ sizeLine; decide, rd_newK hS6 fun p2 H7 p2a hp2 eP2 hS7 k7 => ?_⟩
              have st7 := st5.kp (k6.trans k7)
              have l1 := cut_to (xs := xs) (k := i) (by omega)
              refine rd_catK hS7 st7 (ST.new p2a eP2) (by rw [List.length_singleton]; omega) fun p3 H8 st8 hS8 k8 => ?_
              walk_at "go"
              have ei : ((i : Nat) : Int) + 1 = ((i + 1 : Nat) : Int) := by omega
              rw [ei]
              have k08 := (k04.trans k5).trans (k6.trans (k7.trans k8))
              refine rd_slaK hS8 (hst.kp k08) fun p4 H9 st9 hS9 k9 => ?_
              have l2 := cut_from (xs := xs) (k := i + 1) (by omega)
              refine rd_catK hS9 (st8.kp k9) st9 (by rw [List.length_append, List.length_singleton]; omega) fun p5 H10 st10 hS10 k10 => ?_
              walk_at "go"
              have kA := k08.trans (k9.trans k10)
              have gc := (hga.kp kA).mono (W' := W + 1) (n' := j + 1 + 3) (by omega) (by omega)
              refine k (.ref p5) H10 (G.tupS st10 ((gc.cut.app (GA.cons ?_ GA.nil)).app gc.cut) ?_) (hS10.mono (by omega)) kA
              · exact (g6.kp (k7.trans (k8.trans (k9.trans k10)))).mono (by omega) (by omega)
              · rw [List.length_append, List.length_append, List.length_singleton]; omega
            · walk_at "go"
              exact fin _ _ ⟨rfl, hS3, k2.trans k3⟩
          · walk_at "go"
            exact fin _ _ ⟨rfl, hS3, k2.trans k3⟩
        case rest =>
          rintro σ3 H3 ⟨rfl, hS3, k3⟩
          walk_at "go"
          refine use_draw (n := m + 6 * n + 4) hS3 (by decide) (by decide) fun way H4 y0 y1 hS4 k4 => ?_
          have k04 := k3.trans k4
          have other : sp_other K [.ref a, .str (S al)] H4 Q E0 := use_other (n := m) hA (hS4.mono (by omega)) fun u d H5 bd dv hS5 k5 => k u H5 ⟨d, bd.mono (by omega) (by omega), dv⟩ hS5 (k04.trans k5)
          walk_at "go"
          rcases hc with ⟨p, xs, j, ds, rfl, rfl, hst, hga, hlen, hdp⟩ | ⟨d, hd, hno⟩
          rotate_left
          · refine rd_isTup (d := d) (DV.at (DV.kp k04 hd)) ?_
            rw [hno]
            walk_at "go"
            refine iteT ?_
            walk_at "go"
            exact other
          have hst4 := hst.kp k04
          refine rd_isTup (d := .tuple ds) (L2.Dp.tup hst4.at (DpAll.mono hid_le (DpAll.mono k04 hdp))) ?_
          walk_at "go"
          refine iteF ?_
          walk_at "go"
          refine rd_len (.inr hst4.at) ?_
          walk_at "go"
          refine ite2 (fun _ => ?_) (fun z0 => ?_)
          · walk_at "go"
            exact other
          have lpos : 0 < xs.length := by
            refine Nat.pos_of_ne_zero fun e => z0 ?_
            rw [e]; rfl
          walk_at "go"
          refine ite2 (fun _ => ?_) (fun _ => ?_)
          · walk_at "go"
            exact other
          clear other
          walk_at "go"
          refine rd_len (.inr hst4.at) ?_
          walk_at "go"
          refine use_draw (n := m + 6 * (j + 1) + 3) hS4 (by omega) (by omega) fun iz H5 i0 i1 hS5 k5 => ?_
          obtain ⟨i, rfl⟩ : ∃ i : Nat, iz = (i : Int) := ⟨iz.toNat, by omega⟩
          have hi : i < xs.length := by omega
          have ei : ((i : Nat) : Int) + 1 = ((i + 1 : Nat) : Int) := by omega
          have k05 := k04.trans k5
          have hst5 := hst4.kp k5
          have gl : ∀ {H'}, Kp a H H' → GA K a (W + 1) (j + 1 + 3) H' xs := fun kk => (hga.kp kk).mono (by omega) (by omega)
          have gv : ∀ {H'}, Kp a H H' → G K a (W + 1) (j + 1 + 3) H' (.ref p) := fun kk => (G.tupS (hst.kp kk) (hga.kp kk) hlen).mono (by omega) (by omega)
          walk_at "go"
          refine ite2 (fun _ => ?_) (fun _ => ?_)
          · -- another word
            walk_at "go"
            refine ⟨by show 8 ≤ sizeLine; decide, rd_newK hS5 fun q1 H6 qa hq1 eQ hS6 k6 => ?_⟩
            walk_at "go"
            refine use_draw (n := m + 6 * (j + 1) + 2) hS6 (by decide) (by decide) fun c H7 c0 c1 hS7 k7 => ?_
            refine rd_ixl_any (k7.at qa eQ) c0 (by exact c1) fun u hu => ?_
            have gu : ∀ {H'}, G K a (W + 1) (j + 1 + 3) H' u := by
              simp only [List.mem_cons, List.not_mem_nil, or_false] at hu
              rcases hu with rfl | rfl | rfl | rfl | rfl | rfl | rfl | rfl <;> exact G.str (by decide)
            walk_at "go"
            refine ⟨by show 1 ≤ sizeLine; decide, rd_newK hS7 fun q2 H8 q2a hq2 eQ2 hS8 k8 => ?_⟩
            walk_at "go"
            have k58 := k6.trans (k7.trans k8)
            refine rd_slaK hS8 (hst5.kp k58) fun q3 H9 st9 hS9 k9 => ?_
            have l2 : (cutV xs (some 1) none).length ≤ xs.length - 1 := cut_from (xs := xs) (k := 1) (by omega)
            refine rd_catK hS9 ((ST.new q2a eQ2).kp k9) st9 (by rw [List.length_singleton]; omega) fun q4 H10 st10 hS10 k10 => ?_
            walk_at "go"
            have kA := k05.trans (k58.trans (k9.trans k10))
            refine k (.ref q4) H10 (G.tupS st10 ((GA.cons gu GA.nil).app (gl kA).cut) ?_) (hS10.mono (by omega)) kA
            rw [List.length_append, List.length_singleton]; omega
          walk_at "go"
          refine ite2 (fun _ => ?_) (fun _ => ?_)
          · -- one less
            walk_at "go"
            refine rd_slaK hS5 hst5 fun q1 H6 st6 hS6 k6 => ?_
            walk_at "go"
            rw [ei]
            refine rd_slaK hS6 (hst5.kp k6) fun q2 H7 st7 hS7 k7 => ?_
            have l1 := cut_to (xs := xs) (k := i) (by omega)
            have l2 := cut_from (xs := xs) (k := i + 1) (by omega)
            refine rd_catK hS7 (st6.kp k7) st7 (by omega) fun q3 H8 st8 hS8 k8 => ?_
            walk_at "go"
            have kA := k05.trans (k6.trans (k7.trans k8))
            refine k (.ref q3) H8 (G.tupS st8 ((gl kA).cut.app (gl kA).cut) ?_) (hS8.mono (by omega)) kA
            rw [List.length_append]; omega
          walk_at "go"
          refine ite2 (fun _ => ?_) (fun _ => ?_)
          · -- one twice
            walk_at "go"
            refine rd_slaK hS5 hst5 fun q1 H6 st6 hS6 k6 => ?_
            walk_at "go"
            rw [ei]
            refine rd_slaK hS6 (hst5.kp k6) fun q2 H7 st7 hS7 k7 => ?_
            have l1 := cut_to (xs := xs) (k := i) (by omega)
            have l2 := cut_one (xs := xs) (k := i) (by omega)
            refine rd_catK hS7 (st6.kp k7) st7 (by omega) fun q3 H8 st8 hS8 k8 => ?_
            walk_at "go"
            refine rd_slaK hS8 (hst5.kp (k6.trans (k7.trans k8))) fun q4 H9 st9 hS9 k9 => ?_
            have l3 := cut_from (xs := xs) (k := i) (by omega)
            refine rd_catK hS9 (st8.kp k9) st9 (by rw [List.length_append]; omega) fun q5 H10 st10 hS10 k10 => ?_
            walk_at "go"
            have kA := k05.trans (k6.trans (k7.trans (k8.trans (k9.trans k10))))
            refine k (.ref q5) H10 (G.tupS st10 (((gl kA).cut.app (gl kA).cut).app (gl kA).cut) ?_) (hS10.mono (by omega)) kA
            rw [List.length_append, List.length_append]; omega
          walk_at "go"
          refine ite2 (fun _ => ?_) (fun _ => ?_)
          · -- a list
            walk_at "go"
            refine rd_lstof (.inr hst5.at) (rd_newK hS5 fun q1 H6 qa hq1 eQ hS6 k6 => ?_)
            walk_at "go"
            have kA := k05.trans k6
            exact k (.ref q1) H6 (G.lst qa eQ (gl kA) (by omega)) (hS6.mono (by omega)) kA
          walk_at "go"
          refine ite2 (fun _ => ?_) (fun _ => ?_)
          · -- an again of it
            walk_at "go"
            refine ⟨1, rfl, ?_⟩
            walk_at "go"
            refine ⟨by show 8 ≤ sizeLine; decide, rd_newK hS5 fun q1 H6 qa hq1 eQ hS6 k6 => ?_⟩
            walk_at "go"
            refine use_draw (n := m + 6 * (j + 1) + 2) hS6 (by decide) (by decide) fun c H7 c0 c1 hS7 k7 => ?_
            refine rd_ixl_any (k7.at qa eQ) c0 (by exact c1) fun u hu => ?_
            have gu : ∀ {H'}, G K a (W + 1) (j + 1 + 3) H' u := by
              simp only [List.mem_cons, List.not_mem_nil, or_false] at hu
              rcases hu with rfl | rfl | rfl | rfl | rfl | rfl | rfl | rfl <;> first | exact G.int _ | exact G.bl _ | exact G.non | exact G.str (by decide)
            walk_at "go"
            refine ⟨by show 7 ≤ sizeLine; decide, rd_newK hS7 fun q2 H8 q2a hq2 eQ2 hS8 k8 => ?_⟩
            walk_at "go"
            refine use_draw (n := m + 6 * (j + 1) + 1) hS8 (by decide) (by decide) fun c' H9 c0' c1' hS9 k9 => ?_
            refine rd_ixl_any (k9.at q2a eQ2) c0' (by exact c1') fun u' hu' => ?_
            have gu' : ∀ {H'}, G K a (W + 1) (j + 1 + 3) H' u' := by
              simp only [List.mem_cons, List.not_mem_nil, or_false] at hu'
              rcases hu' with rfl | rfl | rfl | rfl | rfl | rfl | rfl <;> first | exact G.int _ | exact G.bl _ | exact G.non | exact G.str (by decide)
            walk_at "go"
            refine ⟨by show 4 ≤ sizeLine; decide, rd_newK hS9 fun q3 H10 q3a hq3 eQ3 hS10 k10 => ?_⟩
            walk_at "go"
            have kA := k05.trans (k6.trans (k7.trans (k8.trans (k9.trans k10))))
            exact k (.ref q3) H10 (G.tup q3a eQ3 (GA.cons (G.str (by decide)) (GA.cons (gv kA) (GA.cons gu (GA.cons gu' GA.nil)))) (by show 4 ≤ _; omega)) (hS10.mono (by omega)) kA
          walk_at "go"
          refine ite2 (fun _ => ?_) (fun _ => ?_)
          · -- within another
            walk_at "go"
            refine ⟨by show 4 ≤ sizeLine; decide, rd_newK hS5 fun q1 H6 qa hq1 eQ hS6 k6 => ?_⟩
            walk_at "go"
            refine use_draw (n := m + 6 * (j + 1) + 2) hS6 (by decide) (by decide) fun c H7 c0 c1 hS7 k7 => ?_
            refine rd_ixl_any (k7.at qa eQ) c0 (by exact c1) fun u hu => ?_
            have gu : ∀ {H'}, G K a (W + 1) (j + 1 + 3) H' u := by
              simp only [List.mem_cons, List.not_mem_nil, or_false] at hu
              rcases hu with rfl | rfl | rfl | rfl <;> exact G.str (by decide)
            walk_at "go"
            refine ⟨by show 2 ≤ sizeLine; decide, rd_newK hS7 fun q2 H8 q2a hq2 eQ2 hS8 k8 => ?_⟩
            walk_at "go"
            have kA := k05.trans (k6.trans (k7.trans k8))
            exact k (.ref q2) H8 (G.tup q2a eQ2 (GA.cons gu (GA.cons (gv kA) GA.nil)) (by show 2 ≤ _; omega)) (hS8.mono (by omega)) kA
          walk_at "go"
          refine rd_slaK hS5 hst5 fun q1 H6 st6 hS6 k6 => ?_
          walk_at "go"
          refine use_other (n := m + 6 * (j + 1) + 2) hA hS6 fun u d H7 bd dv hS7 k7 => ?_
          walk_at "go"
          refine ⟨by show 1 ≤ sizeLine; decide, rd_newK hS7 fun q2 H8 q2a hq2 eQ2 hS8 k8 => ?_⟩
          have l1 := cut_to (xs := xs) (k := i) (by omega)
          refine rd_catK hS8 (st6.kp (k7.trans k8)) (ST.new q2a eQ2) (by rw [List.length_singleton]; omega) fun q3 H9 st9 hS9 k9 => ?_
          walk_at "go"
          rw [ei]
          refine rd_slaK hS9 (hst5.kp (k6.trans (k7.trans (k8.trans k9)))) fun q4 H10 st10 hS10 k10 => ?_
          have l2 := cut_from (xs := xs) (k := i + 1) (by omega)
          refine rd_catK hS10 (st9.kp k10) st10 (by rw [List.length_append, List.length_singleton]; omega) fun q5 H11 st11 hS11 k11 => ?_
          walk_at "go"
          have k711 := k8.trans (k9.trans (k10.trans k11))
          have kA := k05.trans (k6.trans (k7.trans k711))
          have gu : G K a (W + 1) (j + 1 + 3) H11 u := ⟨d, bd.mono (by omega) (by omega), dv.kp k711⟩
          refine k (.ref q5) H11 (G.tupS st11 (((gl kA).cut.app (GA.cons gu GA.nil)).app (gl kA).cut) ?_) (hS11.mono (by omega)) kA
          rw [List.length_append, List.length_append, List.length_singleton]; omega
  intro n
  induction n with
  | zero => exact step 0 (fun _ _ _ _ => False) (F.ok (k := 1) sc__law_changed (fun vs H Q E h => h.elim) (fun f cdv A outer s H vs Q E hr h => h.elim)) (fun m e => by omega)
  | succ n ih => exact step (n + 1) _ ih (fun m e => by injection e with e; rw [e])
end

end Cs
namespace Cs
open PySem L2
open PyProof.Rows (envOfC)
/-! places of characters in the alphabet -/
def fnd (al : List Nat) (c : Nat) : Int := PySem.Txt.find (S al) (S [c])
theorem fnd_or (al : List Nat) (c : Nat) : (fnd al c = -1 ∧ c ∉ al) ∨ ∃ i : Nat, fnd al c = (i : Int) ∧ al[i]? = some c := by
  have one : TL.tl (S [c]) ≠ [] := by show [c] ≠ []; simp
  have key : ∀ i, PySem.StrLaws.At (S al) (S [c]) (S al).length i ↔ al[i]? = some c := by
    intro i
    rw [TL.at_iff one]
    show ((al.drop i).take 1 == [c]) = true ↔ _
    have e0 : al[i]? = (al.drop i)[0]? := by rw [List.getElem?_drop]; simp
    rw [e0]
    cases al.drop i with
    | nil => simp
    | cons d r => simp
  rcases PyProof.Rows.find_whole (S al) (S [c]) with ⟨e, h⟩ | ⟨i, e, h, _⟩
  · refine .inl ⟨e, fun m => ?_⟩
    obtain ⟨i, hi⟩ := List.getElem?_of_mem m
    exact h i ((key i).mpr hi)
  · exact .inr ⟨i, e, (key i).mp h⟩
theorem asc_ext : ∀ {l m : List Int}, l.Pairwise (· < ·) → m.Pairwise (· < ·) → (∀ x, x ∈ l ↔ x ∈ m) → l = m
  | [], [], _, _, _ => rfl
  | [], b :: m, _, _, h => absurd ((h b).mpr (by simp)) (by simp)
  | a :: l, [], _, _, h => absurd ((h a).mp (by simp)) (by simp)
  | a :: l, b :: m, hl, hm, h => by
    have hl' := List.pairwise_cons.mp hl
    have hm' := List.pairwise_cons.mp hm
    have ab : a = b := by
      rcases List.mem_cons.mp ((h a).mp (by simp)) with e | e
      · exact e
      · rcases List.mem_cons.mp ((h b).mpr (by simp)) with e2 | e2
        · exact e2.symm
        · have := hm'.1 a e; have := hl'.1 b e2; omega
    subst ab
    congr 1
    refine asc_ext hl'.2 hm'.2 fun x => ⟨fun hx => ?_, fun hx => ?_⟩
    · rcases List.mem_cons.mp ((h x).mp (by simp [hx])) with e | e
      · have := hl'.1 x hx; omega
      · exact e
    · rcases List.mem_cons.mp ((h x).mpr (by simp [hx])) with e | e
      · have := hm'.1 x hx; omega
      · exact e
theorem fnd_at {al : List Nat} (nd : al.Nodup) {i c : Nat} (h : al[i]? = some c) : fnd al c = (i : Int) := by
  rcases fnd_or al c with ⟨_, no⟩ | ⟨j, e, hj⟩
  · exact absurd (List.mem_of_getElem? h) no
  · have li : i < al.length := (List.getElem?_eq_some_iff.mp h).1
    have : i = j := (List.getElem?_inj li nd).mp (h.trans hj.symm)
    rw [e, this]
theorem fnd_asc {al : List Nat} (nd : al.Nodup) : (al.map (fnd al)).Pairwise (· < ·) := by
  rw [List.pairwise_iff_getElem]
  intro i j hi hj hij
  rw [List.length_map] at hi hj
  rw [List.getElem_map, List.getElem_map, fnd_at nd (List.getElem?_eq_getElem hi), fnd_at nd (List.getElem?_eq_getElem hj)]
  omega
theorem map_fnd_inj {al : List Nat} : ∀ {l m : List Nat}, (∀ c ∈ l, c ∈ al) → (∀ c ∈ m, c ∈ al) → l.map (fnd al) = m.map (fnd al) → l = m
  | [], [], _, _, _ => rfl
  | [], _ :: _, _, _, h => by simp at h
  | _ :: _, [], _, _, h => by simp at h
  | a :: l, b :: m, hl, hm, h => by
    rw [List.map_cons, List.map_cons] at h
    injection h with h1 h2
    have e : a = b := by
      rcases fnd_or al a with ⟨_, no⟩ | ⟨i, ei, hi⟩
      · exact absurd (hl a (by simp)) no
      · rcases fnd_or al b with ⟨_, no⟩ | ⟨j, ej, hj⟩
        · exact absurd (hm b (by simp)) no
        · have : i = j := by rw [ei, ej] at h1; omega
          subst this
          rw [hi] at hj
          injection hj
    rw [e, map_fnd_inj (fun c hc => hl c (by simp [hc])) (fun c hc => hm c (by simp [hc])) h2]
/-- the law's own look at a set of characters -/
theorem sel_iff {al cs : List Nat} (nd : al.Nodup) {ns : List Int} (asc : ns.Pairwise (· < ·)) (mem : ∀ k : Int, k ∈ ns ↔ k ∈ cs.map (fnd al)) :
    mSel al (.str (S cs)) = (!decide ((-1 : Int) ∈ cs.map (fnd al)) && decide (cs.map (fnd al) = ns)) := by
  have sub : (al.filter fun c => decide (c ∈ cs)).Sublist al := List.filter_sublist
  have asc2 : ((al.filter fun c => decide (c ∈ cs)).map (fnd al)).Pairwise (· < ·) := (fnd_asc nd).sublist (sub.map _)
  show decide (S cs = S (al.filter fun c => decide (c ∈ cs))) = _
  rw [Bool.eq_iff_iff, Bool.and_eq_true, decide_eq_true_eq, decide_eq_true_eq, Bool.not_eq_true', decide_eq_false_iff_not]
  constructor
  · intro h
    have h := S_inj h
    have isin : ∀ c ∈ cs, c ∈ al := fun c hc => by rw [h] at hc; exact (List.mem_filter.mp hc).1
    refine ⟨fun m => ?_, ?_⟩
    · obtain ⟨c, hc, e⟩ := List.mem_map.mp m
      rcases fnd_or al c with ⟨_, no⟩ | ⟨i, ei, _⟩
      · exact no (isin c hc)
      · omega
    · refine asc_ext ?_ asc fun x => (mem x).symm
      rw [h]; exact asc2
  · rintro ⟨h1, h2⟩
    have isin : ∀ c ∈ cs, c ∈ al := fun c hc => by
      rcases fnd_or al c with ⟨e, _⟩ | ⟨i, _, hi⟩
      · exact absurd (List.mem_map.mpr ⟨c, hc, e⟩) h1
      · exact List.mem_of_getElem? hi
    have asc1 : (cs.map (fnd al)).Pairwise (· < ·) := by rw [h2]; exact asc
    have e : cs.map (fnd al) = (al.filter fun c => decide (c ∈ cs)).map (fnd al) := asc_ext asc1 asc2 fun x => by
      rw [List.mem_map, List.mem_map]
      constructor
      · rintro ⟨c, hc, e⟩; exact ⟨c, List.mem_filter.mpr ⟨isin c hc, by simpa using hc⟩, e⟩
      · rintro ⟨c, hc, e⟩; exact ⟨c, by simpa using (List.mem_filter.mp hc).2, e⟩
    exact congrArg S (map_fnd_inj isin (fun c hc => (List.mem_filter.mp hc).1) e)
theorem sel_no {al cs : List Nat} (h : (-1 : Int) ∈ cs.map (fnd al)) : mSel al (.str (S cs)) = false := by
  show decide (S cs = S (al.filter fun c => decide (c ∈ cs))) = false
  refine decide_eq_false fun e => ?_
  have e := S_inj e
  obtain ⟨c, hc, hf⟩ := List.mem_map.mp h
  have hc' := hc
  rw [e] at hc'
  rcases fnd_or al c with ⟨_, no⟩ | ⟨i, ei, _⟩
  · exact no (List.mem_filter.mp hc').1
  · omega

end Cs
namespace Cs
open PySem L2
open PyProof.Rows (envOfC)
/-! set(l) of a list of ints, by what the library tells of its loop -/
section
variable {P : Program} {w : World} {A : Around} {E : Value → Shared → Prop} {s : Shared}
/-- an empty set, new -/
def eSet (w : World) : Obj := { cls := .type "set", dict := none, data := .set #[] 0 (.fresh 0 0 (!w.params.followText "set-order")) }
/-- what is known once the ints of a list have been put into a new set -/
def Filled (w : World) (s : Shared) (ns : List Int) (Q : Shared → Prop) : Prop :=
  ∀ (h' : Heap) (tk c : Nat), SetR w h' s.heap.objs.size (fun j => decide (j ∈ ns)) c → c ≤ ns.length → (∀ b o, s.heap.get? b = some o → h'.get? b = some o) → Q { s with heap := h', toks := tk }
theorem int_of {items : Array Value} {ns : List Int} (it : PyProof.Rows.IntsAre items.toList ns) (i : Nat) (v : Value) (e : items[i]? = some v) : ∃ k t, ns[i]? = some k ∧ v = .int k t := by
  have len := PyProof.Rows.IntsAre.length it
  have lt : i < items.size := (Array.getElem?_eq_some_iff.mp e).1
  rw [Array.length_toList] at len
  have lt' : i < ns.length := len ▸ lt
  obtain ⟨t, et⟩ := PyProof.Rows.IntsAre.int_at it i v (by rw [Array.getElem?_toList]; exact e)
  have en : ns[i]? = some ns[i] := List.getElem?_eq_getElem lt'
  exact ⟨ns[i], t, en, by rw [et, List.getD_eq_getElem?_getD, en]; rfl⟩
/-- the loop that puts them in, l the list, the new set behind the old heap -/
theorem fill_loop {B : Around} {l : Addr} {items : Array Value} {ns : List Int} {R : Result → Shared → Prop} (free : B.in1.handled = none) (isl : s.heap.IsList l items) (it : PyProof.Rows.IntsAre items.toList ns) (few : ns.length + 1 < scanBound)
    (k : Filled w s ns fun s' => R (.ok (.ret .none)) s') :
    codeAny (model P w) B (.builtin "set.update.loop" ⟨[.ref s.heap.objs.size, .ref (s.heap.objs.size + 1)], []⟩) R
      { s with heap := (s.heap.push (eSet w)).push { cls := .type "list_iterator", data := .fields #[.ref l, .int 0 0] } } := by
  obtain ⟨ob, eob, cob, nn, dob⟩ := isl
  have small : l < s.heap.objs.size := Heap.lt_size eob
  have grown : (s.heap.push (eSet w)).objs.size = s.heap.objs.size + 1 := Heap.size_push ..
  have isl1 : (s.heap.push (eSet w)).IsList l items := ⟨ob, Heap.get?_push_of_some _ eob, cob, nn, dob⟩
  have len : items.size = ns.length := by rw [← Array.length_toList]; exact PyProof.Rows.IntsAre.length it
  have own : ((s.heap.push (eSet w)).push { cls := .type "list_iterator", data := .fields #[.ref l, .int 0 0] }).get? s.heap.objs.size = some (eSet w) := Heap.get?_push_of_some _ (Heap.get?_push_size _ rfl)
  have apart : l ≠ s.heap.objs.size + 1 := Nat.ne_of_lt (Nat.lt_succ_of_lt small)
  have out : s.heap.objs.size ∉ [s.heap.objs.size + 1, l] := by
    intro m
    rcases List.mem_cons.mp m with m | m
    · exact Nat.ne_of_lt (Nat.lt_succ_self _) m
    · exact Nat.ne_of_gt small (List.mem_singleton.mp m)
  refine set_update_ints ((Walks.list free _ l apart items).toS) s.heap.objs.size out ns len few (int_of it) items.size 0 _ rfl (Nat.zero_le _) ⟨⟨{ cls := .type "list_iterator", data := .fields #[.ref l, .int 0 0] }, ?_, rfl, rfl⟩, isl1.push _⟩ ⟨0, Nat.le_refl 0, setR_new_at own⟩ ?_
  · rw [← grown]; exact Heap.get?_push_size _ rfl
  · rintro ⟨h', g', d', tk', os'⟩ c' mv le sr
    cases (show g' = s.gens from mv.gens)
    cases (show d' = s.drawn from mv.drawn)
    cases (show os' = s.os from mv.os)
    refine k h' tk' c' sr (by omega) fun b o e => ?_
    have lb : b < s.heap.objs.size := Heap.lt_size e
    refine mv.heap b o (fun m => ?_) (Heap.get?_push_of_some _ (Heap.get?_push_of_some _ e))
    rcases List.mem_cons.mp m with m | m
    · exact Nat.ne_of_lt lb m
    · exact Nat.ne_of_lt (Nat.lt_succ_of_lt lb) (List.mem_singleton.mp m)
/-- set.__init__ of the new set, by a list -/
theorem init_of_list {B : Around} {l : Addr} {items : Array Value} {ns : List Int} {Y : Value → Shared → Prop} (free : B.in1.in1.in1.handled = none) (isl : s.heap.IsList l items) (it : PyProof.Rows.IntsAre items.toList ns) (few : ns.length + 1 < scanBound)
    (k : Filled w s ns (Y .none)) :
    codeAny (model P w) B (.call (.builtin "set.__init__") ⟨[.ref s.heap.objs.size, .ref l], []⟩) (wants Y E) { s with heap := s.heap.push (eSet w) } := by
  have typed : Shared.TypeIs { s with heap := s.heap.push (eSet w) } (.ref s.heap.objs.size) "set" := ⟨_, Heap.get?_push_size _ rfl, rfl⟩
  refine codeAny_call_builtin (R := wants Y E) F.called_set.init.plain F.entry_set_init (check_set_init_1 typed ?_)
  have isl0 := isl
  obtain ⟨ob, eob, cob, nn, dob⟩ := isl
  obtain ⟨oc, od, odat, osl⟩ := ob
  simp only at cob dob
  subst cob dob
  have there : (s.heap.push (eSet w)).get? l = some { cls := .type "list", dict := od, data := .seq items nn, slots := osl } := Heap.get?_push_of_some _ eob
  have isl1 : (s.heap.push (eSet w)).IsList l items := ⟨_, there, rfl, nn, rfl⟩
  have s1 := F.sub_list_set
  have s2 := F.sub_list_frozenset
  have s3 : (Value.type "list" == Value.type "dict") = false := by decide
  unfold Builtin.«set.__init__» noKeywords Builtin.Frozenset.updateFrom
  generalize walks : pyIter = walked
  wp_walk
  rw [← walks]
  refine wpAny_pyIter_list isl1 (wpAny_bind (wpAny_runValue ?_))
  have same : (s.heap.push (eSet w)).objs.size = s.heap.objs.size + 1 := Heap.size_push ..
  simp only [same]
  refine fill_loop free isl0 it few fun h' tk c sr le keep => ?_
  show wpAny _ _ (pure ()) _ _ _
  refine wpAny_pure ?_
  show wpAny _ _ (ret Value.none) _ _ _
  exact wpAny_pure (k h' tk c sr le keep)
/-- set(l) -/
theorem set_of_list {l : Addr} {items : Array Value} {ns : List Int} {Q : Value → Shared → Prop} (free : A.handled = none) (isl : s.heap.IsList l items) (it : PyProof.Rows.IntsAre items.toList ns) (few : ns.length + 1 < scanBound)
    (k : Filled w s ns (Q (.ref s.heap.objs.size))) : wpAny (model P w) A (call (.type "set") [.ref l]) Q E s := by
  obtain ⟨mc, ml, emro⟩ := F.called_set.mro
  have e1 := F.called_set.made
  have e2 := F.called_set.sub
  have e3 := F.called_set.notType
  have e4 := F.called_set.canCreate
  have e5 := F.typeCall_set_1 (.ref l)
  have e6 := F.called_set.init.lookup
  have e7 := F.called_set.init.bind (.ref s.heap.objs.size)
  have typed : Shared.TypeIs { s with heap := s.heap.push (eSet w) } (.ref s.heap.objs.size) "set" := ⟨_, Heap.get?_push_size _ rfl, rfl⟩
  apply wpAny_call
  apply codeAny_of_tree
  show wpAny _ _ (callAny (.type "set") _) _ _ _
  refine wpAny_pure ⟨Code.quiet_builtin _ (by decide +kernel), codeAny_builtin F.entry_type_call ?_⟩
  rw [Around.under_plain (weight_type_call_type "set" [.ref l] []) rfl]
  repeat (any_goals (first | assumption | wp_step))
  refine codeAny_mono (code_set_led1 (.ref l) (E := E) (Q₁ := fun x s' => x = .ref s.heap.objs.size ∧ s' = { s with heap := s.heap.push (eSet w) }) ⟨rfl, rfl⟩) ?_
  rintro (err | (x | _ | _ | _)) s' got
  all_goals first | exact got.elim | skip
  · exact got
  · obtain ⟨rfl, rfl⟩ := got
    repeat (any_goals (first | assumption | wp_step))
    refine codeAny_mono (init_of_list (B := A.in1) (E := E) (Y := fun v s' => v = .none ∧ ∃ h' tk c, s' = { s with heap := h', toks := tk } ∧ SetR w h' s.heap.objs.size (fun j => decide (j ∈ ns)) c ∧ c ≤ ns.length ∧ ∀ b o, s.heap.get? b = some o → h'.get? b = some o)
      (by simp [free]) isl it few fun h' tk c sr le keep => ⟨rfl, h', tk, c, rfl, sr, le, keep⟩) ?_
    rintro (err | (v | _ | _ | _)) s' got
    all_goals first | exact got.elim | skip
    · exact got
    · obtain ⟨rfl, h', tk, c, rfl, sr, le, keep⟩ := got
      repeat (any_goals (first | assumption | wp_step))
      exact k h' tk c sr le keep
end
/-- set(l), the rule -/
def rSetLi (K : PySem.W.Frag) (w : World) : List V → Hp → VK → Prop := fun xs H Q => ∃ (p : Addr) (ns : List Int), xs = [V.ref p] ∧ SqL K H p (ns.map V.int) ∧ ns.length ≤ 1000 ∧ ∀ (a : Addr) (c : Nat), H a = none → c ≤ ns.length → Q (.ref a) (upd H a (SetO w a (fun j => decide (j ∈ ns)) c))
theorem cr_setLi {X : Cx} {K : PySem.W.Frag} (hK : X.K = K) (calm : X.calm = true) : CallR X (.type "set") (rSetLi K X.w) := by
  subst hK
  rintro pins s σ H xs us Q I r ⟨p, ns, rfl, hp, le, q⟩
  cases r with
  | cons r1 r2 =>
    cases r2
    cases r1
    obtain ⟨its, rv, at_, _⟩ := I.list hp
    refine set_of_list (ns := ns) (I.ok.hd calm) at_.isList (ints_of_vals rv) (by unfold scanBound; omega) fun h' tk c sr le' keep => ?_
    exact ⟨.ref _, _, I.laid (t' := tk) keep (Nat.le_refl _) (setO_new sr), rfl, q _ _ (I.hok.fresh (Nat.le_refl _)) le'⟩
/-- sorted(set(l)) -/
theorem rd_setLi {K : PySem.W.Frag} {w : World} {p : Addr} {ns : List Int} {H : Hp} {Q : VK} (hp : SqL K H p (ns.map V.int)) (le : ns.length ≤ 1000) (k : ∀ (a : Addr) (c : Nat) (H' : Hp), c ≤ ns.length → Same H H' → H' a = some (SetO w a (fun j => decide (j ∈ ns)) c) → Q (.ref a) H') : rSetLi K w [V.ref p] H Q :=
  ⟨p, ns, rfl, hp, le, fun a c ha hc => k a c _ hc (fun b u e => by rw [upd_ne (ne_of_none e ha)]; exact e) upd_same⟩
theorem rd_sortedS {w : World} {a : Addr} {S : Int → Bool} {n : Nat} {H : Hp} {Q : VK} (e : H a = some (SetO w a S n)) (few : n < 64) (k : ∀ (ns : List Int) (p : Addr) (H' : Hp), ns.Pairwise (· < ·) → (∀ k : Int, k ∈ ns ↔ S k = true) → H p = none → Same H H' → H' p = some (.lst (ns.map V.int)) → Q (.ref p) H') : rSortedSet w [V.ref a] H Q :=
  ⟨a, S, n, rfl, e, few, fun ns p h1 h2 _ hp => k ns p _ h1 h2 hp (fun b u e => by rw [upd_ne (ne_of_none e hp)]; exact e) upd_same⟩

end Cs
namespace Cs
open PySem L2
open PyProof.Rows (envOfC)
def sp_isnum (K : PySem.W.Frag) : Sp := fun vs H Q _ => ∃ (v : V) (d : PyData) (lo : Int), vs = [v, .int lo] ∧ Dp K H v d ∧ Q (.bl (mWithin lo 4 d)) H
theorem use_isnum {K : PySem.W.Frag} {v : V} {d : PyData} {lo : Int} {H : Hp} {Q : VK} {E : XK} (h : Dp K H v d) (k : Q (.bl (mWithin lo 4 d)) H) : sp_isnum K [v, .int lo] H Q E := ⟨v, d, lo, rfl, h, k⟩
section
variable {P : Program} {w : World} {K : PySem.W.Frag} {mg : Str → Option Value} {base : Heap}
theorem ok_isnum (B : Blt mg) (F : At K mg "_law_is_number" s__law_is_number ["_law_value", "_law_low"]) : Cal P w K mg base 1 "_law_is_number" ["_law_value", "_law_low"] (sp_isnum K) := by
  refine F.ok sc__law_is_number (fun vs H Q E h => ?_) (fun f cdv A outer s H vs Q E hr h => ?_)
  · obtain ⟨v, d, lo, rfl, _⟩ := h
    rfl
  · obtain ⟨v, d, lo, rfl, hd, k⟩ := h
    refine ⟨_, (pss_one (ps_ret (pe_and (pe_callB (call_isiK' (K := K) (by rfl)) (by rfl) B.isinstance (by decide +kernel) (pa_cons (pv 0) (pa_cons (pe_ty (T := "int") B.int (by decide +kernel)) pa_nil))) (pe_and (pe_not (pe_callB (call_isiK' (K := K) (by rfl)) (by rfl) B.isinstance (by decide +kernel) (pa_cons (pv 0) (pa_cons (pe_ty (T := "bool") B.bool (by decide +kernel)) pa_nil)))) (pe_one (pe_chain op_le op_le (pv 1) (pv 0) pe_int)))))), ?_⟩
    walk_at "go"
    refine rd_isInt hd ?_
    walk_at "go"
    cases hd with
    | int i =>
      refine iteT ?_
      walk_at "go"
      refine rd_isBool (.int i) ?_
      walk_at "go"
      refine iteT ?_
      walk_at "go"
      refine ite2 (fun h1 => ?_) (fun h1 => ?_)
      · walk_at "go"
        have e : mWithin lo 4 (.int i) = decide (i ≤ 4) := by
          show (decide (lo ≤ i) && decide (i ≤ 4)) = decide (i ≤ 4)
          rw [h1]; rfl
        rw [e] at k; exact k
      · have h1' : decide (lo ≤ i) = false := by cases e : decide (lo ≤ i) <;> simp_all
        have e : mWithin lo 4 (.int i) = false := by
          show (decide (lo ≤ i) && decide (i ≤ 4)) = false
          rw [h1']; rfl
        rw [e] at k; exact k
    | bl b =>
      refine iteT ?_
      walk_at "go"
      refine rd_isBool (.bl b) ?_
      walk_at "go"
      exact iteF k
    | non => exact iteF k
    | str x => exact iteF k
    | lst _ _ => exact iteF k
    | tup _ _ => exact iteF k
end

end Cs
namespace Cs
open PySem L2
open PyProof.Rows (envOfC)
/-! what is counted of an expression: width, tuples, plain, right -/
def mvals (d : PyData) : List V := [.int (mW d), .int (mT d), .bl (mP d), .bl (mR d)]
inductive MsAll (H : Hp) : List V → List PyData → Prop
  | nil : MsAll H [] []
  | cons {p : Addr} {d : PyData} {vs : List V} {ds : List PyData} : H p = some (.tup (mvals d)) → MsAll H vs ds → MsAll H (.ref p :: vs) (d :: ds)
theorem MsAll.ts {H H' : Hp} (s : TS H H') : ∀ {vs : List V} {ds : List PyData}, MsAll H vs ds → MsAll H' vs ds
  | _, _, .nil => .nil
  | _, _, .cons e h => .cons (s _ _ e) (MsAll.ts s h)
theorem MsAll.snoc {H : Hp} {p : Addr} {d : PyData} (e : H p = some (.tup (mvals d))) : ∀ {vs : List V} {ds : List PyData}, MsAll H vs ds → MsAll H (vs ++ [.ref p]) (ds ++ [d])
  | _, _, .nil => .cons e .nil
  | _, _, .cons e' h => .cons e' (MsAll.snoc e h)
theorem MsAll.length {H : Hp} : ∀ {vs : List V} {ds : List PyData}, MsAll H vs ds → vs.length = ds.length
  | _, _, .nil => rfl
  | _, _, .cons _ h => by rw [List.length_cons, List.length_cons, MsAll.length h]
theorem MsAll.get {H : Hp} : ∀ {vs : List V} {ds : List PyData} {i : Nat} {v : V}, MsAll H vs ds → vs[i]? = some v → ∃ d p, ds[i]? = some d ∧ v = .ref p ∧ H p = some (.tup (mvals d))
  | _, _, _, _, .nil, e => by simp at e
  | _, _, 0, _, .cons h _, e => by
    simp at e; subst e; exact ⟨_, _, rfl, rfl, h⟩
  | _, _, i + 1, v, .cons _ t, e => by
    obtain ⟨d, p, a, b⟩ := MsAll.get (i := i) (v := v) t (by simpa using e)
    exact ⟨d, p, by simpa using a, b⟩
/-- [one[j] for one in found] -/
theorem lc_fields {K : PySem.W.Frag} {x0 x1 x2 x3 x4 x5 x6 x7 : Option V} {F D : Addr} {vs : List V} {ds : List PyData} {j : Int} {f : PyData → V} {H : Hp} {Qd : Hp → Prop} (e : H F = some (.lst vs)) (h : MsAll H vs ds) (hl : ds.length ≤ 100000) (hj : ∀ d, atI (mvals d) j = some (f d))
    (hD : H D = none) (k : ∀ H' : Hp, Same H H' → H' D = some (.lst (ds.map f)) → Qd H') :
    ∃ W : Nat → Nat → Hp → Prop, (∃ m, W 0 m (upd H D (.lst []))) ∧ ∀ i m H, W i m H →
      ((Itl K F).stop i H ∧ Qd H) ∨ ((Itl K F).go i H ∧ ∃ Nx : Hp → Prop, (∀ H', Nx H' → ∃ m', m' < m ∧ W (i + 1) m' H') ∧ ∀ y H', (Itl K F).yld i H y H' → gName 7 y (wipe [x0, x1, x2, x3, x4, x5, x6, x7] [7]) H' fun σ2 H2 => wipe σ2 [7] = wipe [x0, x1, x2, x3, x4, x5, x6, x7] [7] ∧ tYes σ2 H2 fun b H3 =>
        if b = true then tOp (rIxT K) (tVar 7) (tC (.int j)) σ2 H3 fun y H4 => ∃ acc, H4 D = some (.lst acc) ∧ acc.length < sizeLine ∧ Nx (upd H4 D (.lst (acc ++ [y]))) else Nx H3) := by
  refine lc_list (xs := vs) (fun i H' => H' D = some (.lst ((ds.take i).map f)) ∧ Same H H') ⟨upd_same, Same.lay hD⟩ (fun i H' _ z => SqL.of (z.2 _ _ e)) ?_ ?_
  · rintro i y H' hi ⟨eD, sm⟩
    obtain ⟨d, p, hd, rfl, ep⟩ := MsAll.get h hi
    walk_at "go"
    refine ⟨rfl, ?_⟩
    walk_at "go"
    refine rd_ixt (SqT.of (sm _ _ ep)) (hj d) ?_
    refine ⟨_, eD, by rw [List.length_map, List.length_take, PySem.sizeLine_eq]; omega, ?_, Same.lay2 sm hD⟩
    rw [upd_same, map_snoc f hd]
  · rintro H' ⟨eD, sm⟩
    rw [h.length, List.take_length] at eD
    exact k H' sm eD
theorem dp_tup {K : PySem.W.Frag} {H : Hp} {v : V} {ds : List PyData} (h : Dp K H v (.tuple ds)) : ∃ a ys, v = .ref a ∧ SqT K H a ys ∧ DpAll K H ys ds := by
  cases h with
  | tup e h => exact ⟨_, _, rfl, e, h⟩
/-- a statement by itself, with what is known behind it -/
theorem rd_cut {t : L2.TS} {D : Ends} {σ : St} {H : Hp} (C : St → Hp → Prop) (rest : ∀ σ H, C σ H → D.nx σ H) (h : ∀ D' : Ends, (∀ σ H, C σ H → D'.nx σ H) → t D' σ H) : t D σ H := h D rest
def sp_measures (K : PySem.W.Frag) (al : List Nat) (n : Nat) : Sp := fun vs H Q _ => ∃ (v : V) (d : PyData), vs = [v] ∧ Dp K H v d ∧ mF al d = true ∧ mD d ≤ n ∧ mN d ≤ 100000 ∧ ∀ (p : Addr) (H' : Hp), Same H H' → H' p = some (.tup (mvals d)) → Q (.ref p) H'
theorem use_measures {K : PySem.W.Frag} {al : List Nat} {n : Nat} {v : V} {d : PyData} {H : Hp} {Q : VK} {E : XK} (h : Dp K H v d) (hF : mF al d = true) (hD : mD d ≤ n) (hN : mN d ≤ 100000) (k : ∀ (p : Addr) (H' : Hp), Same H H' → H' p = some (.tup (mvals d)) → Q (.ref p) H') : sp_measures K al n [v] H Q E := ⟨v, d, rfl, h, hF, hD, hN, k⟩
theorem filter_all {α : Type} {p : α → Bool} {l : List α} (h : ∀ x ∈ l, p x = true) : l.filter p = l := List.filter_eq_self.mpr h
theorem rel_filter {al : List Nat} {w : Str} {ps : List PyData} (ns : w ≠ kS "set") (hP : ∀ p ∈ rel w ps, mF al p = true) (h3 : w = kS "again" → mThree ps = true) : ps.filter isTup = rel w ps := by
  have tp : ∀ p ∈ rel w ps, isTup p = true := fun p hp => by
    obtain ⟨_, _, rfl, _⟩ := mF_form (hP p hp)
    rfl
  by_cases ha : w = kS "again"
  · obtain ⟨p, l, hi, rfl, _, _, hh⟩ := mThree_form (h3 ha)
    have er : rel w [p, .int l, hi] = [p] := by unfold rel; rw [if_neg ns, if_pos ha]; rfl
    rw [er] at tp ⊢
    have t1 := tp p (by simp)
    have t2 : isTup hi = false := by rcases hh with rfl | ⟨m, rfl, _⟩ <;> rfl
    rw [List.filter_cons, if_pos t1, List.filter_cons, if_neg (by show ¬ false = true; simp), List.filter_cons, if_neg (by rw [t2]; simp)]; rfl
  · have er : rel w ps = ps := by unfold rel; rw [if_neg ns, if_neg ha]
    rw [er] at tp ⊢
    exact filter_all tp
theorem cast_sum (f : PyData → Nat) : ∀ l : List PyData, ((l.map fun d => ((f d : Nat) : Int)).sum : Int) = ((l.map f).sum : Nat)
  | [] => rfl
  | d :: l => by
    rw [List.map_cons, List.map_cons, List.sum_cons, List.sum_cons, cast_sum f l]; omega
theorem in_plain {w : Str} (hw : w = kS "set" ∨ w = kS "not" ∨ w = kS "again" ∨ w = kS "row" ∨ w = kS "any" ∨ w = kS "all") (ns : w ≠ kS "set") : inV (.str w) [V.str (kS "row"), .str (kS "any"), .str (kS "again")] = !isBar w := by
  rcases hw with rfl | rfl | rfl | rfl | rfl | rfl
  · exact absurd rfl ns
  all_goals decide +kernel
theorem in_row {w : Str} (hw : w = kS "set" ∨ w = kS "not" ∨ w = kS "again" ∨ w = kS "row" ∨ w = kS "any" ∨ w = kS "all") : inV (.str w) [V.str (kS "row"), .str (kS "again")] = isRow w := by
  rcases hw with rfl | rfl | rfl | rfl | rfl | rfl <;> decide +kernel
section
variable {P : Program} {w : World} {K : PySem.W.Frag} {mg : Str → Option Value} {base : Heap}
theorem ok_measures (B : Blt mg) (F : At K mg "_law_measures" s__law_measures ["_law_value"]) (al : List Nat) : ∀ n : Nat, Cal P w K mg base (n + 1) "_law_measures" ["_law_value"] (sp_measures K al n) := by
  intro n
  induction n with
  | zero =>
    refine F.ok (k := 0) sc__law_measures (fun vs H Q E h => ?_) (fun f cdv A outer s H vs Q E hr h => ?_)
    · obtain ⟨v, d, rfl, _⟩ := h
      rfl
    · obtain ⟨v, d, rfl, _, hF, hD, _⟩ := h
      obtain ⟨w', ps, rfl, _⟩ := mF_form hF
      rw [mD_eq] at hD
      omega
  | succ n G__law_measures =>
    refine F.ok (k := n + 1) sc__law_measures (fun vs H Q E h => ?_) (fun f cdv A outer s H vs Q E hr h => ?_)
    · obtain ⟨v, d, rfl, _⟩ := h
      rfl
    · obtain ⟨v, d, rfl, hd, hF, hD, hN, k⟩ := h
      obtain ⟨w', ps, rfl, hW, hP⟩ := mF_form hF
      obtain ⟨_, _, e0, hw, _, _, h3⟩ := mWF_form hW
      injection e0 with e0
      injection e0 with e1 e2
      injection e1 with e1
      subst e1 e2
      refine ⟨_, (pss_cons (ps_set (i := 1) sc__law_measures.nd rfl (Or.inl rfl) (pe_ix (ix_tupK (K := K) (by rfl)) (pv 0) pe_int (fun _ _ => rfl)))
    (pss_cons (ps_if (pt_cmpR op_eq (pv 1) pe_str (nomark _))
    (pss_one (ps_ret (pe_tup (pa_cons pe_int (pa_cons pe_int (pa_cons pe_bl (pa_cons pe_bl pa_nil)))))))
    pss_nil)
    (pss_cons (ps_setLc (i := 2) (own := [("_law_part", 6)]) rfl sc__law_measures.nd rfl rfl (sw_true rfl rfl rfl (by decide +kernel)) (pi_tupK (K := K) (by rfl) (pe_slice (sl_tupAK (K := K) (by rfl)) (pv 0) (po_some pe_int) po_none)) (blkOk_by (N := ["_law_value", "_law_word", "_law_found", "_law_wide", "_law_plain_here", "_law_right", "_law_part", "_law_one"]) (sc := defScope s__law_measures) (by decide +kernel)) (fun _ _ _ _ _ => (pg_name (i := 6) sc__law_measures.nd rfl (Or.inl rfl))) (fun _ _ _ _ _ => (pts_one (pt_val (pe_callB (call_isiK' (K := K) (by rfl)) (by rfl) B.isinstance (by decide +kernel) (pa_cons (pv 6) (pa_cons (pe_ty (T := "tuple") B.tuple (by decide +kernel)) pa_nil)))))) (fun _ _ _ _ _ => (pe_c G__law_measures (hr.mono (by first | decide | omega)) (pa_cons (pv 6) pa_nil))))
    (pss_cons (ps_set (i := 3) sc__law_measures.nd rfl (Or.inl rfl) (pe_callB (call_max2 rfl) (by rfl) B.max (by decide +kernel) (pa_cons pe_int (pa_cons (pe_callB (cr_sumK (K := K) (by rfl) rfl) (by rfl) B.sum (by decide +kernel) (pa_cons (pe_lc (own := [("_law_one", 7)]) rfl sc__law_measures.nd (pi_listK (K := K) (by rfl) (pv 2)) (blkOk_by (N := ["_law_value", "_law_word", "_law_found", "_law_wide", "_law_plain_here", "_law_right", "_law_part", "_law_one"]) (sc := defScope s__law_measures) (by decide +kernel)) (fun _ _ _ _ _ => (pg_name (i := 7) sc__law_measures.nd rfl (Or.inl rfl))) (fun _ _ _ _ _ => pts_nil) (fun _ _ _ _ _ => (pe_ix (ix_tupK (K := K) (by rfl)) (pv 7) pe_int (fun _ _ => rfl)))) pa_nil)) pa_nil))))
    (pss_cons (ps_if (pt_cmpR op_eq (pv 1) pe_str (nomark _))
    (pss_one (ps_set (i := 3) sc__law_measures.nd rfl (Or.inl rfl) (pe_op op_mul (pv 3) (pe_callB (call_max2 rfl) (by rfl) B.max (by decide +kernel) (pa_cons pe_int (pa_cons (pe_ifExp (pt_cmpR op_isN (pe_ix (ix_tupK (K := K) (by rfl)) (pv 0) pe_int (fun _ _ => rfl)) pe_non (nomark _)) (pe_op op_add (pe_ix (ix_tupK (K := K) (by rfl)) (pv 0) pe_int (fun _ _ => rfl)) pe_int) (pe_ix (ix_tupK (K := K) (by rfl)) (pv 0) pe_int (fun _ _ => rfl))) pa_nil))))))
    pss_nil)
    (pss_cons (ps_set (i := 4) sc__law_measures.nd rfl (Or.inl rfl) (pe_and (pe_cmpR (op_in_seqK (K := K) (by rfl)) (pv 1) (pe_tup (pa_cons pe_str (pa_cons pe_str (pa_cons pe_str pa_nil)))) (by first | rfl | decide)) (pe_one (pe_callB (cr_allK (K := K) (by rfl) rfl) (by rfl) B.all (by decide +kernel) (pa_cons (pe_lc (own := [("_law_one", 7)]) rfl sc__law_measures.nd (pi_listK (K := K) (by rfl) (pv 2)) (blkOk_by (N := ["_law_value", "_law_word", "_law_found", "_law_wide", "_law_plain_here", "_law_right", "_law_part", "_law_one"]) (sc := defScope s__law_measures) (by decide +kernel)) (fun _ _ _ _ _ => (pg_name (i := 7) sc__law_measures.nd rfl (Or.inl rfl))) (fun _ _ _ _ _ => pts_nil) (fun _ _ _ _ _ => (pe_ix (ix_tupK (K := K) (by rfl)) (pv 7) pe_int (fun _ _ => rfl)))) pa_nil)))))
    (pss_cons (ps_set (i := 5) sc__law_measures.nd rfl (Or.inl rfl) (pe_ifExp (pt_cmpR (op_in_seqK (K := K) (by rfl)) (pv 1) (pe_tup (pa_cons pe_str (pa_cons pe_str pa_nil))) (by first | rfl | decide)) (pv 4) (pe_callB (cr_allK (K := K) (by rfl) rfl) (by rfl) B.all (by decide +kernel) (pa_cons (pe_lc (own := [("_law_one", 7)]) rfl sc__law_measures.nd (pi_listK (K := K) (by rfl) (pv 2)) (blkOk_by (N := ["_law_value", "_law_word", "_law_found", "_law_wide", "_law_plain_here", "_law_right", "_law_part", "_law_one"]) (sc := defScope s__law_measures) (by decide +kernel)) (fun _ _ _ _ _ => (pg_name (i := 7) sc__law_measures.nd rfl (Or.inl rfl))) (fun _ _ _ _ _ => pts_nil) (fun _ _ _ _ _ => (pe_ix (ix_tupK (K := K) (by rfl)) (pv 7) pe_int (fun _ _ => rfl)))) pa_nil))))
    (pss_one (ps_ret (pe_tup (pa_cons (pv 3) (pa_cons (pe_op op_add pe_int (pe_callB (cr_sumK (K := K) (by rfl) rfl) (by rfl) B.sum (by decide +kernel) (pa_cons (pe_lc (own := [("_law_one", 7)]) rfl sc__law_measures.nd (pi_listK (K := K) (by rfl) (pv 2)) (blkOk_by (N := ["_law_value", "_law_word", "_law_found", "_law_wide", "_law_plain_here", "_law_right", "_law_part", "_law_one"]) (sc := defScope s__law_measures) (by decide +kernel)) (fun _ _ _ _ _ => (pg_name (i := 7) sc__law_measures.nd rfl (Or.inl rfl))) (fun _ _ _ _ _ => pts_nil) (fun _ _ _ _ _ => (pe_ix (ix_tupK (K := K) (by rfl)) (pv 7) pe_int (fun _ _ => rfl)))) pa_nil))) (pa_cons (pv 4) (pa_cons (pv 5) pa_nil)))))))))))))), ?_⟩
      obtain ⟨a, ys, rfl, hs, hy⟩ := dp_tup hd
      cases hy with
      | @cons v0 xs _ _ h0 hx =>
        cases h0
        walk_at "go"
        refine rd_ixt hs (at_of (j := 0) rfl rfl) ?_
        walk_at "go"
        rw [dec_S]
        refine ite2 (fun h1 => ?_) (fun h1 => ?_)
        · have n1 : w' = kS "set" := by simpa using h1
          walk_at "go"
          refine ⟨by show 4 ≤ sizeLine; decide, rd_new fun p H' hp e sm => ?_⟩
          walk_at "go"
          have er : rel w' ps = [] := by unfold rel; rw [if_pos n1]
          refine k p H' sm (e.trans ?_)
          unfold mvals
          rw [mW_eq, mT_eq, mP_eq, mR_eq, er, n1]
          rfl
        · have n1 : w' ≠ kS "set" := by simpa using h1
          have rf := rel_filter n1 hP h3
          walk_at "go"
          refine rd_sla hs (fun z => ?_) (fun _ => ?_)
          · exfalso
            have z1 := z.1
            have e : HT.sIx (V.str w' :: xs).length 0 (some 1) = 1 := by
              show HT.sIx (V.str w' :: xs).length 0 (some ((1 : Nat) : Int)) = 1
              rw [HT.sIx_nat, List.length_cons]; omega
            omega
          rw [cut1]
          refine rd_new fun T H1 hT eT sm1 => ?_
          walk_at "go"
          refine ⟨T, rfl, ⟨_, SqT.of eT⟩, ?_⟩
          intro D hD
          have hlen : (rel w' ps).length ≤ 100000 := Nat.le_trans mN_len hN
          refine lc_tup (xs := xs) (fun i H' => ∃ vs, H' D = some (.lst vs) ∧ MsAll H' vs ((ps.take i).filter isTup) ∧ Same H1 H') ⟨[], upd_same, .nil, Same.lay hD⟩ (fun i H' _ z => by obtain ⟨_, _, _, z⟩ := z; exact SqT.of (z _ _ eT)) ?_ ?_
          · rintro i y H' hi ⟨vs, eD, hm, sm⟩
            obtain ⟨dp, hdp, hy⟩ := DpAll.get hx hi
            have hy' := Dp.mono (L2.Same.trans sm1 sm) hy
            walk_at "go"
            refine ⟨rfl, ?_⟩
            walk_at "go"
            refine rd_isTup hy' ?_
            walk_at "go"
            refine ite2 (fun h2 => ?_) (fun h2 => ?_)
            · have hmem : dp ∈ rel w' ps := by
                rw [← rf]
                exact List.mem_filter.mpr ⟨List.mem_of_getElem? hdp, h2⟩
              walk_at "go"
              refine use_measures hy' (hP dp hmem) (by have := mD_part hmem; omega) (Nat.le_trans (mN_part hmem) hN) fun p H2 sm2 ep => ?_
              have eD2 := sm2 _ _ eD
              have t2 : TS H2 (upd H2 D (.lst (vs ++ [.ref p]))) := TS.set eD2
              have lv : vs.length ≤ 100000 := by
                rw [hm.length]
                refine Nat.le_trans ?_ hlen
                rw [← rf]
                exact (List.Sublist.filter isTup (List.take_sublist i ps)).length_le
              refine ⟨vs, eD2, by rw [PySem.sizeLine_eq]; omega, vs ++ [.ref p], upd_same, ?_, Same.lay2 (L2.Same.trans sm sm2) hD⟩
              rw [filter_snoc hdp, if_pos h2]
              exact ((hm.ts (TS.same sm2)).snoc ep).ts t2
            · refine ⟨vs, eD, ?_, sm⟩
              rw [filter_snoc hdp, if_neg h2, List.append_nil]; exact hm
          · rintro H3 ⟨vs, eD, hm, sm⟩
            rw [DpAll.length hx, List.take_length, rf] at hm
            have smA : Same H H3 := L2.Same.trans sm1 sm
            walk_at "go"
            refine ⟨D, rfl, ⟨_, SqL.of eD⟩, ?_⟩
            intro D1 hD1
            refine lc_fields (f := fun d => .int (mW d)) eD hm hlen (fun _ => rfl) hD1 fun H4 sm4 e4 => ?_
            have eD4 := sm4 _ _ eD
            have hm4 := hm.ts (TS.same sm4)
            walk_at "go"
            refine rd_sum (ns := (rel w' ps).map mW) (SqL.of (by rw [e4, List.map_map]; rfl)) ?_
            walk_at "go"
            refine ⟨_, _, rfl, ?_⟩
            obtain ⟨wd, hwd⟩ : ∃ wd : Int, wd = m1 ((rel w' ps).map mW).sum := ⟨_, rfl⟩
            rw [show (if ((rel w' ps).map mW).sum > 1 then ((rel w' ps).map mW).sum else 1) = wd from hwd.symm]
            have sm04 : Same H H4 := L2.Same.trans smA sm4
            have fT : 1 + ((rel w' ps).map mT).sum = mT (.tuple (.str w' :: ps)) := (mT_eq w' ps).symm
            have fP : (!isBar w' && ((rel w' ps).map mP).all id) = mP (.tuple (.str w' :: ps)) := (mP_eq w' ps).symm
            have fR : (if isRow w' then (rel w' ps).all mP else (rel w' ps).all mR) = mR (.tuple (.str w' :: ps)) := (mR_eq w' ps).symm
            have fW : ∀ u, u = (if w' = kS "again" then wd * mFac ps else wd) → u = mW (.tuple (.str w' :: ps)) := fun u e => by
              rw [e, mW_eq, hwd]
            have ip := in_plain hw n1
            have ir := in_row hw
            have hW0 : mThree ps = true ∨ w' ≠ kS "again" := by
              by_cases z : w' = kS "again"
              · exact .inl (h3 z)
              · exact .inr z
            have hs4 := Same.seqT sm04 hs
            clear rf
            revert k fT fP fR fW hm4 hlen
            generalize rel w' ps = rs
            generalize hd0 : PyData.tuple (.str w' :: ps) = d
            intro k hlen hm4 fT fP fR fW
            with_reducible refine rd_gname ?_
            with_reducible refine rd_seq ?_
            refine rd_cut (t := tIfS _ _ _) (fun σ' H' => ∃ u : Int, u = mW d ∧ σ' = [some (.ref a), some (.str w'), some (.ref D), some (.int u), none, none, none, none] ∧ H' D = some (.lst vs) ∧ MsAll H' vs rs ∧ Same H H') ?rest ?here
            case here =>
              intro D' fin
              walk_at "go"
              rw [dec_S]
              refine ite2 (fun h5 => ?_) (fun h5 => ?_)
              · have w1 : w' = kS "again" := by simpa using h5
                obtain ⟨pp, l, hi, rfl, l0, l4, hh⟩ := mThree_form (h3 w1)
                obtain ⟨v1, v2, v3, d1, d2, d3, rfl, e3, a1, a2, a3⟩ := dpAll3 hx (DpAll.length hx)
                injection e3 with e3 e5
                injection e5 with e5 e6
                injection e6 with e6 _
                subst e3 e5 e6
                cases a2
                walk_at "go"
                refine rd_ixt hs4 (at_of (j := 3) rfl rfl) ?_
                walk_at "go"
                rcases hh with rfl | ⟨m, rfl, m0, m4⟩
                · cases a3
                  refine ⟨rfl, ?_⟩
                  walk_at "go"
                  refine iteT ?_
                  walk_at "go"
                  refine rd_ixt hs4 (at_of (j := 2) rfl rfl) ?_
                  walk_at "go"
                  refine ⟨_, _, rfl, ?_⟩
                  have hl : (if l + 1 > 1 then l + 1 else 1) = l + 1 := by split <;> omega
                  rw [hl]
                  refine rd_i (C := CMul) (a := wd) (b := l + 1) (.inr ⟨by omega, by omega⟩) ?_
                  exact fin _ _ ⟨_, fW _ (by rw [if_pos w1]; rfl), rfl, eD4, hm4, sm04⟩
                · cases a3
                  refine ⟨rfl, ?_⟩
                  walk_at "go"
                  refine iteF ?_
                  walk_at "go"
                  refine rd_ixt hs4 (at_of (j := 3) rfl rfl) ?_
                  walk_at "go"
                  refine ⟨_, _, rfl, ?_⟩
                  obtain ⟨mm, hmm⟩ : ∃ mm : Int, mm = m1 m := ⟨_, rfl⟩
                  rw [show (if m > 1 then m else 1) = mm from hmm.symm]
                  have hb : 1 ≤ mm ∧ mm ≤ 4 := by rw [hmm]; unfold m1; split <;> omega
                  refine rd_i (C := CMul) (a := wd) (b := mm) (.inr ⟨by omega, by omega⟩) ?_
                  exact fin _ _ ⟨_, fW _ (by rw [if_pos w1, hmm]; rfl), rfl, eD4, hm4, sm04⟩
              · have n2 : ¬ w' = kS "again" := by simpa using h5
                walk_at "go"
                exact fin _ _ ⟨_, fW _ (by rw [if_neg n2]), rfl, eD4, hm4, sm04⟩
            case rest =>
              rintro σ5 H5 ⟨u, hu, rfl, eD5, hm5, sm05⟩
              with_reducible refine rd_seq ?_
              refine rd_cut (t := tAsg _ _) (fun σ' H' => σ' = [some (.ref a), some (.str w'), some (.ref D), some (.int u), some (.bl (mP d)), none, none, none] ∧ H' D = some (.lst vs) ∧ MsAll H' vs rs ∧ Same H H') ?rest ?here
              case here =>
                intro D' fin
                walk_at "go"
                refine ⟨by show 3 ≤ sizeLine; decide, rd_new fun T2 H6 hT2 eT2 sm6 => ?_⟩
                walk_at "go"
                refine rd_in (.inr (SqT.of eT2)) rfl rfl ?_
                rw [if_neg Bool.false_ne_true, ip]
                have sm06 := L2.Same.trans sm05 sm6
                have eD6 := sm6 _ _ eD5
                have hm6 := hm5.ts (TS.same sm6)
                walk_at "go"
                refine ite2 (fun hb => ?_) (fun hb => ?_)
                · walk_at "go"
                  refine ⟨D, rfl, ⟨_, SqL.of eD6⟩, ?_⟩
                  intro D7 hD7
                  refine lc_fields (f := fun d => .bl (mP d)) eD6 hm6 hlen (fun _ => rfl) hD7 fun H7 sm7 e7 => ?_
                  walk_at "go"
                  refine rd_all (ns := rs.map mP) (SqL.of (by rw [e7, List.map_map]; rfl)) ?_
                  have hP2 : (rs.map mP).all id = mP d := by rw [← fP, hb]; simp
                  rw [hP2]
                  exact fin _ _ ⟨rfl, sm7 _ _ eD6, hm6.ts (TS.same sm7), L2.Same.trans sm06 sm7⟩
                · have hb' : isBar w' = true := by
                    cases z : isBar w' with
                    | true => rfl
                    | false => rw [z] at hb; exact absurd rfl hb
                  have hP2 : false = mP d := by rw [← fP, hb']; rfl
                  walk_at "go"
                  rw [hP2]
                  exact fin _ _ ⟨rfl, eD6, hm6, sm06⟩
              case rest =>
                rintro σ6 H6 ⟨rfl, eD6, hm6, sm06⟩
                with_reducible refine rd_seq ?_
                refine rd_cut (t := tAsg _ _) (fun σ' H' => σ' = [some (.ref a), some (.str w'), some (.ref D), some (.int u), some (.bl (mP d)), some (.bl (mR d)), none, none] ∧ H' D = some (.lst vs) ∧ MsAll H' vs rs ∧ Same H H') ?rest ?here
                case here =>
                  intro D' fin
                  walk_at "go"
                  refine ⟨by show 2 ≤ sizeLine; decide, rd_new fun T2 H7 hT2 eT2 sm7 => ?_⟩
                  walk_at "go"
                  refine rd_in (.inr (SqT.of eT2)) rfl rfl ?_
                  rw [if_neg Bool.false_ne_true, ir]
                  have sm07 := L2.Same.trans sm06 sm7
                  have eD7 := sm7 _ _ eD6
                  have hm7 := hm6.ts (TS.same sm7)
                  walk_at "go"
                  refine ite2 (fun hb => ?_) (fun hb => ?_)
                  · walk_at "go"
                    have hR2 : mP d = mR d := by
                      rw [← fR, if_pos hb, ← fP]
                      have : isBar w' = false := by
                        rcases hw with rfl | rfl | rfl | rfl | rfl | rfl <;> first | (revert hb; decide +kernel) | decide +kernel
                      rw [this, List.all_map]; rfl
                    rw [hR2]
                    exact fin _ _ ⟨by rw [hR2]; rfl, eD7, hm7, sm07⟩
                  · walk_at "go"
                    refine ⟨D, rfl, ⟨_, SqL.of eD7⟩, ?_⟩
                    intro D8 hD8
                    refine lc_fields (f := fun d => .bl (mR d)) eD7 hm7 hlen (fun _ => rfl) hD8 fun H8 sm8 e8 => ?_
                    walk_at "go"
                    refine rd_all (ns := rs.map mR) (SqL.of (by rw [e8, List.map_map]; rfl)) ?_
                    have hR2 : (rs.map mR).all id = mR d := by rw [← fR, if_neg hb, List.all_map]; rfl
                    rw [hR2]
                    exact fin _ _ ⟨rfl, sm8 _ _ eD7, hm7.ts (TS.same sm8), L2.Same.trans sm07 sm8⟩
                case rest =>
                  rintro σ7 H7 ⟨rfl, eD7, hm7, sm07⟩
                  walk_at "go"
                  refine ⟨D, rfl, ⟨_, SqL.of eD7⟩, ?_⟩
                  intro D8 hD8
                  refine lc_fields (f := fun d => .int (mT d)) eD7 hm7 hlen (fun _ => rfl) hD8 fun H8 sm8 e8 => ?_
                  walk_at "go"
                  refine rd_sum (ns := rs.map fun d => ((mT d : Nat) : Int)) (SqL.of (by rw [e8, List.map_map]; rfl)) ?_
                  walk_at "go"
                  refine ⟨by show 4 ≤ sizeLine; decide, rd_new fun p H9 hp eP sm9 => ?_⟩
                  walk_at "go"
                  refine k p H9 (L2.Same.trans sm07 (L2.Same.trans sm8 sm9)) ?_
                  rw [eP]
                  unfold mvals
                  have hT2 : (1 : Int) + (rs.map fun d => ((mT d : Nat) : Int)).sum = ((mT d : Nat) : Int) := by rw [cast_sum, ← fT]; omega
                  rw [hT2, hu]
end

end Cs
namespace Cs
open PySem L2
open PyProof.Rows (envOfC)
theorem in_four {w : Str} : inV (.str w) [V.str (kS "row"), .str (kS "any"), .str (kS "all"), .str (kS "not")] = (decide (w = kS "row") || (decide (w = kS "any") || (decide (w = kS "all") || decide (w = kS "not")))) := by
  show ((kS "row" == w) || ((kS "any" == w) || ((kS "all" == w) || ((kS "not" == w) || false)))) = _
  rw [Bool.or_false, beq_dec, beq_dec, beq_dec, beq_dec]
def sp_fits (K : PySem.W.Frag) (n : Nat) : Sp := fun vs H Q _ => ∃ (al : List Nat) (v : V) (d : PyData), vs = [.str (S al), v] ∧ Alp al ∧ Dp K H v d ∧ Bd n d ∧ ∀ H', Same H H' → Q (.bl (mF al d)) H'
theorem use_fits {K : PySem.W.Frag} {n : Nat} {al : List Nat} {v : V} {d : PyData} {H : Hp} {Q : VK} {E : XK} (hA : Alp al) (h : Dp K H v d) (hB : Bd n d) (k : ∀ H', Same H H' → Q (.bl (mF al d)) H') : sp_fits K n [.str (S al), v] H Q E := ⟨al, v, d, rfl, hA, h, hB, k⟩
section
variable {P : Program} {w : World} {K : PySem.W.Frag} {mg : Str → Option Value} {base : Heap}
theorem ok_fits (B : Blt mg) (G__law_is_number : Cal P w K mg base 1 "_law_is_number" ["_law_value", "_law_low"] (sp_isnum K)) (F : At K mg "_law_fits" s__law_fits ["_law_alphabet_here", "_law_value"]) : ∀ n : Nat, Cal P w K mg base (n + 2) "_law_fits" ["_law_alphabet_here", "_law_value"] (sp_fits K n) := by
  have step : ∀ (n : Nat) (q : Sp), Cal P w K mg base (n + 1) "_law_fits" ["_law_alphabet_here", "_law_value"] q → (∀ m, n = m + 1 → q = sp_fits K m) → Cal P w K mg base (n + 2) "_law_fits" ["_law_alphabet_here", "_law_value"] (sp_fits K n) := by
    intro n q G__law_fits hq
    refine F.ok (k := n + 1) sc__law_fits (fun vs H Q E h => ?_) (fun f cdv A outer s H vs Q E hr h => ?_)
    · obtain ⟨al, v, d, rfl, _⟩ := h
      rfl
    · obtain ⟨al, v, d, rfl, hA, hd, hB, k⟩ := h
      have same := Same.refl H
      refine ⟨_, (pss_cons (ps_if (PW.pt (pw_or (pt_not (pt_val (pe_callB (call_isiK' (K := K) (by rfl)) (by rfl) B.isinstance (by decide +kernel) (pa_cons (pv 1) (pa_cons (pe_ty (T := "tuple") B.tuple (by decide +kernel)) pa_nil))))) (pw_or (pt_cmpR op_eq (pe_callB (call_len_seqK (K := K) (by rfl)) (by rfl) B.len PySem.boot_len (pa_cons (pv 1) pa_nil)) pe_int (nomark _)) (pw_or1 (pt_not (pt_val (pe_callB (call_isiK' (K := K) (by rfl)) (by rfl) B.isinstance (by decide +kernel) (pa_cons (pe_ix (ix_tupK (K := K) (by rfl)) (pv 1) pe_int (fun _ _ => rfl)) (pa_cons (pe_ty (T := "str") B.str (by decide +kernel)) pa_nil)))))))))
    (pss_one (ps_ret pe_bl))
    pss_nil)
    (pss_cons (ps_par (i := 2) (j := 3) (by rfl) sc__law_fits.nd rfl rfl (by decide) rfl rfl (pa_cons (pe_ix (ix_tupK (K := K) (by rfl)) (pv 1) pe_int (fun _ _ => rfl)) (pa_cons (pe_slice (sl_tupAK (K := K) (by rfl)) (pv 1) (po_some pe_int) po_none) pa_nil)) (by rfl))
    (pss_cons (ps_if (pt_cmpR op_eq (pv 2) pe_str (nomark _))
    (pss_cons (ps_if (PW.pt (pw_or (pt_cmpR op_ne (pe_callB (call_len_seqK (K := K) (by rfl)) (by rfl) B.len PySem.boot_len (pa_cons (pv 3) pa_nil)) pe_int (nomark _)) (pw_or1 (pt_not (pt_val (pe_callB (call_isiK' (K := K) (by rfl)) (by rfl) B.isinstance (by decide +kernel) (pa_cons (pe_ix (ix_tupK (K := K) (by rfl)) (pv 3) pe_int (fun _ _ => rfl)) (pa_cons (pe_ty (T := "str") B.str (by decide +kernel)) pa_nil))))))))
    (pss_one (ps_ret pe_bl))
    pss_nil)
    (pss_cons (ps_setLc (i := 4) (own := [("_law_character", 5)]) rfl sc__law_fits.nd rfl rfl (sw_true rfl rfl rfl (by decide +kernel)) (pi_str (pe_ix (ix_tupK (K := K) (by rfl)) (pv 3) pe_int (fun _ _ => rfl))) (blkOk_by (N := ["_law_alphabet_here", "_law_value", "_law_word", "_law_parts", "_law_places", "_law_character", "_law_part"]) (sc := defScope s__law_fits) (by decide +kernel)) (fun _ _ _ _ _ => (pg_name (i := 5) sc__law_fits.nd rfl (Or.inl rfl))) (fun _ _ _ _ _ => pts_nil) (fun _ _ _ _ _ => (pe_bmK (K := K) (by rfl) PySem.F.plainAttrs_str PySem.F.slot_str_find PySem.F.type_str_find mt_find (pv 0) (pa_cons (pv 5) pa_nil))))
    (pss_one (ps_ret (pe_and (pe_cmpR (op_notIn_seqK (K := K) (by rfl)) (pe_un un_neg pe_int) (pv 4) (by first | rfl | decide)) (pe_one (pe_cmpR (op_eqDK (K := K) (by rfl) hr.units) (pv 4) (pe_callB (cr_sortedSet rfl) (by rfl) B.sorted (by decide +kernel) (pa_cons (pe_callTy (cr_setLi (K := K) (by rfl) rfl) (by rfl) B.set (by decide +kernel) (pa_cons (pv 4) pa_nil)) pa_nil)) (nomark _))))))))
    pss_nil)
    (pss_cons (ps_if (pt_cmpR op_eq (pv 2) pe_str (nomark _))
    (pss_cons (ps_if (PW.pt (pw_or (pt_cmpR op_ne (pe_callB (call_len_seqK (K := K) (by rfl)) (by rfl) B.len PySem.boot_len (pa_cons (pv 3) pa_nil)) pe_int (nomark _)) (pw_or (pt_not (pt_val (pe_c G__law_fits (hr.mono (by first | decide | omega)) (pa_cons (pv 0) (pa_cons (pe_ix (ix_tupK (K := K) (by rfl)) (pv 3) pe_int (fun _ _ => rfl)) pa_nil))))) (pw_or1 (pt_not (pt_val (pe_c G__law_is_number (hr.mono (by first | decide | omega)) (pa_cons (pe_ix (ix_tupK (K := K) (by rfl)) (pv 3) pe_int (fun _ _ => rfl)) (pa_cons pe_int pa_nil)))))))))
    (pss_one (ps_ret pe_bl))
    pss_nil)
    (pss_one (ps_ret (pe_or (pe_cmpR op_isN (pe_ix (ix_tupK (K := K) (by rfl)) (pv 3) pe_int (fun _ _ => rfl)) pe_non (nomark _)) (pe_one (pe_c G__law_is_number (hr.mono (by first | decide | omega)) (pa_cons (pe_ix (ix_tupK (K := K) (by rfl)) (pv 3) pe_int (fun _ _ => rfl)) (pa_cons (pe_ix (ix_tupK (K := K) (by rfl)) (pv 3) pe_int (fun _ _ => rfl)) pa_nil))))))))
    pss_nil)
    (pss_cons (ps_if (PW.pt (pw_and (pt_cmpR op_eq (pv 2) pe_str (nomark _)) (pw_and1 (pt_cmpR op_ne (pe_callB (call_len_seqK (K := K) (by rfl)) (by rfl) B.len PySem.boot_len (pa_cons (pv 3) pa_nil)) pe_int (nomark _)))))
    (pss_one (ps_ret pe_bl))
    pss_nil)
    (pss_one (ps_ret (pe_and (pe_cmpR (op_in_seqK (K := K) (by rfl)) (pv 2) (pe_tup (pa_cons pe_str (pa_cons pe_str (pa_cons pe_str (pa_cons pe_str pa_nil))))) (by first | rfl | decide)) (pe_one (pe_callB (cr_allK (K := K) (by rfl) rfl) (by rfl) B.all (by decide +kernel) (pa_cons (pe_lc (own := [("_law_part", 6)]) rfl sc__law_fits.nd (pi_tupK (K := K) (by rfl) (pv 3)) (blkOk_by (N := ["_law_alphabet_here", "_law_value", "_law_word", "_law_parts", "_law_places", "_law_character", "_law_part"]) (sc := defScope s__law_fits) (by decide +kernel)) (fun _ _ _ _ _ => (pg_name (i := 6) sc__law_fits.nd rfl (Or.inl rfl))) (fun _ _ _ _ _ => pts_nil) (fun _ _ _ _ _ => (pe_c G__law_fits (hr.mono (by first | decide | omega)) (pa_cons (pv 0) (pa_cons (pv 6) pa_nil))))) pa_nil))))))))))), ?_⟩
      walk_at "go"
      refine rd_isTup hd ?_
      walk_at "go"
      cases hd with
      | @tup a ys ds hs hy =>
        refine iteF ?_
        walk_at "go"
        refine rd_len (.inr hs) ?_
        walk_at "go"
        cases hy with
        | nil =>
          refine iteT ?_
          walk_at "go"
          exact k _ same
        | @cons v0 xs d0 ps h0 hx =>
          refine ite2 (fun z => ?_) (fun _ => ?_)
          · exfalso
            simp at z
            omega
          walk_at "go"
          refine rd_ixt hs (at_of (j := 0) rfl rfl) ?_
          walk_at "go"
          refine rd_isStr h0 ?_
          walk_at "go"
          cases h0 with
          | str w' =>
            obtain ⟨m, rfl, hlen, hall⟩ := Bd.tup hB
            obtain rfl := hq m rfl
            refine iteF ?_
            walk_at "go"
            refine rd_ixt hs (at_of (j := 0) rfl rfl) ?_
            walk_at "go"
            refine rd_sla hs (fun z => ?_) (fun _ => ?_)
            · exfalso
              have z1 := z.1
              have e : HT.sIx (V.str w' :: xs).length 0 (some 1) = 1 := by
                show HT.sIx (V.str w' :: xs).length 0 (some ((1 : Nat) : Int)) = 1
                rw [HT.sIx_nat, List.length_cons]; omega
              omega
            rw [cut1]
            refine rd_new fun T H1 hT eT sm1 => ?_
            have hx1 := DpAll.mono sm1 hx
            rw [List.length_cons] at hlen
            have lx := DpAll.length hx
            have k' : ∀ b, b = mF al (.tuple (.str w' :: ps)) → ∀ H', Same H1 H' → Q (.bl b) H' := fun b e H' sm => by
              rw [e]; exact k H' (L2.Same.trans sm1 sm)
            rw [mF_eq, mWF_eq] at k'
            walk_at "go"
            rw [dec_S]
            refine ite2 (fun h1 => ?_) (fun h1 => ?_)
            · -- a set
              have n1 : w' = kS "set" := by simpa using h1
              have er : rel w' ps = [] := by unfold rel; rw [if_pos n1]
              rw [if_pos n1, er] at k'
              walk_at "go"
              refine rd_len (.inr (SqT.of eT)) ?_
              walk_at "go"
              refine ite2 (fun z => ?_) (fun z => ?_)
              · walk_at "go"
                refine k' _ ?_ _ (Same.refl _)
                rw [mOne_no (fun e => by rw [lx, e] at z; revert z; decide)]; rfl
              · have l1 : ps.length = 1 := by
                  rw [lx] at z
                  by_cases e : ps.length = 1
                  · exact e
                  · exfalso; apply z
                    rw [show (decide (V.int ((ps.length : Nat) : Int) = V.int 1)) = false from (dec_len (m := 1)).trans (decide_eq_false e)]; rfl
                cases hx1 with
                | nil => simp at l1
                | @cons v1 xs1 d1 ps1 hp hx2 =>
                  obtain rfl : ps1 = [] := by simpa using l1
                  cases hx2
                  walk_at "go"
                  refine rd_ixt (SqT.of eT) (at_of (j := 0) rfl rfl) ?_
                  walk_at "go"
                  refine rd_isStr hp ?_
                  walk_at "go"
                  cases hp with
                  | str x =>
                    obtain ⟨cs, rfl⟩ : ∃ cs, x = S cs := ⟨_, (S_cps x).symm⟩
                    have lcs : cs.length ≤ 60 := by
                      have := Bd.str (hall _ (by simp : PyData.str (S cs) ∈ [PyData.str w', .str (S cs)]))
                      rw [S_len] at this; exact this
                    refine iteF ?_
                    walk_at "go"
                    refine rd_ixt (SqT.of eT) (at_of (j := 0) rfl rfl) ?_
                    walk_at "go"
                    intro D hD
                    refine lc_str (x := cs) (fun i H' => H' D = some (.lst (((cs.take i).map (fnd al)).map V.int)) ∧ Same H1 H') ⟨upd_same, Same.lay hD⟩ ?_ ?_
                    · rintro i c H' hc ⟨eD, sm⟩
                      walk_at "go"
                      refine ⟨rfl, ?_⟩
                      walk_at "go"
                      refine ⟨rfl, ?_⟩
                      walk_at "go"
                      refine ⟨S al, S [c], rfl, rfl, ?_⟩
                      refine ⟨_, eD, by rw [List.length_map, List.length_map, List.length_take, PySem.sizeLine_eq]; omega, ?_, Same.lay2 sm hD⟩
                      rw [upd_same, map_snoc (fnd al) hc, List.map_append]; rfl
                    · rintro H3 ⟨eD, sm⟩
                      rw [List.take_length] at eD
                      walk_at "go"
                      refine ⟨1, rfl, ?_⟩
                      walk_at "go"
                      refine rd_in (.inl (SqL.of eD)) rfl (by rw [List.all_map]; exact List.all_eq_true.mpr fun _ _ => rfl) ?_
                      rw [if_pos rfl, inInts]
                      have lpl : (cs.map (fnd al)).length ≤ 60 := by rw [List.length_map]; exact lcs
                      walk_at "go"
                      refine ite2 (fun z => ?_) (fun z => ?_)
                      · walk_at "go"
                        refine rd_setLi (SqL.of eD) (by omega) fun sA c H4 hc sm4 eS => ?_
                        walk_at "go"
                        refine rd_sortedS eS (by omega) fun ns p H5 asc mem _ sm5 eP => ?_
                        refine ⟨_, _, dpInts (sm5 _ _ (sm4 _ _ eD)), dpInts eP, PySem.W.shaped_ints _, PySem.W.shaped_ints _, ?_⟩
                        rw [eqvInts]
                        walk_at "go"
                        refine k' _ ?_ _ (L2.Same.trans sm (L2.Same.trans sm4 sm5))
                        have e : mOne al [.str (S cs)] = mSel al (.str (S cs)) := rfl
                        rw [e, sel_iff hA.nd asc (fun k => by rw [mem k, decide_eq_true_eq]), z]
                        simp
                      · walk_at "go"
                        refine k' _ ?_ _ sm
                        have e : mOne al [.str (S cs)] = mSel al (.str (S cs)) := rfl
                        rw [e, sel_no (by simpa using z)]; rfl
                  | non => refine iteT ?_; walk_at "go"; exact k' _ rfl _ (Same.refl _)
                  | bl b => refine iteT ?_; walk_at "go"; exact k' _ rfl _ (Same.refl _)
                  | int i => refine iteT ?_; walk_at "go"; exact k' _ rfl _ (Same.refl _)
                  | lst _ _ => refine iteT ?_; walk_at "go"; exact k' _ rfl _ (Same.refl _)
                  | tup _ _ => refine iteT ?_; walk_at "go"; exact k' _ rfl _ (Same.refl _)
            have n1 : ¬ w' = kS "set" := by simpa using h1
            rw [if_neg n1] at k'
            with_reducible refine rd_next ?_
            with_reducible refine rd_seq ?_
            with_reducible refine rd_ifs ?_
            walk_at "go"
            rw [dec_S]
            refine ite2 (fun h2 => ?_) (fun h2 => ?_)
            · -- an again
              have n2 : w' = kS "again" := by simpa using h2
              have er : rel w' ps = ps.take 1 := by unfold rel; rw [if_neg n1, if_pos n2]
              rw [if_neg (fun e : w' = kS "not" => by rw [n2] at e; revert e; decide +kernel), if_pos n2, er] at k'
              walk_at "go"
              refine rd_len (.inr (SqT.of eT)) ?_
              walk_at "go"
              refine ite2 (fun z => ?_) (fun z => ?_)
              · walk_at "go"
                refine k' _ ?_ _ (Same.refl _)
                rw [mThree_no (fun e => by rw [lx, e] at z; revert z; decide)]; rfl
              · have l3 : xs.length = 3 := by
                  by_cases e : xs.length = 3
                  · exact e
                  · exfalso; apply z
                    rw [show (decide (V.int ((xs.length : Nat) : Int) = V.int 3)) = false from (dec_len (m := 3)).trans (decide_eq_false e)]; rfl
                obtain ⟨v1, v2, v3, d1, d2, d3, rfl, rfl, a1, a2, a3⟩ := dpAll3 hx1 l3
                walk_at "go"
                refine rd_ixt (SqT.of eT) (at_of (j := 0) rfl rfl) ?_
                walk_at "go"
                refine use_fits hA a1 (hall d1 (by simp)) fun H2 sm2 => ?_
                walk_at "go"
                have eT2 := sm2 _ _ eT
                have e1 : (((([d1, d2, d3] : List PyData).take 1).map (mF al)).all id) = mF al d1 := by
                  show (mF al d1 && true) = _
                  simp
                rw [e1] at k'
                refine ite2 (fun z1 => ?_) (fun z1 => ?_)
                · walk_at "go"
                  refine k' _ ?_ _ sm2
                  have : mF al d1 = false := by simpa using z1
                  rw [this]; simp
                have f1 : mF al d1 = true := by simpa using z1
                rw [f1, Bool.and_true] at k'
                walk_at "go"
                refine rd_ixt (SqT.of eT2) (at_of (j := 1) rfl rfl) ?_
                walk_at "go"
                refine use_isnum (Dp.mono sm2 a2) ?_
                walk_at "go"
                refine ite2 (fun z2 => ?_) (fun z2 => ?_)
                · walk_at "go"
                  refine k' _ ?_ _ sm2
                  have z2' : mWithin 0 4 d2 = false := by simpa using z2
                  show _ = mRange d2 d3
                  unfold mRange
                  split
                  · rw [z2']; rfl
                  · rfl
                have z2' : mWithin 0 4 d2 = true := by simpa using z2
                cases a2 with
                | int l =>
                  have k3 : ∀ b, b = mHigh l d3 → ∀ H', Same H1 H' → Q (.bl b) H' := fun b e H' sm => k' b (by rw [e]; show _ = (mWithin 0 4 (.int l) && mHigh l d3); rw [z2']; rfl) H' sm
                  walk_at "go"
                  refine rd_ixt (SqT.of eT2) (at_of (j := 2) rfl rfl) ?_
                  walk_at "go"
                  refine ⟨rfl, ?_⟩
                  walk_at "go"
                  have a3' := Dp.mono sm2 a3
                  cases a3 with
                  | non =>
                    refine iteT ?_
                    exact k3 _ rfl _ sm2
                  | bl b =>
                    refine iteF ?_
                    walk_at "go"
                    refine rd_ixt (SqT.of eT2) (at_of (j := 2) rfl rfl) ?_
                    walk_at "go"
                    refine rd_ixt (SqT.of eT2) (at_of (j := 1) rfl rfl) ?_
                    walk_at "go"
                    exact use_isnum a3' (k3 _ rfl _ sm2)
                  | int b =>
                    refine iteF ?_
                    walk_at "go"
                    refine rd_ixt (SqT.of eT2) (at_of (j := 2) rfl rfl) ?_
                    walk_at "go"
                    refine rd_ixt (SqT.of eT2) (at_of (j := 1) rfl rfl) ?_
                    walk_at "go"
                    exact use_isnum a3' (k3 _ rfl _ sm2)
                  | str b =>
                    refine iteF ?_
                    walk_at "go"
                    refine rd_ixt (SqT.of eT2) (at_of (j := 2) rfl rfl) ?_
                    walk_at "go"
                    refine rd_ixt (SqT.of eT2) (at_of (j := 1) rfl rfl) ?_
                    walk_at "go"
                    exact use_isnum a3' (k3 _ rfl _ sm2)
                  | lst _ _ =>
                    refine iteF ?_
                    walk_at "go"
                    refine rd_ixt (SqT.of eT2) (at_of (j := 2) rfl rfl) ?_
                    walk_at "go"
                    refine rd_ixt (SqT.of eT2) (at_of (j := 1) rfl rfl) ?_
                    walk_at "go"
                    exact use_isnum a3' (k3 _ rfl _ sm2)
                  | tup _ _ =>
                    refine iteF ?_
                    walk_at "go"
                    refine rd_ixt (SqT.of eT2) (at_of (j := 2) rfl rfl) ?_
                    walk_at "go"
                    refine rd_ixt (SqT.of eT2) (at_of (j := 1) rfl rfl) ?_
                    walk_at "go"
                    exact use_isnum a3' (k3 _ rfl _ sm2)
                | non => cases z2'
                | bl b => cases z2'
                | str x => cases z2'
                | lst _ _ => cases z2'
                | tup _ _ => cases z2'
            have n2 : ¬ w' = kS "again" := by simpa using h2
            rw [if_neg n2] at k'
            have er : rel w' ps = ps := by unfold rel; rw [if_neg n1, if_neg n2]
            rw [er] at k'
            with_reducible refine rd_next ?_
            with_reducible refine rd_seq ?_
            refine rd_cutR (t := tIfS _ _ _) (fun σ' H' => σ' = [some (.str (S al)), some (.ref a), some (.str w'), some (.ref T), none, none, none] ∧ H' = H1 ∧ (w' = kS "not" → ps.length = 1)) ?rest ?here
            case here =>
              intro nx fin
              walk_at "go"
              rw [dec_S]
              refine ite2 (fun h3 => ?_) (fun h3 => ?_)
              · have n3 : w' = kS "not" := by simpa using h3
                walk_at "go"
                refine rd_len (.inr (SqT.of eT)) ?_
                walk_at "go"
                refine ite2 (fun z => ?_) (fun z => ?_)
                · walk_at "go"
                  refine k' _ ?_ _ (Same.refl _)
                  have : ps.length ≠ 1 := fun e => by rw [lx, e] at z; revert z; decide
                  rw [if_pos n3, decide_eq_false this]; rfl
                · have l1 : ps.length = 1 := by
                    rw [lx] at z
                    by_cases e : ps.length = 1
                    · exact e
                    · exfalso; apply z
                      rw [show (decide (V.int ((ps.length : Nat) : Int) = V.int 1)) = false from (dec_len (m := 1)).trans (decide_eq_false e)]; rfl
                  walk_at "go"
                  exact fin _ _ ⟨rfl, rfl, fun _ => l1⟩
              · have n3 : ¬ w' = kS "not" := by simpa using h3
                walk_at "go"
                exact fin _ _ ⟨rfl, rfl, fun e => absurd e n3⟩
            case rest =>
              rintro _ _ ⟨rfl, rfl, hnot⟩
              walk_at "go"
              refine ⟨by show 4 ≤ sizeLine; decide, rd_new fun T2 H2 hT2 eT2 sm2 => ?_⟩
              walk_at "go"
              refine rd_in (.inr (SqT.of eT2)) rfl rfl ?_
              rw [if_neg Bool.false_ne_true, in_four]
              walk_at "go"
              have fits4 : (decide (w' = kS "row") || (decide (w' = kS "any") || (decide (w' = kS "all") || decide (w' = kS "not")))) = (if w' = kS "not" then decide (ps.length = 1) else decide (w' = kS "row") || decide (w' = kS "any") || decide (w' = kS "all")) := by
                by_cases n3 : w' = kS "not"
                · rw [if_pos n3, decide_eq_true (hnot n3), n3]; decide +kernel
                · rw [if_neg n3, decide_eq_false n3]; simp [Bool.or_assoc]
              rw [← fits4] at k'
              refine ite2 (fun z => ?_) (fun z => ?_)
              · rw [z] at k'
                walk_at "go"
                have eT3 := sm2 _ _ eT
                refine ⟨T, rfl, ⟨_, SqT.of eT3⟩, ?_⟩
                intro D hD
                have hx2 := DpAll.mono sm2 hx1
                refine lc_tup (xs := xs) (fun i H' => H' D = some (.lst (((ps.take i).map (mF al)).map V.bl)) ∧ Same H2 H') ⟨upd_same, Same.lay hD⟩ (fun i H' _ h => SqT.of (h.2 _ _ eT3)) ?_ ?_
                · rintro i y H' hi ⟨eD, sm⟩
                  obtain ⟨dp, hdp, hy⟩ := DpAll.get hx2 hi
                  walk_at "go"
                  refine ⟨rfl, ?_⟩
                  walk_at "go"
                  refine use_fits hA (Dp.mono sm hy) (hall dp (List.mem_cons_of_mem _ (List.mem_of_getElem? hdp))) fun H3 sm3 => ?_
                  refine ⟨_, sm3 _ _ eD, by rw [List.length_map, List.length_map, List.length_take, PySem.sizeLine_eq]; omega, ?_, Same.lay2 (L2.Same.trans sm sm3) hD⟩
                  rw [upd_same, map_snoc (mF al) hdp, List.map_append]; rfl
                · rintro H3 ⟨eD, sm⟩
                  rw [lx, List.take_length] at eD
                  walk_at "go"
                  refine rd_all (SqL.of eD) ?_
                  walk_at "go"
                  exact k' _ (Bool.true_and _).symm _ (L2.Same.trans sm2 sm)
              · have z' := eq_false_of_ne_true z
                rw [z'] at k'
                walk_at "go"
                exact k' _ rfl _ sm2
          | non => refine iteT ?_; walk_at "go"; exact k _ same
          | bl b => refine iteT ?_; walk_at "go"; exact k _ same
          | int i => refine iteT ?_; walk_at "go"; exact k _ same
          | lst _ _ => refine iteT ?_; walk_at "go"; exact k _ same
          | tup _ _ => refine iteT ?_; walk_at "go"; exact k _ same
      | non => refine iteT ?_; walk_at "go"; exact k _ same
      | bl b => refine iteT ?_; walk_at "go"; exact k _ same
      | int b => refine iteT ?_; walk_at "go"; exact k _ same
      | str x => refine iteT ?_; walk_at "go"; exact k _ same
      | lst _ _ => refine iteT ?_; walk_at "go"; exact k _ same
  intro n
  induction n with
  | zero => exact step 0 (fun _ _ _ _ => False) (F.ok (k := 0) sc__law_fits (fun vs H Q E h => h.elim) (fun f cdv A outer s H vs Q E hr h => h.elim)) (fun m e => by omega)
  | succ n ih => exact step (n + 1) _ ih (fun m e => by injection e with e; rw [e])
end

end Cs
namespace Cs
open PySem L2
open PyProof.Rows (envOfC)
theorem Bd.parts {n : Nat} {w : Str} {ps : List PyData} (h : Bd (n + 1) (.tuple (.str w :: ps))) : (rel w ps).length ≤ 60 ∧ ∀ p ∈ rel w ps, Bd n p := by
  obtain ⟨hl, ha⟩ : (PyData.str w :: ps).length ≤ 60 ∧ ∀ e ∈ PyData.str w :: ps, Bd n e := h
  rw [List.length_cons] at hl
  have sub : (rel w ps).Sublist ps := by
    unfold rel
    split
    · exact List.nil_sublist _
    · split
      · exact List.take_sublist _ _
      · exact List.Sublist.refl _
  exact ⟨by have := sub.length_le; omega, fun p hp => ha p (List.mem_cons_of_mem _ (sub.subset hp))⟩
theorem Bd.mD : ∀ {n : Nat} {d : PyData}, Bd n d → Cs.mD d ≤ n + 1 := by
  intro n
  induction n with
  | zero =>
    intro d h
    by_cases hx : ∃ w ps, d = .tuple (.str w :: ps)
    · obtain ⟨w, ps, rfl⟩ := hx
      exact h.elim
    · exact Nat.le_of_eq (foldD_no _ _ d fun w ps e => hx ⟨w, ps, e⟩)
  | succ n ih =>
    intro d h
    by_cases hx : ∃ w ps, d = .tuple (.str w :: ps)
    · obtain ⟨w, ps, rfl⟩ := hx
      rw [mD_eq]
      have : ((rel w ps).map Cs.mD).foldr max 0 ≤ n + 1 := foldr_max_le fun x hx => by
        obtain ⟨p, hp, rfl⟩ := List.mem_map.mp hx
        exact ih ((Bd.parts h).2 p hp)
      omega
    · exact Nat.le_trans (Nat.le_of_eq (foldD_no _ _ d fun w ps e => hx ⟨w, ps, e⟩)) (by omega)
theorem Bd.mN : ∀ {n : Nat} {d : PyData}, Bd n d → Cs.mN d ≤ 60 := by
  intro n
  induction n with
  | zero =>
    intro d h
    by_cases hx : ∃ w ps, d = .tuple (.str w :: ps)
    · obtain ⟨w, ps, rfl⟩ := hx
      exact h.elim
    · exact Nat.le_trans (Nat.le_of_eq (foldD_no _ _ d fun w ps e => hx ⟨w, ps, e⟩)) (by decide)
  | succ n ih =>
    intro d h
    by_cases hx : ∃ w ps, d = .tuple (.str w :: ps)
    · obtain ⟨w, ps, rfl⟩ := hx
      rw [mN_eq]
      have hl : (PyData.str w :: ps).length ≤ 60 := h.1
      rw [List.length_cons] at hl
      refine Nat.max_le.mpr ⟨by omega, foldr_max_le fun x hx => ?_⟩
      obtain ⟨p, hp, rfl⟩ := List.mem_map.mp hx
      exact ih ((Bd.parts h).2 p hp)
    · exact Nat.le_trans (Nat.le_of_eq (foldD_no _ _ d fun w ps e => hx ⟨w, ps, e⟩)) (by decide)
def sp_due (K : PySem.W.Frag) (n : Nat) : Sp := fun vs H Q _ => ∃ (al : List Nat) (v : V) (d : PyData), vs = [.str (S al), v] ∧ Alp al ∧ Dp K H v d ∧ Bd n d ∧ ∀ H', Same H H' → Q (.bl (mPat al d)) H'
theorem use_due {K : PySem.W.Frag} {n : Nat} {al : List Nat} {v : V} {d : PyData} {H : Hp} {Q : VK} {E : XK} (hA : Alp al) (h : Dp K H v d) (hB : Bd n d) (k : ∀ H', Same H H' → Q (.bl (mPat al d)) H') : sp_due K n [.str (S al), v] H Q E := ⟨al, v, d, rfl, hA, h, hB, k⟩
theorem mPat_b (al : List Nat) (d : PyData) : mPat al d = (mF al d && (decide (mW d ≤ 10) && (decide ((mT d : Int) ≤ 20) && mR d))) := by
  rw [Bool.eq_iff_iff, mPat_iff]
  simp only [Bool.and_eq_true, decide_eq_true_eq]
  constructor
  · rintro ⟨a, b, c, e⟩; exact ⟨a, e, by omega, b⟩
  · rintro ⟨a, e, c, b⟩; exact ⟨a, b, by omega, e⟩
section
variable {P : Program} {w : World} {K : PySem.W.Frag} {mg : Str → Option Value} {base : Heap}
theorem ok_due (n : Nat) (G__law_fits : Cal P w K mg base (n + 2) "_law_fits" ["_law_alphabet_here", "_law_value"] (sp_fits K n)) (G_measures : ∀ al : List Nat, Cal P w K mg base (n + 2) "_law_measures" ["_law_value"] (sp_measures K al (n + 1)))
    (F : At K mg "_law_due" s__law_due ["_law_alphabet_here", "_law_value"]) : Cal P w K mg base (n + 3) "_law_due" ["_law_alphabet_here", "_law_value"] (sp_due K n) := by
  refine F.ok (k := n + 2) sc__law_due (fun vs H Q E h => ?_) (fun f cdv A outer s H vs Q E hr h => ?_)
  · obtain ⟨al, v, d, rfl, _⟩ := h
    rfl
  · obtain ⟨al, v, d, rfl, hA, hd, hB, k⟩ := h
    have G__law_measures := G_measures al
    refine ⟨_, (pss_cons (ps_if (pt_not (pt_val (pe_c G__law_fits (hr.mono (by first | decide | omega)) (pa_cons (pv 0) (pa_cons (pv 1) pa_nil)))))
    (pss_one (ps_ret pe_bl))
    pss_nil)
    (pss_cons (ps_asg (pe_c G__law_measures (hr.mono (by first | decide | omega)) (pa_cons (pv 1) pa_nil)) (pg_tupK (K := K) (by rfl) (by rfl) (pgs_cons (pg_name (i := 2) sc__law_due.nd rfl (Or.inl rfl)) (pgs_cons (pg_name (i := 3) sc__law_due.nd rfl (Or.inl rfl)) (pgs_cons (pg_name (i := 4) sc__law_due.nd rfl (Or.inl rfl)) (pgs_cons (pg_name (i := 5) sc__law_due.nd rfl (Or.inl rfl)) pgs_nil))))))
    (pss_one (ps_ret (pe_and (pe_cmpR op_le (pv 2) pe_int (nomark _)) (pe_and (pe_cmpR op_le (pv 3) pe_int (nomark _)) (pe_one (pv 5)))))))), ?_⟩
    walk_at "go"
    refine use_fits hA hd hB fun H1 sm1 => ?_
    walk_at "go"
    rw [mPat_b] at k
    refine ite2 (fun z => ?_) (fun z => ?_)
    · walk_at "go"
      have f1 : mF al d = false := by simpa using z
      rw [f1] at k
      exact k _ sm1
    have f1 : mF al d = true := by simpa using z
    rw [f1, Bool.true_and] at k
    walk_at "go"
    refine use_measures (Dp.mono sm1 hd) f1 (Bd.mD hB) (Nat.le_trans (Bd.mN hB) (by decide)) fun p H2 sm2 ep => ?_
    have sm := L2.Same.trans sm1 sm2
    walk_at "go"
    refine rd_gtup (SqT.of ep) rfl ?_
    unfold mvals
    walk_at "go"
    refine ite2 (fun z => ?_) (fun z => ?_)
    · rw [z] at k
      walk_at "go"
      refine ite2 (fun z => ?_) (fun z => ?_)
      · rw [z] at k
        walk_at "go"
        exact k _ sm
      · rw [eq_false_of_ne_true z] at k
        walk_at "go"
        exact k _ sm
    · rw [eq_false_of_ne_true z] at k
      walk_at "go"
      exact k _ sm
end

end Cs
namespace Cs
open PySem L2
open PyProof.Rows (envOfC)
def sp_pattern (K : PySem.W.Frag) : Sp := fun vs H Q _ => ∃ (al : List Nat) (v : V) (d : PyData), vs = [.str (S al), v] ∧ al.length ≤ 1000 ∧ Dp K H v d ∧ mN d ≤ 100000 ∧ ∀ H', Same H H' → Q (.bl (mPat al d)) H'
theorem use_pattern {K : PySem.W.Frag} {al : List Nat} {v : V} {d : PyData} {H : Hp} {Q : VK} {E : XK} (hA : al.length ≤ 1000) (h : Dp K H v d) (hN : mN d ≤ 100000) (k : ∀ H', Same H H' → Q (.bl (mPat al d)) H') : sp_pattern K [.str (S al), v] H Q E := ⟨al, v, d, rfl, hA, h, hN, k⟩
section
variable {P : Program} {w : World} {K : PySem.W.Frag} {mg : Str → Option Value} {base : Heap}
theorem ok_pattern (B : Blt mg) (T : PatK mg) (G__is_small_expression : Cal P w K mg base 4 "_is_small_expression" ["alphabet", "value"] (sp_small K)) (Gw : ∀ al n, Cal P w K mg base (n + 2) "_width" ["expression"] (sp_width K al n))
    (F : At K mg "is_pattern" s_is_pattern ["alphabet", "value"]) : Cal P w K mg base 23 "is_pattern" ["alphabet", "value"] (sp_pattern K) := by
  refine F.ok sc_is_pattern (fun vs H Q E h => ?_) (fun f cdv A outer s H vs Q E hr h => ?_)
  · obtain ⟨al, v, d, rfl, _⟩ := h
    rfl
  · obtain ⟨al, v, d, rfl, hA, hd, hN, k⟩ := h
    have G__width := Gw al 20
    refine ⟨_, (pss_one (ps_ret (pe_and (pe_c G__is_small_expression (hr.mono (by first | decide | omega)) (pa_cons (pv 0) (pa_cons (pv 1) pa_nil))) (pe_one (pe_cmpR op_le (pe_c G__width (hr.mono (by first | decide | omega)) (pa_cons (pv 1) pa_nil)) (pe_k T.c_MOST_WIDTH) (nomark _)))))), ?_⟩
    walk_at "go"
    refine use_small hA hd hN fun H1 sm1 => ?_
    walk_at "go"
    cases hL : loopS al 20 [(d, false)] with
    | false =>
      refine iteF ?_
      have e : mPat al d = false := by unfold mPat; rw [hL]; rfl
      rw [e] at k
      exact k _ sm1
    | true =>
      refine iteT ?_
      walk_at "go"
      obtain ⟨hg, hs⟩ := (loopS_iff al 20 [(d, false)]).mp hL
      have g := hg (d, false) (by simp)
      have hT : mT d ≤ 20 := by simpa using hs
      refine use_width (Dp.mono sm1 hd) g.1 (Nat.le_trans (mD_le_mT d) hT) (by omega) fun H2 sm2 => ?_
      walk_at "go"
      have e : mPat al d = decide (mW d ≤ 10) := by unfold mPat; rw [hL]; rfl
      rw [← e]
      exact k _ (L2.Same.trans sm1 sm2)
end

end Cs
namespace Cs
open PySem L2
open PyProof.Rows (envOfC)
/-! a set over the alphabet -/
def sp_set : Sp := fun vs H Q _ => ∃ (a : Addr) (al : List Nat) (n : Nat), vs = [.ref a, .str (S al)] ∧ Alp al ∧ Src a (n + 7) H ∧ ∀ (p : Addr) (cs : List Nat) (H' : Hp), cs.Sublist al → Tp H' (.ref p) (dSet cs) → Src a n H' → Kp a H H' → Q (.ref p) H'
theorem use_set {a : Addr} {al : List Nat} {n : Nat} {H : Hp} {Q : VK} {E : XK} (hA : Alp al) (h : Src a (n + 7) H) (k : ∀ (p : Addr) (cs : List Nat) (H' : Hp), cs.Sublist al → Tp H' (.ref p) (dSet cs) → Src a n H' → Kp a H H' → Q (.ref p) H') : sp_set [.ref a, .str (S al)] H Q E :=
  ⟨a, al, n, rfl, hA, h, k⟩
theorem sub_snoc {α : Type} {m l : List α} {i : Nat} {x : α} (h : m.Sublist (l.take i)) (e : l[i]? = some x) : (m ++ [x]).Sublist (l.take (i + 1)) := by
  rw [List.take_add_one, e]
  exact List.Sublist.append h (List.Sublist.refl _)
theorem sub_more {α : Type} {m l : List α} {i : Nat} (h : m.Sublist (l.take i)) : m.Sublist (l.take (i + 1)) := by
  rw [List.take_add_one]
  exact h.trans (List.sublist_append_left _ _)
section
variable {P : Program} {w : World} {K : PySem.W.Frag} {mg : Str → Option Value} {base : Heap}
theorem ok_set (B : Blt mg) (G__law_draw : Cal P w K mg base 1 "_law_draw" ["_law_source_here", "_law_many"] sp_draw) (F : At K mg "_law_set" s__law_set ["_law_source_here", "_law_alphabet_here"]) : Cal P w K mg base 2 "_law_set" ["_law_source_here", "_law_alphabet_here"] sp_set := by
  refine F.ok sc__law_set (fun vs H Q E h => ?_) (fun f cdv A outer s H vs Q E hr h => ?_)
  · obtain ⟨a, al, n, rfl, _⟩ := h
    rfl
  · obtain ⟨a, al, n, rfl, hA, hS, k⟩ := h
    have zal : (S al).length ≤ sizeLine := by rw [S_len, PySem.sizeLine_eq]; have := hA.hi; omega
    refine ⟨_, (pss_cons (ps_set (i := 2) sc__law_set.nd rfl (Or.inl rfl) (pe_ix (ix_listK (K := K) (by rfl)) (pe_lst (pa_cons pe_int (pa_cons pe_int (pa_cons pe_int (pa_cons pe_int (pa_cons pe_int (pa_cons pe_int (pa_cons pe_int (pa_cons pe_int pa_nil))))))))) (pe_c G__law_draw (hr.mono (by first | decide | omega)) (pa_cons (pv 0) (pa_cons pe_int pa_nil))) (fun _ _ => rfl)))
    (pss_cons (ps_set (i := 3) sc__law_set.nd rfl (Or.inr rfl) (pe_lc (own := [("_law_k", 4)]) rfl sc__law_set.nd (pi_range1 (by rfl) B.range (pa_cons (pv 2) pa_nil)) (blkOk_by (N := ["_law_source_here", "_law_alphabet_here", "_law_many", "_law_taken", "_law_k", "_law_at"]) (sc := defScope s__law_set) (by decide +kernel)) (fun _ _ _ _ _ => (pg_name (i := 4) sc__law_set.nd rfl (Or.inl rfl))) (fun _ _ _ _ _ => pts_nil) (fun _ _ _ _ _ => (pe_c G__law_draw (hr.mono (by first | decide | omega)) (pa_cons (pv 0) (pa_cons (pe_callB call_len_str (by rfl) B.len PySem.boot_len (pa_cons (pv 1) pa_nil)) pa_nil))))))
    (pss_one (ps_ret (pe_tup (pa_cons pe_str (pa_cons (pe_joinK (K := K) (by rfl) pe_str (pe_lc (own := [("_law_at", 5)]) rfl sc__law_set.nd (pi_range1 (by rfl) B.range (pa_cons (pe_callB call_len_str (by rfl) B.len PySem.boot_len (pa_cons (pv 1) pa_nil)) pa_nil)) (blkOk_by (N := ["_law_source_here", "_law_alphabet_here", "_law_many", "_law_taken", "_law_k", "_law_at"]) (sc := defScope s__law_set) (by decide +kernel)) (fun _ _ _ _ _ => (pg_name (i := 5) sc__law_set.nd rfl (Or.inl rfl))) (fun _ _ _ _ _ => (pts_one (pt_cmpR (op_in_seqK (K := K) (by rfl)) (pv 5) (pv 3) (by first | rfl | decide)))) (fun _ _ _ _ _ => (pe_ix ix_str (pv 1) (pv 5) (fun _ _ => rfl))))) pa_nil))))))), ?_⟩
    walk_at "go"
    refine ⟨by show 8 ≤ sizeLine; decide, rd_newK hS fun p H1 pa hp eP hS1 k1 => ?_⟩
    walk_at "go"
    refine use_draw (n := n + 6) hS1 (by decide) (by decide) fun i H2 i0 i1 hS2 k2 => ?_
    walk_at "go"
    obtain ⟨v, hv, hm⟩ := at_mem (xs := [V.int 1, .int 1, .int 1, .int 1, .int 1, .int 2, .int 2, .int 6]) i0 i1
    refine rd_ixl (SqL.of (k2.at pa eP)) hv ?_
    walk_at "go"
    obtain ⟨m, rfl, m0, m1⟩ : ∃ m : Int, v = .int m ∧ 1 ≤ m ∧ m ≤ 6 := by
      simp only [List.mem_cons, List.not_mem_nil, or_false] at hm
      rcases hm with rfl | rfl | rfl | rfl | rfl | rfl | rfl | rfl <;> exact ⟨_, rfl, by decide, by decide⟩
    refine rd_rng1j (by omega) (by omega) ?_
    intro T hT
    have Ta : T ≠ a := hS2.ne hT
    have hT0 : H T = none := (k1.trans k2).none Ta hT
    refine lc_range (lo := 0) (n := m.toNat) (fun i H' => ∃ ms : List Int, H' T = some (.lst (ms.map V.int)) ∧ ms.length = i ∧ Src a (n + (6 - i)) H' ∧ Kp a H H') ?_ ?_ ?_
    · exact ⟨[], upd_same, rfl, (hS2.lay Ta).mono (by omega), (k1.trans k2).lay hT0⟩
    · rintro i H' hi ⟨ms, eT, hl, hS', kp⟩
      walk_at "go"
      refine ⟨rfl, ?_⟩
      walk_at "go"
      refine ⟨S al, rfl, zal, ?_⟩
      walk_at "go"
      have e6 : n + (6 - i) = n + (6 - (i + 1)) + 1 := by omega
      rw [e6] at hS'
      refine use_draw hS' (by rw [S_len]; have := hA.lo; omega) (by rw [S_len]; have := hA.hi; omega) fun d H2 d0 d1 hS2 k2 => ?_
      refine ⟨_, k2.at Ta eT, by rw [List.length_map, PySem.sizeLine_eq]; omega, ms ++ [d], ?_, by rw [List.length_append, hl]; rfl, hS2.lay Ta, (kp.trans k2).lay hT0⟩
      rw [upd_same, List.map_append]; rfl
    · rintro H3 ⟨ms, eT, hl, hS3, kp⟩
      walk_at "go"
      refine ⟨S al, rfl, zal, ?_⟩
      have hz : (((S al).length : Nat) : Int) = (al.length : Int) := by rw [S_len]
      have hlo := hA.lo
      have hhi := hA.hi
      refine rd_rng1j (by omega) (by omega) ?_
      intro D hD
      have Da : D ≠ a := hS3.ne hD
      have DT : D ≠ T := fun z => by rw [z, eT] at hD; cases hD
      have hD0 : H D = none := kp.none Da hD
      refine lc_range (lo := 0) (n := ((((S al).length : Nat) : Int)).toNat) (fun i H' => ∃ made : List Nat, H' T = some (.lst (ms.map V.int)) ∧ H' D = some (.lst (made.map fun c => V.str (S [c]))) ∧ made.Sublist (al.take i) ∧ Src a n H' ∧ Kp a H H') ?_ ?_ ?_
      · exact ⟨[], by rw [upd_ne DT.symm]; exact eT, upd_same, List.nil_sublist _, (hS3.lay Da).mono (by omega), kp.lay hD0⟩
      · rintro i H' hi ⟨made, eT', eD, hs, hS', kp'⟩
        have hi2 : i < al.length := by rw [S_len] at hi; omega
        have hml : made.length ≤ i := by
          have := hs.length_le
          rw [List.length_take] at this
          omega
        walk_at "go"
        refine ⟨rfl, ?_⟩
        walk_at "go"
        refine rd_in (.inl (SqL.of eT')) rfl (by rw [List.all_map]; exact List.all_eq_true.mpr fun _ _ => rfl) ?_
        walk_at "go"
        refine ite2 (fun _ => ?_) (fun _ => ?_)
        · walk_at "go"
          have hc : al[i]? = some al[i] := List.getElem?_eq_getElem hi2
          refine ⟨S al, _, al[i], rfl, rfl, zal, at_c rfl hc, made.map (fun c => V.str (S [c])), eD, by rw [List.length_map, PySem.sizeLine_eq]; omega, made ++ [al[i]], ?_, ?_, sub_snoc hs hc, hS'.lay Da, kp'.lay hD0⟩
          · rw [upd_ne DT.symm]; exact eT'
          · rw [upd_same, List.map_append]; rfl
        · exact ⟨made, eT', eD, sub_more hs, hS', kp'⟩
      · rintro H4 ⟨made, eT', eD, hs, hS4, kp4⟩
        have hs' : made.Sublist al := hs.trans (List.take_sublist _ _)
        walk_at "go"
        refine ⟨_, D, made.map fun c => S [c], rfl, rfl, .inl (SqL.of (by rw [eD, List.map_map]; rfl)), ?_, ?_⟩
        · rw [sum_signs, List.length_map]
          have := hs'.length_le
          show made.length + made.length * 0 ≤ _
          omega
        · walk_at "go"
          rw [empty_S, join_signs]
          refine ⟨by show 2 ≤ sizeLine; decide, rd_newK hS4 fun p H5 pa hp eP hS5 k5 => ?_⟩
          walk_at "go"
          exact k p made H5 hs' (.tup eP (.cons (.str _) (.cons (.str _) .nil))) hS5 (kp4.trans k5)
end

end Cs
namespace Cs
open PySem L2
open PyProof.Rows (envOfC)
/-! a row of m sets -/
def dRow (css : List (List Nat)) : PyData := .tuple (.str (Str.ofString "row") :: css.map dSet)
def sp_row : Sp := fun vs H Q _ => ∃ (a : Addr) (al : List Nat) (m : Int) (n : Nat), vs = [.ref a, .str (S al), .int m] ∧ Alp al ∧ 0 ≤ m ∧ m ≤ 1000 ∧ Src a (n + 7 * m.toNat) H ∧
  ∀ (p : Addr) (css : List (List Nat)) (H' : Hp), (css.length : Int) = m → (∀ cs ∈ css, cs.Sublist al) → Tp H' (.ref p) (dRow css) → Src a n H' → Kp a H H' → Q (.ref p) H'
theorem use_row {a : Addr} {al : List Nat} {m : Int} {n : Nat} {H : Hp} {Q : VK} {E : XK} (hA : Alp al) (m0 : 0 ≤ m) (m1 : m ≤ 1000) (h : Src a (n + 7 * m.toNat) H)
    (k : ∀ (p : Addr) (css : List (List Nat)) (H' : Hp), (css.length : Int) = m → (∀ cs ∈ css, cs.Sublist al) → Tp H' (.ref p) (dRow css) → Src a n H' → Kp a H H' → Q (.ref p) H') : sp_row [.ref a, .str (S al), .int m] H Q E :=
  ⟨a, al, m, n, rfl, hA, m0, m1, h, k⟩
section
variable {P : Program} {w : World} {K : PySem.W.Frag} {mg : Str → Option Value} {base : Heap}
theorem ok_row (B : Blt mg) (G__law_set : Cal P w K mg base 2 "_law_set" ["_law_source_here", "_law_alphabet_here"] sp_set) (F : At K mg "_law_row" s__law_row ["_law_source_here", "_law_alphabet_here", "_law_many"]) : Cal P w K mg base 3 "_law_row" ["_law_source_here", "_law_alphabet_here", "_law_many"] sp_row := by
  refine F.ok sc__law_row (fun vs H Q E h => ?_) (fun f cdv A outer s H vs Q E hr h => ?_)
  · obtain ⟨a, al, m, n, rfl, _⟩ := h
    rfl
  · obtain ⟨a, al, m, n, rfl, hA, m0, m1, hS, k⟩ := h
    refine ⟨_, (pss_one (ps_ret (pe_op (op_catTK (K := K) (by rfl)) (pe_tup (pa_cons pe_str pa_nil)) (pe_callTy (call_tuple_ofK (K := K) (by rfl)) (by rfl) B.tuple (by decide +kernel) (pa_cons (pe_lc (own := [("_law_k", 3)]) rfl sc__law_row.nd (pi_range1 (by rfl) B.range (pa_cons (pv 2) pa_nil)) (blkOk_by (N := ["_law_source_here", "_law_alphabet_here", "_law_many", "_law_k"]) (sc := defScope s__law_row) (by decide +kernel)) (fun _ _ _ _ _ => (pg_name (i := 3) sc__law_row.nd rfl (Or.inl rfl))) (fun _ _ _ _ _ => pts_nil) (fun _ _ _ _ _ => (pe_c G__law_set (hr.mono (by first | decide | omega)) (pa_cons (pv 0) (pa_cons (pv 1) pa_nil))))) pa_nil))))), ?_⟩
    walk_at "go"
    refine ⟨by show 1 ≤ sizeLine; decide, rd_newK hS fun p H1 pa hp eP hS1 k1 => ?_⟩
    walk_at "go"
    refine rd_rng1j (by omega) (by omega) ?_
    intro D hD
    have Da : D ≠ a := hS1.ne hD
    have Dp' : D ≠ p := fun z => by rw [z, eP] at hD; cases hD
    have hD0 : H D = none := k1.none Da hD
    refine lc_range (lo := 0) (n := m.toNat) (fun i H' => ∃ (vs : List V) (css : List (List Nat)), H' p = some (.tup [.str (Str.ofString "row")]) ∧ H' D = some (.lst vs) ∧ TpAll H' vs (css.map dSet) ∧ css.length = i ∧ (∀ cs ∈ css, cs.Sublist al) ∧ Src a (n + 7 * (m.toNat - i)) H' ∧ Kp a H H') ?_ ?_ ?_
    · exact ⟨[], [], by rw [upd_ne Dp'.symm]; exact eP, upd_same, .nil, rfl, by simp, (hS1.lay Da).mono (by omega), k1.lay hD0⟩
    · rintro i H' hi ⟨vs, css, eP', eD, hv, hl, hsub, hS', kp⟩
      walk_at "go"
      refine ⟨rfl, ?_⟩
      walk_at "go"
      have e7 : n + 7 * (m.toNat - i) = n + 7 * (m.toNat - (i + 1)) + 7 := by omega
      rw [e7] at hS'
      refine use_set hA hS' fun q cs H2 hs hq hS2 k2 => ?_
      have lv : vs.length = i := by rw [hv.length, List.length_map, hl]
      have eD2 := k2.at Da eD
      have t2 : TS H2 (upd H2 D (.lst (vs ++ [V.ref q]))) := TS.set eD2
      refine ⟨vs, eD2, by rw [lv, PySem.sizeLine_eq]; omega, vs ++ [.ref q], css ++ [cs], t2 _ _ (k2.at pa eP'), upd_same, ?_, by rw [List.length_append, hl]; rfl, ?_, hS2.lay Da, (kp.trans k2).lay hD0⟩
      · rw [List.map_append]
        exact ((hv.ts (TS.kp hS' k2)).app (.cons hq .nil)).ts t2
      · intro c hc
        rcases List.mem_append.mp hc with hc | hc
        · exact hsub c hc
        · rw [List.mem_singleton.mp hc]; exact hs
    · rintro H4 ⟨vs, css, eP', eD, hv, hl, hsub, hS4, kp⟩
      walk_at "go"
      have lv : vs.length = m.toNat := by rw [hv.length, List.length_map, hl]
      refine rd_tupl (SqL.of eD) (rd_newK hS4 fun q H5 qa hq eQ hS5 k5 => ?_)
      have pq := k5.at pa eP'
      have t5 := TS.kp hS4 k5
      refine rd_catT (SqT.of pq) (SqT.of eQ) (by simp) (by rw [lv, PySem.sizeLine_eq]; show 1 + _ ≤ _; omega) (fun e => ?_) (fun _ => rd_newK hS5 fun r H6 ra hr6 eR hS6 k6 => ?_)
      · walk_at "go"
        subst e
        have e0 : css = [] := by
          have := hv.length
          rw [List.length_map] at this
          exact List.length_eq_zero_iff.mp this.symm
        subst e0
        exact k p [] H5 (by simp at hl; omega) hsub (.tup pq (.cons (.str _) .nil)) (hS5.mono (by omega)) (kp.trans k5)
      · walk_at "go"
        exact k r css H6 (by omega) hsub (.tup eR (.cons (.str _) ((hv.ts t5).ts (TS.kp hS5 k6)))) (hS6.mono (by omega)) ((kp.trans k5).trans k6)
end

end Cs
namespace Cs
open PySem L2
open PyProof.Rows (envOfC)
/-! the cases of k02: what is_pattern answers of each -/
def CaseOk (al : List Nat) (d : PyData) (wide tuples : Int) (bar : Bool) : Prop := mPat al d = (decide (wide ≤ 10) && (decide (tuples ≤ 20) && !bar)) ∧ mN d ≤ 100000
theorem caseOk {al : List Nat} {d : PyData} {wide tuples : Int} {bar : Bool} (hF : mF al d = true) (hT : (mT d : Int) = tuples) (hW : mW d = wide) (hR : mR d = !bar) (hN : mN d ≤ 100000) : CaseOk al d wide tuples bar := by
  refine ⟨?_, hN⟩
  rw [Bool.eq_iff_iff, mPat_iff, Bool.and_eq_true, Bool.and_eq_true, decide_eq_true_eq, decide_eq_true_eq, ← hR, ← hW, ← hT]
  constructor
  · rintro ⟨_, b, c, e⟩; exact ⟨e, by omega, b⟩
  · rintro ⟨e, c, b⟩; exact ⟨hF, b, by omega, e⟩
/-- what is known of an expression: it fits, its tuples, its width, right, plain, its greatest number of parts -/
structure Ex (al : List Nat) (d : PyData) (t : Nat) (w : Int) (r p : Bool) : Prop where
  F : mF al d = true
  T : mT d = t
  W : mW d = w
  R : mR d = r
  P : mP d = p
  N : mN d ≤ 100
theorem sub_filter : ∀ {al cs : List Nat}, cs.Sublist al → al.Nodup → al.filter (fun c => decide (c ∈ cs)) = cs
  | [], _, h, _ => by rw [List.sublist_nil.mp h]; rfl
  | a :: al, cs, h, nd => by
    have nd' := List.nodup_cons.mp nd
    cases h with
    | cons _ h =>
      have na : a ∉ cs := fun z => nd'.1 (h.subset z)
      rw [List.filter_cons, if_neg (by simpa using na)]
      exact sub_filter h nd'.2
    | @cons_cons cs' _ _ h =>
      rw [List.filter_cons, if_pos (by simp)]
      congr 1
      refine Eq.trans (List.filter_congr fun x hx => ?_) (sub_filter h nd'.2)
      have : x ≠ a := fun z => nd'.1 (z ▸ hx)
      simp [this]
theorem ex_set {al cs : List Nat} (hA : Alp al) (h : cs.Sublist al) : Ex al (dSet cs) 1 1 true true := by
  have e0 : rel (kS "set") [PyData.str (S cs)] = [] := by unfold rel; rw [if_pos rfl]
  have sel : mSel al (.str (S cs)) = true := by
    show decide (S cs = S (al.filter fun c => decide (c ∈ cs))) = true
    rw [sub_filter h hA.nd]; simp
  unfold dSet
  refine ⟨?_, ?_, ?_, ?_, ?_, ?_⟩
  · rw [mF_eq, mWF_eq, if_pos rfl, e0]
    show (mSel al (.str (S cs)) && true) = true
    rw [sel]; rfl
  · rw [mT_eq, e0]; rfl
  · rw [mW_eq, if_neg (by decide +kernel), e0]; rfl
  · rw [mR_eq, e0]; simp
  · rw [mP_eq, e0]; decide +kernel
  · rw [mN_eq, e0]; show max 1 0 ≤ 100; decide
/-- all of a list alike -/
structure Exs (al : List Nat) (ds : List PyData) (t : Nat) (w : Int) (r p : Bool) : Prop where
  F : (ds.map (mF al)).all id = true
  T : (ds.map mT).sum = t
  W : (ds.map mW).sum = w
  R : ds.all mR = r
  P : ds.all mP = p
  N : (ds.map mN).foldr max 0 ≤ 100
theorem exs_nil {al : List Nat} : Exs al [] 0 0 true true := ⟨rfl, rfl, rfl, rfl, rfl, Nat.zero_le _⟩
theorem exs_cons {al : List Nat} {d : PyData} {ds : List PyData} {t t' : Nat} {w w' : Int} {r r' p p' : Bool} (h : Ex al d t w r p) (hs : Exs al ds t' w' r' p') : Exs al (d :: ds) (t + t') (w + w') (r && r') (p && p') := by
  refine ⟨?_, ?_, ?_, ?_, ?_, ?_⟩
  · rw [List.map_cons, List.all_cons, hs.F]; simp [h.F]
  · rw [List.map_cons, List.sum_cons, hs.T, h.T]
  · rw [List.map_cons, List.sum_cons, hs.W, h.W]
  · rw [List.all_cons, hs.R, h.R]
  · rw [List.all_cons, hs.P, h.P]
  · rw [List.map_cons, List.foldr_cons]
    exact Nat.max_le.mpr ⟨h.N, hs.N⟩
theorem exs_app {al : List Nat} {ds es : List PyData} {t t' : Nat} {w w' : Int} {r r' p p' : Bool} (h : Exs al ds t w r p) (hs : Exs al es t' w' r' p') : Exs al (ds ++ es) (t + t') (w + w') (r && r') (p && p') := by
  refine ⟨?_, ?_, ?_, ?_, ?_, ?_⟩
  · rw [List.map_append, List.all_append, h.F, hs.F]; rfl
  · rw [List.map_append, List.sum_append, h.T, hs.T]
  · rw [List.map_append, List.sum_append, h.W, hs.W]
  · rw [List.all_append, h.R, hs.R]
  · rw [List.all_append, h.P, hs.P]
  · refine foldr_max_le fun x hx => ?_
    rw [List.map_append] at hx
    rcases List.mem_append.mp hx with hx | hx
    · exact Nat.le_trans (le_foldr_max hx) h.N
    · exact Nat.le_trans (le_foldr_max hx) hs.N
theorem exs_rep {al : List Nat} {d : PyData} {t : Nat} {w : Int} (h : Ex al d t w true true) : ∀ n : Nat, Exs al (List.replicate n d) (n * t) (n * w) true true
  | 0 => by simpa using exs_nil
  | n + 1 => by
    have e := exs_cons h (exs_rep h n)
    rw [List.replicate_succ]
    have e1 : t + n * t = (n + 1) * t := by rw [Nat.add_mul, Nat.one_mul, Nat.add_comm]
    have e2 : w + (n : Int) * w = ((n + 1 : Nat) : Int) * w := by rw [Int.natCast_add, Int.add_mul]; simp [Int.add_comm]
    rw [e1, e2] at e
    exact e
theorem exs_sets {al : List Nat} (hA : Alp al) : ∀ {css : List (List Nat)}, (∀ cs ∈ css, cs.Sublist al) → Exs al (css.map dSet) css.length css.length true true
  | [], _ => exs_nil
  | cs :: css, h => by
    have e := exs_cons (ex_set hA (h cs (by simp))) (exs_sets hA (css := css) fun c hc => h c (by simp [hc]))
    rw [List.map_cons, List.length_cons]
    have e1 : 1 + css.length = css.length + 1 := Nat.add_comm ..
    have e2 : (1 : Int) + (css.length : Int) = ((css.length + 1 : Nat) : Int) := by omega
    rw [e1, e2] at e
    exact e
/-- a row, an any, an all -/
theorem ex_many {al : List Nat} {w : Str} {ds : List PyData} {t : Nat} {v : Int} {r p : Bool} (hw : w = kS "row" ∨ w = kS "any" ∨ w = kS "all") (h : Exs al ds t v r p) (hl : ds.length ≤ 100) :
    Ex al (.tuple (.str w :: ds)) (1 + t) (m1 v) (if isRow w then p else r) (!isBar w && p) := by
  have n1 : w ≠ kS "set" := by rcases hw with rfl | rfl | rfl <;> decide +kernel
  have n2 : w ≠ kS "again" := by rcases hw with rfl | rfl | rfl <;> decide +kernel
  have n3 : w ≠ kS "not" := by rcases hw with rfl | rfl | rfl <;> decide +kernel
  have e0 : rel w ds = ds := by unfold rel; rw [if_neg n1, if_neg n2]
  refine ⟨?_, ?_, ?_, ?_, ?_, ?_⟩
  · rw [mF_eq, mWF_eq, if_neg n1, if_neg n3, if_neg n2, e0, h.F]
    rcases hw with rfl | rfl | rfl <;> decide +kernel
  · rw [mT_eq, e0, h.T]
  · rw [mW_eq, if_neg n2, e0, h.W]
  · rw [mR_eq, e0, h.R, h.P]
  · rw [mP_eq, e0, List.all_map]
    show (!isBar w && ds.all mP) = _
    rw [h.P]
  · rw [mN_eq, e0]
    exact Nat.max_le.mpr ⟨hl, h.N⟩
def dAgain (part : PyData) (lo : Int) (hi : PyData) : PyData := .tuple [.str (kS "again"), part, .int lo, hi]
def AgOk (lo : Int) (hi : PyData) (f : Int) : Prop := 0 ≤ lo ∧ lo ≤ 4 ∧ ((hi = .none ∧ f = lo + 1) ∨ ∃ h, hi = .int h ∧ lo ≤ h ∧ h ≤ 4 ∧ f = m1 h)
theorem AgOk.fac {lo f : Int} {hi part : PyData} (h : AgOk lo hi f) : mFac [part, .int lo, hi] = f := by
  obtain ⟨_, _, ⟨rfl, rfl⟩ | ⟨m, rfl, _, _, rfl⟩⟩ := h <;> rfl
theorem AgOk.pos {lo f : Int} {hi : PyData} (h : AgOk lo hi f) : 1 ≤ f := by
  obtain ⟨h0, _, ⟨rfl, rfl⟩ | ⟨m, rfl, _, _, rfl⟩⟩ := h
  · omega
  · unfold m1; split <;> omega
theorem AgOk.three {lo f : Int} {hi part : PyData} (h : AgOk lo hi f) : mThree [part, .int lo, hi] = true := by
  obtain ⟨h0, h4, h⟩ := h
  show mRange (.int lo) hi = true
  show (mWithin 0 4 (.int lo) && mHigh lo hi) = true
  have e : mWithin 0 4 (.int lo) = true := by show (decide _ && decide _) = true; simp [h0, h4]
  rw [e]
  rcases h with ⟨rfl, _⟩ | ⟨m, rfl, a, b, _⟩
  · rfl
  · show mWithin lo 4 (.int m) = true
    show (decide _ && decide _) = true
    simp [a, b]
theorem ex_again {al : List Nat} {part hi : PyData} {lo f : Int} {t : Nat} {v : Int} {r p : Bool} (h : Ex al part t v r p) (hg : AgOk lo hi f) : Ex al (dAgain part lo hi) (1 + t) (m1 v * f) p p := by
  have n1 : kS "again" ≠ kS "set" := by decide +kernel
  have n3 : kS "again" ≠ kS "not" := by decide +kernel
  have e0 : rel (kS "again") [part, .int lo, hi] = [part] := by unfold rel; rw [if_neg n1, if_pos rfl]; rfl
  unfold dAgain
  refine ⟨?_, ?_, ?_, ?_, ?_, ?_⟩
  · rw [mF_eq, mWF_eq, if_neg n1, if_neg n3, if_pos rfl, e0, hg.three]
    simp [h.F]
  · rw [mT_eq, e0]; simp [h.T]
  · rw [mW_eq, if_pos rfl, e0, hg.fac]; simp [h.W]
  · rw [mR_eq, e0, if_pos (by decide +kernel)]; simp [h.P]
  · rw [mP_eq, e0]
    have : isBar (kS "again") = false := by decide +kernel
    simp [this, h.P]
  · rw [mN_eq, e0]
    have := h.N
    simp; omega
theorem ex_not {al : List Nat} {part : PyData} {t : Nat} {v : Int} {r p : Bool} (h : Ex al part t v r p) : Ex al (.tuple [.str (kS "not"), part]) (1 + t) (m1 v) r false := by
  have n1 : kS "not" ≠ kS "set" := by decide +kernel
  have n3 : kS "not" ≠ kS "again" := by decide +kernel
  have e0 : rel (kS "not") [part] = [part] := by unfold rel; rw [if_neg n1, if_neg n3]
  refine ⟨?_, ?_, ?_, ?_, ?_, ?_⟩
  · rw [mF_eq, mWF_eq, if_neg n1, if_pos rfl, e0]
    simp [h.F]
  · rw [mT_eq, e0]; simp [h.T]
  · rw [mW_eq, if_neg n3, e0]; simp [h.W]
  · rw [mR_eq, e0, if_neg (by decide +kernel)]; simp [h.R]
  · rw [mP_eq, e0]
    have : isBar (kS "not") = true := by decide +kernel
    simp [this]
  · rw [mN_eq, e0]
    have := h.N
    simp; omega
theorem Ex.to {al : List Nat} {d : PyData} {t t' : Nat} {w w' : Int} {r r' p p' : Bool} (h : Ex al d t w r p) (e1 : t = t') (e2 : w = w') (e3 : r = r') (e4 : p = p') : Ex al d t' w' r' p' := by
  subst e1 e2 e3 e4; exact h
theorem Ex.case {al : List Nat} {d : PyData} {t : Nat} {w : Int} {r p : Bool} {tuples : Int} {bar : Bool} (h : Ex al d t w r p) (e1 : (t : Int) = tuples) (e3 : r = !bar) : CaseOk al d w tuples bar :=
  caseOk h.F (by rw [h.T]; exact e1) h.W (by rw [h.R]; exact e3) (Nat.le_trans h.N (by decide))
theorem m1_pos {v : Int} (h : 1 ≤ v) : m1 v = v := by unfold m1; split <;> omega

end Cs
namespace Cs
open PySem L2
open PyProof.Rows (envOfC)
/-! the patterns that are drawn -/
abbrev Subs (al : List Nat) (css : List (List Nat)) : Prop := ∀ cs ∈ css, cs.Sublist al
def dStar (cs : List Nat) : PyData := dAgain (dSet cs) 0 .none
/-- without all and not -/
inductive PlD (al : List Nat) : Int → PyData → Prop
  | set {room : Int} {cs : List Nat} : cs.Sublist al → PlD al room (dSet cs)
  | any {room size : Int} {c1 c2 : List (List Nat)} : 1 ≤ size → size + 1 ≤ room → (c1.length : Int) = size → (c2.length : Int) = room - size → Subs al c1 → Subs al c2 → PlD al room (.tuple [.str (kS "any"), dRow c1, dRow c2])
  | tail {room size : Int} {c1 : List (List Nat)} {cs : List Nat} : 1 ≤ size → size + 1 ≤ room → (c1.length : Int) = size → Subs al c1 → cs.Sublist al → PlD al room (.tuple (.str (kS "row") :: (c1.map dSet ++ [dStar cs])))
  | head {room size : Int} {c1 : List (List Nat)} {cs : List Nat} : 1 ≤ size → size + 1 ≤ room → (c1.length : Int) = size → Subs al c1 → cs.Sublist al → PlD al room (.tuple (.str (kS "row") :: (dStar cs :: c1.map dSet)))
  | some {room size many : Int} {c1 c2 : List (List Nat)} : 1 ≤ size → size + 1 ≤ room → 1 ≤ many → many ≤ 4 → many ≤ room - size → (c1.length : Int) = size → (c2.length : Int) = (room - size) / many → Subs al c1 → Subs al c2 →
    PlD al room (.tuple (.str (kS "row") :: (c1.map dSet ++ [dAgain (dRow c2) 0 (.int many)])))
  | rep {room many lo : Int} {hi : PyData} {c1 : List (List Nat)} : 1 ≤ many → many ≤ 4 → many + 1 ≤ room → 1 ≤ lo → lo ≤ many → (hi = .int many ∨ (hi = .none ∧ lo < many)) → (c1.length : Int) = room / many → Subs al c1 → PlD al room (dAgain (dRow c1) lo hi)
  | row {room size : Int} {c1 : List (List Nat)} : 1 ≤ size → size ≤ room → (c1.length : Int) = size → Subs al c1 → PlD al room (dRow c1)
/-- and with them, at the top alone -/
inductive PtD (al : List Nat) : Int → PyData → Prop
  | plain {room : Int} {d : PyData} : PlD al room d → PtD al room d
  | all {room size : Int} {d e : PyData} : 1 ≤ size → size + 1 ≤ room → PlD al size d → PlD al (room - size) e → PtD al room (.tuple [.str (kS "all"), d, .tuple [.str (kS "not"), e]])

end Cs
namespace Cs
open PySem L2
open PyProof.Rows (envOfC)
def sp_plain : Sp := fun vs H Q _ => ∃ (a : Addr) (al : List Nat) (room : Int) (n : Nat), vs = [.ref a, .str (S al), .int room] ∧ Alp al ∧ 1 ≤ room ∧ room ≤ 10 ∧ Src a (n + 200) H ∧
  ∀ (v : V) (d : PyData) (H' : Hp), PlD al room d → Tp H' v d → Src a n H' → Kp a H H' → Q v H'
theorem use_plain {a : Addr} {al : List Nat} {room : Int} {n : Nat} {H : Hp} {Q : VK} {E : XK} (hA : Alp al) (r1 : 1 ≤ room) (r10 : room ≤ 10) (hS : Src a (n + 200) H)
    (k : ∀ (v : V) (d : PyData) (H' : Hp), PlD al room d → Tp H' v d → Src a n H' → Kp a H H' → Q v H') : sp_plain [.ref a, .str (S al), .int room] H Q E := ⟨a, al, room, n, rfl, hA, r1, r10, hS, k⟩
section
variable {P : Program} {w : World} {K : PySem.W.Frag} {mg : Str → Option Value} {base : Heap}
theorem ok_plain (B : Blt mg) (G__law_draw : Cal P w K mg base 1 "_law_draw" ["_law_source_here", "_law_many"] sp_draw) (G__law_set : Cal P w K mg base 2 "_law_set" ["_law_source_here", "_law_alphabet_here"] sp_set)
    (G__law_row : Cal P w K mg base 3 "_law_row" ["_law_source_here", "_law_alphabet_here", "_law_many"] sp_row)
    (F : At K mg "_law_plain" s__law_plain ["_law_source_here", "_law_alphabet_here", "_law_room"]) : Cal P w K mg base 4 "_law_plain" ["_law_source_here", "_law_alphabet_here", "_law_room"] sp_plain := by
  refine F.ok sc__law_plain (fun vs H Q E h => ?_) (fun f cdv A outer s H vs Q E hr h => ?_)
  · obtain ⟨a, al, room, n, rfl, _⟩ := h
    rfl
  · obtain ⟨a, al, room, n, rfl, hA, r1, r10, hS, k⟩ := h
    refine ⟨_, (pss_cons (ps_set (i := 3) sc__law_plain.nd rfl (Or.inl rfl) (pe_c G__law_draw (hr.mono (by first | decide | omega)) (pa_cons (pv 0) (pa_cons pe_int pa_nil))))
    (pss_cons (ps_if (PW.pt (pw_or (pt_cmpR op_lt (pv 2) pe_int (nomark _)) (pw_or1 (pt_cmpR op_eq (pv 3) pe_int (nomark _)))))
    (pss_one (ps_ret (pe_c G__law_set (hr.mono (by first | decide | omega)) (pa_cons (pv 0) (pa_cons (pv 1) pa_nil)))))
    pss_nil)
    (pss_cons (ps_set (i := 4) sc__law_plain.nd rfl (Or.inl rfl) (pe_op op_add pe_int (pe_c G__law_draw (hr.mono (by first | decide | omega)) (pa_cons (pv 0) (pa_cons (pe_op op_sub (pv 2) pe_int) pa_nil)))))
    (pss_cons (ps_if (pt_cmpR op_eq (pv 3) pe_int (nomark _))
    (pss_one (ps_ret (pe_tup (pa_cons pe_str (pa_cons (pe_c G__law_row (hr.mono (by first | decide | omega)) (pa_cons (pv 0) (pa_cons (pv 1) (pa_cons (pv 4) pa_nil)))) (pa_cons (pe_c G__law_row (hr.mono (by first | decide | omega)) (pa_cons (pv 0) (pa_cons (pv 1) (pa_cons (pe_op op_sub (pv 2) (pv 4)) pa_nil)))) pa_nil))))))
    pss_nil)
    (pss_cons (ps_if (pt_cmpR op_eq (pv 3) pe_int (nomark _))
    (pss_one (ps_ret (pe_op (op_catTK (K := K) (by rfl)) (pe_c G__law_row (hr.mono (by first | decide | omega)) (pa_cons (pv 0) (pa_cons (pv 1) (pa_cons (pv 4) pa_nil)))) (pe_tup (pa_cons (pe_tup (pa_cons pe_str (pa_cons (pe_c G__law_set (hr.mono (by first | decide | omega)) (pa_cons (pv 0) (pa_cons (pv 1) pa_nil))) (pa_cons pe_int (pa_cons pe_non pa_nil))))) pa_nil)))))
    pss_nil)
    (pss_cons (ps_if (pt_cmpR op_eq (pv 3) pe_int (nomark _))
    (pss_one (ps_ret (pe_op (op_catTK (K := K) (by rfl)) (pe_tup (pa_cons pe_str (pa_cons (pe_tup (pa_cons pe_str (pa_cons (pe_c G__law_set (hr.mono (by first | decide | omega)) (pa_cons (pv 0) (pa_cons (pv 1) pa_nil))) (pa_cons pe_int (pa_cons pe_non pa_nil))))) pa_nil))) (pe_slice (sl_tupAK (K := K) (by rfl)) (pe_c G__law_row (hr.mono (by first | decide | omega)) (pa_cons (pv 0) (pa_cons (pv 1) (pa_cons (pv 4) pa_nil)))) (po_some pe_int) po_none))))
    pss_nil)
    (pss_cons (ps_set (i := 5) sc__law_plain.nd rfl (Or.inl rfl) (pe_op op_add pe_int (pe_c G__law_draw (hr.mono (by first | decide | omega)) (pa_cons (pv 0) (pa_cons (pe_callB (call_min2 rfl) (by rfl) B.min (by decide +kernel) (pa_cons pe_int (pa_cons (pe_op op_sub (pv 2) (pv 4)) pa_nil))) pa_nil)))))
    (pss_cons (ps_if (pt_cmpR op_eq (pv 3) pe_int (nomark _))
    (pss_cons (ps_set (i := 6) sc__law_plain.nd rfl (Or.inl rfl) (pe_c G__law_row (hr.mono (by first | decide | omega)) (pa_cons (pv 0) (pa_cons (pv 1) (pa_cons (pe_op op_fdiv (pe_op op_sub (pv 2) (pv 4)) (pv 5)) pa_nil)))))
    (pss_one (ps_ret (pe_op (op_catTK (K := K) (by rfl)) (pe_c G__law_row (hr.mono (by first | decide | omega)) (pa_cons (pv 0) (pa_cons (pv 1) (pa_cons (pv 4) pa_nil)))) (pe_tup (pa_cons (pe_tup (pa_cons pe_str (pa_cons (pv 6) (pa_cons pe_int (pa_cons (pv 5) pa_nil))))) pa_nil))))))
    pss_nil)
    (pss_cons (ps_if (PW.pt (pw_or (pt_cmpR op_eq (pv 3) pe_int (nomark _)) (pw_or1 (pt_cmpR op_eq (pv 3) pe_int (nomark _)))))
    (pss_cons (ps_set (i := 7) sc__law_plain.nd rfl (Or.inl rfl) (pe_op op_add pe_int (pe_c G__law_draw (hr.mono (by first | decide | omega)) (pa_cons (pv 0) (pa_cons (pv 5) pa_nil)))))
    (pss_cons (ps_set (i := 8) sc__law_plain.nd rfl (Or.inl rfl) (pe_ix (ix_listK (K := K) (by rfl)) (pe_lst (pa_cons (pv 5) (pa_cons pe_non pa_nil))) (pe_op op_mul (pe_c G__law_draw (hr.mono (by first | decide | omega)) (pa_cons (pv 0) (pa_cons pe_int pa_nil))) (pe_callTy call_int1 (by rfl) B.int (by decide +kernel) (pa_cons (pe_cmpR op_lt (pv 7) (pv 5) (nomark _)) pa_nil))) (fun _ _ => rfl)))
    (pss_one (ps_ret (pe_tup (pa_cons pe_str (pa_cons (pe_c G__law_row (hr.mono (by first | decide | omega)) (pa_cons (pv 0) (pa_cons (pv 1) (pa_cons (pe_op op_fdiv (pv 2) (pv 5)) pa_nil)))) (pa_cons (pv 7) (pa_cons (pv 8) pa_nil)))))))))
    pss_nil)
    (pss_one (ps_ret (pe_c G__law_row (hr.mono (by first | decide | omega)) (pa_cons (pv 0) (pa_cons (pv 1) (pa_cons (pe_op op_add pe_int (pe_c G__law_draw (hr.mono (by first | decide | omega)) (pa_cons (pv 0) (pa_cons (pv 2) pa_nil)))) pa_nil))))))))))))))), ?_⟩
    walk_at "go"
    refine use_draw (n := n + 199) hS (by decide) (by decide) fun way H1 w0 w1 hS1 k1 => ?_
    walk_at "go"
    have fin : ∀ (v : V) (d : PyData) (H' : Hp), PlD al room d → Tp H' v d → Src a n H' → Kp a H1 H' → Q v H' := fun v d H' h1 h2 h3 h4 => k v d H' h1 h2 h3 (k1.trans h4)
    have aset : sp_set [.ref a, .str (S al)] H1 Q E0 := use_set (n := n) hA (hS1.mono (by omega)) fun p cs H2 hc hp hS2 k2 => fin _ _ H2 (.set hc) hp hS2 k2
    refine ite2 (fun hroom => ?_) (fun hroom => ?_)
    · walk_at "go"
      exact aset
    walk_at "go"
    refine ite2 (fun _ => ?_) (fun _ => ?_)
    · walk_at "go"
      exact aset
    have r2 : 2 ≤ room := by simpa using hroom
    walk_at "go"
    refine use_draw (n := n + 198) hS1 (by omega) (by omega) fun s0 H2 s1 s2 hS2 k2 => ?_
    obtain ⟨size, hsize⟩ : ∃ size : Int, size = 1 + s0 := ⟨_, rfl⟩
    walk_at "go"
    rw [← hsize]
    refine ite2 (fun _ => ?_) (fun _ => ?_)
    · -- an any of two rows
      walk_at "go"
      refine use_row (n := n + 100) hA (by omega) (by omega) (hS2.mono (by omega)) fun p1 c1 H3 l1 sb1 hr1 hS3 k3 => ?_
      walk_at "go"
      refine use_row (n := n) hA (by omega) (by omega) (hS3.mono (by omega)) fun p2 c2 H4 l2 sb2 hr2 hS4 k4 => ?_
      walk_at "go"
      refine ⟨by show 3 ≤ sizeLine; decide, rd_newK hS4 fun p H5 pa hp eP hS5 k5 => ?_⟩
      walk_at "go"
      have t4 := TS.kp hS3 k4
      have t5 := TS.kp hS4 k5
      exact fin (.ref p) _ H5 (.any (size := size) (by omega) (by omega) l1 l2 sb1 sb2) (.tup eP (.cons (.str _) (.cons ((hr1.ts t4).ts t5) (.cons (hr2.ts t5) .nil)))) hS5 (k2.trans (k3.trans (k4.trans k5)))
    walk_at "go"
    refine ite2 (fun _ => ?_) (fun _ => ?_)
    · -- a row with a star behind it
      walk_at "go"
      refine use_row (n := n + 100) hA (by omega) (by omega) (hS2.mono (by omega)) fun p1 c1 H3 l1 sb1 hr1 hS3 k3 => ?_
      walk_at "go"
      refine use_set (n := n) hA (hS3.mono (by omega)) fun p2 cs H4 hc hp2 hS4 k4 => ?_
      walk_at "go"
      refine ⟨by show 4 ≤ sizeLine; decide, rd_newK hS4 fun q H5 qa hq eQ hS5 k5 => ?_⟩
      walk_at "go"
      refine ⟨by show 1 ≤ sizeLine; decide, rd_newK hS5 fun g H6 ga hg eG hS6 k6 => ?_⟩
      walk_at "go"
      have t4 := TS.kp hS3 k4
      have t5 := TS.kp hS4 k5
      have t6 := TS.kp hS5 k6
      obtain ⟨_, xs, e, eR, hxs⟩ := Tp.tupI hr1
      cases e
      have lx := hxs.length
      rw [List.length_cons, List.length_map] at lx
      refine rd_catT (SqT.of (t6 _ _ (t5 _ _ (t4 _ _ eR)))) (SqT.of eG) (by intro z; rw [z] at lx; simp at lx) (by rw [lx, PySem.sizeLine_eq]; show _ + 1 ≤ _; omega) (fun z => by cases z) (fun _ => rd_newK hS6 fun p H7 pa hp eP hS7 k7 => ?_)
      walk_at "go"
      have t7 := TS.kp hS6 k7
      have hstar : Tp H5 (.ref q) (dStar cs) := .tup eQ (.cons (.str _) (.cons (hp2.ts t5) (.cons (.int 0) (.cons .non .nil))))
      refine fin (.ref p) _ H7 (.tail (size := size) (by omega) (by omega) l1 sb1 hc) (.tup eP ?_) hS7 (k2.trans (k3.trans (k4.trans (k5.trans (k6.trans k7)))))
      exact (hxs.ts (t4.trans (t5.trans (t6.trans t7)))).app (.cons (hstar.ts (t6.trans t7)) .nil)
    walk_at "go"
    refine ite2 (fun _ => ?_) (fun _ => ?_)
    · -- a star ahead of a row
      walk_at "go"
      refine use_set (n := n + 100) hA (hS2.mono (by omega)) fun p2 cs H4 hc hp2 hS4 k4 => ?_
      walk_at "go"
      refine ⟨by show 4 ≤ sizeLine; decide, rd_newK hS4 fun q H5 qa hq eQ hS5 k5 => ?_⟩
      walk_at "go"
      refine ⟨by show 2 ≤ sizeLine; decide, rd_newK hS5 fun g H6 ga hg eG hS6 k6 => ?_⟩
      walk_at "go"
      refine use_row (n := n) hA (by omega) (by omega) (hS6.mono (by omega)) fun p1 c1 H7 l1 sb1 hr1 hS7 k7 => ?_
      walk_at "go"
      have t5 := TS.kp hS4 k5
      have t6 := TS.kp hS5 k6
      have t7 := TS.kp hS6 k7
      obtain ⟨_, xs, e, eR, hxs⟩ := Tp.tupI hr1
      cases e
      cases hxs with
      | @cons v0 xs' _ _ _ hxs =>
        have lx := hxs.length
        rw [List.length_map] at lx
        refine rd_sla (SqT.of eR) (fun z => ?_) (fun _ => ?_)
        · exfalso
          have z1 := z.1
          have e : HT.sIx (v0 :: xs').length 0 (some 1) = 1 := by
            show HT.sIx (v0 :: xs').length 0 (some ((1 : Nat) : Int)) = 1
            rw [HT.sIx_nat, List.length_cons]; omega
          omega
        rw [cut1]
        refine rd_newK hS7 fun g2 H8 ga2 hg2 eG2 hS8 k8 => ?_
        have t8 := TS.kp hS7 k8
        refine rd_catT (SqT.of (t8 _ _ (t7 _ _ eG))) (SqT.of eG2) (by simp) (by rw [lx, PySem.sizeLine_eq]; show 2 + _ ≤ _; omega) (fun z => by rw [z] at lx; simp at lx; omega) (fun _ => rd_newK hS8 fun p H9 pa hp eP hS9 k9 => ?_)
        walk_at "go"
        have t9 := TS.kp hS8 k9
        have hstar : Tp H5 (.ref q) (dStar cs) := .tup eQ (.cons (.str _) (.cons (hp2.ts t5) (.cons (.int 0) (.cons .non .nil))))
        refine fin (.ref p) _ H9 (.head (size := size) (by omega) (by omega) l1 sb1 hc) (.tup eP ?_) hS9 (k2.trans (k4.trans (k5.trans (k6.trans (k7.trans (k8.trans k9))))))
        exact .cons (.str _) (.cons (hstar.ts (t6.trans (t7.trans (t8.trans t9)))) (hxs.ts (t8.trans t9)))
    walk_at "go"
    refine ⟨_, _, rfl, ?_⟩
    obtain ⟨mm, hmm⟩ : ∃ mm : Int, mm = (if room - size < 4 then room - size else 4) := ⟨_, rfl⟩
    walk_at "go"
    rw [← hmm]
    have m1 : 1 ≤ mm ∧ mm ≤ 4 ∧ mm ≤ room - size := by rw [hmm]; split <;> omega
    refine use_draw (n := n + 197) hS2 (by omega) (by omega) fun c0 H3 c1 c2 hS3 k3 => ?_
    obtain ⟨many, hmany⟩ : ∃ many : Int, many = 1 + c0 := ⟨_, rfl⟩
    walk_at "go"
    rw [← hmany]
    have k23 := k2.trans k3
    refine ite2 (fun _ => ?_) (fun _ => ?_)
    · -- a row with at most many of another behind it
      walk_at "go"
      refine rd_i (C := CDiv) (b := many) ⟨by omega, by omega⟩ ?_
      walk_at "go"
      have q0 : 0 ≤ (room - size) / many := Int.ediv_nonneg (by omega) (by omega)
      have q1 : (room - size) / many ≤ 9 := Int.le_trans (Int.ediv_le_self _ (by omega)) (by omega)
      refine use_row (n := n + 120) hA q0 (by omega) (hS3.mono (by omega)) fun p2 d2 H4 l2 sb2 hr2 hS4 k4 => ?_
      walk_at "go"
      refine use_row (n := n + 20) hA (by omega) (by omega) (hS4.mono (by omega)) fun p1 d1 H5 l1 sb1 hr1 hS5 k5 => ?_
      walk_at "go"
      refine ⟨by show 4 ≤ sizeLine; decide, rd_newK hS5 fun q H6 qa hq eQ hS6 k6 => ?_⟩
      walk_at "go"
      refine ⟨by show 1 ≤ sizeLine; decide, rd_newK hS6 fun g H7 ga hg eG hS7 k7 => ?_⟩
      walk_at "go"
      have t5 := TS.kp hS4 k5
      have t6 := TS.kp hS5 k6
      have t7 := TS.kp hS6 k7
      obtain ⟨_, xs, e, eR, hxs⟩ := Tp.tupI hr1
      cases e
      have lx := hxs.length
      rw [List.length_cons, List.length_map] at lx
      refine rd_catT (SqT.of (t7 _ _ (t6 _ _ eR))) (SqT.of eG) (by intro z; rw [z] at lx; simp at lx) (by rw [lx, PySem.sizeLine_eq]; show _ + 1 ≤ _; omega) (fun z => by cases z) (fun _ => rd_newK hS7 fun p H8 pa hp eP hS8 k8 => ?_)
      walk_at "go"
      have t8 := TS.kp hS7 k8
      have hag : Tp H6 (.ref q) (dAgain (dRow d2) 0 (.int many)) := .tup eQ (.cons (.str _) (.cons (hr2.ts (t5.trans t6)) (.cons (.int 0) (.cons (.int many) .nil))))
      refine fin (.ref p) _ H8 (.some (size := size) (many := many) (by omega) (by omega) (by omega) (by omega) (by omega) l1 l2 sb1 sb2) (.tup eP ?_) (hS8.mono (by omega)) (k23.trans (k4.trans (k5.trans (k6.trans (k7.trans k8)))))
      exact (hxs.ts (t6.trans (t7.trans t8))).app (.cons (hag.ts (t7.trans t8)) .nil)
    walk_at "go"
    refine ite2 (fun _ => ?_) (fun _ => ?_)
    rotate_left
    walk_at "go"
    refine ite2 (fun _ => ?_) (fun _ => ?_)
    rotate_left
    · -- a row
      walk_at "go"
      refine use_draw (n := n + 196) hS3 (by omega) (by omega) fun z0 H4 z1 z2 hS4 k4 => ?_
      walk_at "go"
      refine use_row (n := n) hA (by omega) (by omega) (hS4.mono (by omega)) fun p css H5 hl hsub hr hS5 k5 => ?_
      exact fin (.ref p) _ H5 (.row (by omega) (by omega) hl hsub) hr hS5 (k23.trans (k4.trans k5))
    all_goals
      walk_at "go"
      refine use_draw (n := n + 196) hS3 (by omega) (by omega) fun lo0 H4 lo1 lo2 hS4 k4 => ?_
      obtain ⟨lo, hlo⟩ : ∃ lo : Int, lo = 1 + lo0 := ⟨_, rfl⟩
      walk_at "go"
      rw [← hlo]
      refine ⟨by show 2 ≤ sizeLine; decide, rd_newK hS4 fun g H5 ga hg eG hS5 k5 => ?_⟩
      walk_at "go"
      refine use_draw (n := n + 195) hS5 (by decide) (by decide) fun b H6 b0 b1 hS6 k6 => ?_
      walk_at "go"
      refine .inr ⟨_, rfl, ?_⟩
      walk_at "go"
      refine rd_i (C := CMul) (a := b) (.inl ⟨by omega, by omega⟩) ?_
      obtain ⟨v, hi, hv, hiv, hhi⟩ : ∃ (v : V) (hi : PyData), atI [V.int many, .non] (b * (if decide (lo < many) = true then 1 else 0)) = some v ∧ (∀ H, Tp H v hi) ∧ (hi = .int many ∨ (hi = .none ∧ lo < many)) := by
        rcases (by omega : b = 0 ∨ b = 1) with rfl | rfl
        · exact ⟨_, .int many, by rw [Int.zero_mul]; rfl, fun _ => .int _, .inl rfl⟩
        · by_cases hlt : lo < many
          · exact ⟨_, .none, by rw [decide_eq_true hlt]; rfl, fun _ => .non, .inr ⟨rfl, hlt⟩⟩
          · exact ⟨_, .int many, by rw [decide_eq_false hlt]; rfl, fun _ => .int _, .inl rfl⟩
      refine rd_ixl (SqL.of (k6.at ga eG)) hv ?_
      walk_at "go"
      refine rd_i (C := CDiv) (b := many) ⟨by omega, by omega⟩ ?_
      walk_at "go"
      have q0 : 0 ≤ room / many := Int.ediv_nonneg (by omega) (by omega)
      have q1 : room / many ≤ 10 := Int.le_trans (Int.ediv_le_self _ (by omega)) (by omega)
      refine use_row (n := n + 20) hA q0 (by omega) (hS6.mono (by omega)) fun p1 d1 H7 l1 sb1 hr1 hS7 k7 => ?_
      walk_at "go"
      refine ⟨by show 4 ≤ sizeLine; decide, rd_newK hS7 fun q H8 qa hq eQ hS8 k8 => ?_⟩
      walk_at "go"
      have t8 := TS.kp hS7 k8
      exact fin (.ref q) _ H8 (.rep (many := many) (lo := lo) (by omega) (by omega) (by omega) (by omega) (by omega) hhi l1 sb1) (.tup eQ (.cons (.str _) (.cons (hr1.ts t8) (.cons (.int _) (.cons (hiv _) .nil))))) (hS8.mono (by omega)) (k23.trans (k4.trans (k5.trans (k6.trans (k7.trans k8)))))
end

end Cs
namespace Cs
open PySem L2
open PyProof.Rows (envOfC)
def sp_pattern_ : Sp := fun vs H Q _ => ∃ (a : Addr) (al : List Nat) (room : Int) (n : Nat), vs = [.ref a, .str (S al), .int room] ∧ Alp al ∧ 1 ≤ room ∧ room ≤ 10 ∧ Src a (n + 500) H ∧
  ∀ (v : V) (d : PyData) (H' : Hp), PtD al room d → Tp H' v d → Src a n H' → Kp a H H' → Q v H'
theorem use_pattern_ {a : Addr} {al : List Nat} {room : Int} {n : Nat} {H : Hp} {Q : VK} {E : XK} (hA : Alp al) (r1 : 1 ≤ room) (r10 : room ≤ 10) (hS : Src a (n + 500) H)
    (k : ∀ (v : V) (d : PyData) (H' : Hp), PtD al room d → Tp H' v d → Src a n H' → Kp a H H' → Q v H') : sp_pattern_ [.ref a, .str (S al), .int room] H Q E := ⟨a, al, room, n, rfl, hA, r1, r10, hS, k⟩
section
variable {P : Program} {w : World} {K : PySem.W.Frag} {mg : Str → Option Value} {base : Heap}
theorem ok_pattern_ (G__law_draw : Cal P w K mg base 1 "_law_draw" ["_law_source_here", "_law_many"] sp_draw)
    (G__law_plain : Cal P w K mg base 4 "_law_plain" ["_law_source_here", "_law_alphabet_here", "_law_room"] sp_plain)
    (F : At K mg "_law_pattern" s__law_pattern ["_law_source_here", "_law_alphabet_here", "_law_room"]) : Cal P w K mg base 5 "_law_pattern" ["_law_source_here", "_law_alphabet_here", "_law_room"] sp_pattern_ := by
  refine F.ok sc__law_pattern (fun vs H Q E h => ?_) (fun f cdv A outer s H vs Q E hr h => ?_)
  · obtain ⟨a, al, room, n, rfl, _⟩ := h
    rfl
  · obtain ⟨a, al, room, n, rfl, hA, r1, r10, hS, k⟩ := h
    refine ⟨_, (pss_cons (ps_if (PW.pt (pw_or (pt_cmpR op_lt (pv 2) pe_int (nomark _)) (pw_or1 (pt_cmpR op_gt (pe_c G__law_draw (hr.mono (by first | decide | omega)) (pa_cons (pv 0) (pa_cons pe_int pa_nil))) pe_int (nomark _)))))
    (pss_one (ps_ret (pe_c G__law_plain (hr.mono (by first | decide | omega)) (pa_cons (pv 0) (pa_cons (pv 1) (pa_cons (pv 2) pa_nil))))))
    pss_nil)
    (pss_cons (ps_set (i := 3) sc__law_pattern.nd rfl (Or.inl rfl) (pe_op op_add pe_int (pe_c G__law_draw (hr.mono (by first | decide | omega)) (pa_cons (pv 0) (pa_cons (pe_op op_sub (pv 2) pe_int) pa_nil)))))
    (pss_cons (ps_set (i := 4) sc__law_pattern.nd rfl (Or.inl rfl) (pe_tup (pa_cons pe_str (pa_cons (pe_c G__law_plain (hr.mono (by first | decide | omega)) (pa_cons (pv 0) (pa_cons (pv 1) (pa_cons (pe_op op_sub (pv 2) (pv 3)) pa_nil)))) pa_nil))))
    (pss_one (ps_ret (pe_tup (pa_cons pe_str (pa_cons (pe_c G__law_plain (hr.mono (by first | decide | omega)) (pa_cons (pv 0) (pa_cons (pv 1) (pa_cons (pv 3) pa_nil)))) (pa_cons (pv 4) pa_nil))))))))), ?_⟩
    walk_at "go"
    refine ite2 (fun hroom => ?_) (fun hroom => ?_)
    · walk_at "go"
      exact use_plain (n := n) hA r1 r10 (hS.mono (by omega)) fun v d H' h1 h2 h3 h4 => k v d H' (.plain h1) h2 h3 h4
    have r2 : 2 ≤ room := by simpa using hroom
    walk_at "go"
    refine use_draw (n := n + 499) hS (by decide) (by decide) fun c H1 c0 c1 hS1 k1 => ?_
    walk_at "go"
    refine ite2 (fun _ => ?_) (fun _ => ?_)
    · walk_at "go"
      exact use_plain (n := n) hA r1 r10 (hS1.mono (by omega)) fun v d H' h1 h2 h3 h4 => k v d H' (.plain h1) h2 h3 (k1.trans h4)
    walk_at "go"
    refine use_draw (n := n + 498) hS1 (by omega) (by omega) fun s0 H2 s1 s2 hS2 k2 => ?_
    obtain ⟨size, hsize⟩ : ∃ size : Int, size = 1 + s0 := ⟨_, rfl⟩
    walk_at "go"
    rw [← hsize]
    refine use_plain (n := n + 250) hA (by omega) (by omega) (hS2.mono (by omega)) fun v2 d2 H3 p2 h2 hS3 k3 => ?_
    walk_at "go"
    refine ⟨by show 2 ≤ sizeLine; decide, rd_newK hS3 fun q H4 qa hq eQ hS4 k4 => ?_⟩
    walk_at "go"
    refine use_plain (n := n) hA (by omega) (by omega) (hS4.mono (by omega)) fun v1 d1 H5 p1 h1 hS5 k5 => ?_
    walk_at "go"
    refine ⟨by show 3 ≤ sizeLine; decide, rd_newK hS5 fun p H6 pa hp eP hS6 k6 => ?_⟩
    walk_at "go"
    have t4 := TS.kp hS3 k4
    have t5 := TS.kp hS4 k5
    have t6 := TS.kp hS5 k6
    have hq' : Tp H4 (.ref q) (.tuple [.str (kS "not"), d2]) := .tup eQ (.cons (.str _) (.cons (h2.ts t4) .nil))
    exact k (.ref p) _ H6 (.all (size := size) (by omega) (by omega) p1 p2) (.tup eP (.cons (.str _) (.cons (h1.ts t6) (.cons (hq'.ts (t5.trans t6)) .nil)))) hS6 (k1.trans (k2.trans (k3.trans (k4.trans (k5.trans k6)))))
end

end Cs
namespace Cs
open PySem L2
open PyProof.Rows (envOfC)
/-! nested patterns, any of the kinds at any depth -/
def bN : Nat → Nat
  | 0 => 20
  | k + 1 => 4 * bN k
theorem bN_lo : ∀ k, 20 ≤ bN k
  | 0 => Nat.le_refl _
  | k + 1 => by
    have := bN_lo k
    show 20 ≤ 4 * bN k
    omega
inductive NsD (al : List Nat) : Nat → PyData → Prop
  | set {m : Nat} {cs : List Nat} : cs.Sublist al → NsD al m (dSet cs)
  | again {m : Nat} {d hi : PyData} {lo f : Int} : NsD al m d → AgOk lo hi f → NsD al (m + 1) (dAgain d lo hi)
  | not {m : Nat} {d : PyData} : NsD al m d → NsD al (m + 1) (.tuple [.str (kS "not"), d])
  | many {m : Nat} {ds : List PyData} {w : Str} : (w = kS "row" ∨ w = kS "any" ∨ w = kS "all") → ds.length ≤ 3 → (∀ d ∈ ds, NsD al m d) → NsD al (m + 1) (.tuple (.str w :: ds))
def sp_nested (b : Nat) : Sp := fun vs H Q _ => ∃ (a : Addr) (al : List Nat) (m n : Nat), vs = [.ref a, .str (S al), .int m] ∧ m < b ∧ Alp al ∧ Src a (n + bN m) H ∧
  ∀ (v : V) (d : PyData) (H' : Hp), NsD al m d → Tp H' v d → Src a n H' → Kp a H H' → Q v H'
theorem use_nested {a : Addr} {al : List Nat} {b m n : Nat} {H : Hp} {Q : VK} {E : XK} {x : Int} (e : x = (m : Int)) (hb : m < b) (hA : Alp al) (hS : Src a (n + bN m) H)
    (k : ∀ (v : V) (d : PyData) (H' : Hp), NsD al m d → Tp H' v d → Src a n H' → Kp a H H' → Q v H') : sp_nested b [.ref a, .str (S al), .int x] H Q E := ⟨a, al, m, n, by rw [e], hb, hA, hS, k⟩
section
variable {P : Program} {w : World} {K : PySem.W.Frag} {mg : Str → Option Value} {base : Heap}
theorem ok_nested (B : Blt mg) (G__law_draw : Cal P w K mg base 1 "_law_draw" ["_law_source_here", "_law_many"] sp_draw) (G__law_set : Cal P w K mg base 2 "_law_set" ["_law_source_here", "_law_alphabet_here"] sp_set)
    (F : At K mg "_law_nested" s__law_nested ["_law_source_here", "_law_alphabet_here", "_law_depth"]) : ∀ b : Nat, Cal P w K mg base (b + 3) "_law_nested" ["_law_source_here", "_law_alphabet_here", "_law_depth"] (sp_nested b) := by
  intro b
  induction b with
  | zero => exact F.ok (k := 2) sc__law_nested (fun vs H Q E h => by obtain ⟨a, al, m, n, rfl, _⟩ := h; rfl) (fun f cdv A outer s H vs Q E hr h => by obtain ⟨_, _, m, _, _, hb, _⟩ := h; omega)
  | succ b ih =>
    have G__law_nested := ih
    refine F.ok (k := b + 3) sc__law_nested (fun vs H Q E h => ?_) (fun f cdv A outer s H vs Q E hr h => ?_)
    · obtain ⟨a, al, m, n, rfl, _⟩ := h
      rfl
    · obtain ⟨a, al, m, n, rfl, hb, hA, hS, k⟩ := h
      refine ⟨_, (pss_cons (ps_set (i := 3) sc__law_nested.nd rfl (Or.inl rfl) (pe_c G__law_draw (hr.mono (by first | decide | omega)) (pa_cons (pv 0) (pa_cons pe_int pa_nil))))
    (pss_cons (ps_if (PW.pt (pw_or (pt_cmpR op_eq (pv 2) pe_int (nomark _)) (pw_or1 (pt_cmpR op_eq (pv 3) pe_int (nomark _)))))
    (pss_one (ps_ret (pe_c G__law_set (hr.mono (by first | decide | omega)) (pa_cons (pv 0) (pa_cons (pv 1) pa_nil)))))
    pss_nil)
    (pss_cons (ps_if (pt_cmpR op_eq (pv 3) pe_int (nomark _))
    (pss_cons (ps_set (i := 4) sc__law_nested.nd rfl (Or.inl rfl) (pe_c G__law_draw (hr.mono (by first | decide | omega)) (pa_cons (pv 0) (pa_cons pe_int pa_nil))))
    (pss_cons (ps_set (i := 5) sc__law_nested.nd rfl (Or.inl rfl) (pe_ix (ix_listK (K := K) (by rfl)) (pe_lst (pa_cons pe_non (pa_cons (pe_op op_add (pv 4) (pe_c G__law_draw (hr.mono (by first | decide | omega)) (pa_cons (pv 0) (pa_cons (pe_op op_sub pe_int (pv 4)) pa_nil)))) pa_nil))) (pe_c G__law_draw (hr.mono (by first | decide | omega)) (pa_cons (pv 0) (pa_cons pe_int pa_nil))) (fun _ _ => rfl)))
    (pss_one (ps_ret (pe_tup (pa_cons pe_str (pa_cons (pe_c G__law_nested (hr.mono (by first | decide | omega)) (pa_cons (pv 0) (pa_cons (pv 1) (pa_cons (pe_op op_sub (pv 2) pe_int) pa_nil)))) (pa_cons (pv 4) (pa_cons (pv 5) pa_nil)))))))))
    pss_nil)
    (pss_cons (ps_if (pt_cmpR op_eq (pv 3) pe_int (nomark _))
    (pss_one (ps_ret (pe_tup (pa_cons pe_str (pa_cons (pe_c G__law_nested (hr.mono (by first | decide | omega)) (pa_cons (pv 0) (pa_cons (pv 1) (pa_cons (pe_op op_sub (pv 2) pe_int) pa_nil)))) pa_nil)))))
    pss_nil)
    (pss_cons (ps_setLc (i := 6) (own := [("_law_k", 7)]) rfl sc__law_nested.nd rfl rfl (sw_true rfl rfl rfl (by decide +kernel)) (pi_range1 (by rfl) B.range (pa_cons (pe_c G__law_draw (hr.mono (by first | decide | omega)) (pa_cons (pv 0) (pa_cons pe_int pa_nil))) pa_nil)) (blkOk_by (N := ["_law_source_here", "_law_alphabet_here", "_law_depth", "_law_way", "_law_low", "_law_high", "_law_parts", "_law_k"]) (sc := defScope s__law_nested) (by decide +kernel)) (fun _ _ _ _ _ => (pg_name (i := 7) sc__law_nested.nd rfl (Or.inl rfl))) (fun _ _ _ _ _ => pts_nil) (fun _ _ _ _ _ => (pe_c G__law_nested (hr.mono (by first | decide | omega)) (pa_cons (pv 0) (pa_cons (pv 1) (pa_cons (pe_op op_sub (pv 2) pe_int) pa_nil))))))
    (pss_one (ps_ret (pe_op (op_catTK (K := K) (by rfl)) (pe_tup (pa_cons (pe_ix (ix_listK (K := K) (by rfl)) (pe_lst (pa_cons pe_str (pa_cons pe_str (pa_cons pe_str pa_nil)))) (pe_op op_mod (pv 3) pe_int) (fun _ _ => rfl)) pa_nil)) (pe_callTy (call_tuple_ofK (K := K) (by rfl)) (by rfl) B.tuple (by decide +kernel) (pa_cons (pv 6) pa_nil)))))))))), ?_⟩
      have hlo := bN_lo m
      have e1 : n + bN m = n + (bN m - 1) + 1 := by omega
      rw [e1] at hS
      walk_at "go"
      refine use_draw hS (by decide) (by decide) fun way H1 w0 w1 hS1 k1 => ?_
      have aset : sp_set [.ref a, .str (S al)] H1 Q E0 := use_set (n := n) hA (hS1.mono (by omega)) fun p cs H2 hc hp hS2 k2 => k _ _ H2 (.set hc) hp hS2 (k1.trans k2)
      walk_at "go"
      refine ite2 (fun _ => ?_) (fun hm => ?_)
      · walk_at "go"
        exact aset
      walk_at "go"
      refine ite2 (fun _ => ?_) (fun hw => ?_)
      · walk_at "go"
        exact aset
      have hm' : (m : Int) ≠ 0 := by
        intro z
        apply hm
        rw [z]; rfl
      have hw' : way ≠ 0 := by
        intro z
        apply hw
        rw [z]; rfl
      obtain ⟨m, rfl⟩ : ∃ j, m = j + 1 := ⟨m - 1, by omega⟩
      have eb : bN (m + 1) = 4 * bN m := rfl
      have hlo := bN_lo m
      have ed : ((m + 1 : Nat) : Int) - 1 = (m : Int) := by omega
      walk_at "go"
      refine ite2 (fun _ => ?_) (fun hw1 => ?_)
      · -- an again
        walk_at "go"
        refine use_draw (n := n + (bN (m + 1) - 2)) (hS1.mono (by omega)) (by decide) (by decide) fun lo H2 lo0 lo1 hS2 k2 => ?_
        walk_at "go"
        refine use_draw (n := n + (bN (m + 1) - 3)) (hS2.mono (by omega)) (by omega) (by omega) fun c H3 c0 c1 hS3 k3 => ?_
        walk_at "go"
        refine ⟨by show 2 ≤ sizeLine; decide, rd_newK hS3 fun g H4 ga hg eG hS4 k4 => ?_⟩
        walk_at "go"
        refine use_draw (n := n + (bN (m + 1) - 4)) (hS4.mono (by omega)) (by decide) (by decide) fun e H5 e0 e1 hS5 k5 => ?_
        obtain ⟨v, hi, fac, hv, hiv, hag⟩ : ∃ (v : V) (hi : PyData) (f : Int), atI [V.non, .int (lo + c)] e = some v ∧ (∀ H, Tp H v hi) ∧ AgOk lo hi f := by
          rcases (by omega : e = 0 ∨ e = 1) with rfl | rfl
          · exact ⟨_, .none, _, rfl, fun _ => .non, lo0, by omega, .inl ⟨rfl, rfl⟩⟩
          · exact ⟨_, .int (lo + c), _, rfl, fun _ => .int _, lo0, by omega, .inr ⟨_, rfl, by omega, by omega, rfl⟩⟩
        refine rd_ixl (SqL.of (k5.at ga eG)) hv ?_
        walk_at "go"
        refine use_nested (m := m) (n := n) ed (by omega) hA (hS5.mono (by omega)) fun x d H6 hd hx hS6 k6 => ?_
        walk_at "go"
        refine ⟨by show 4 ≤ sizeLine; decide, rd_newK hS6 fun q H7 qa hq eQ hS7 k7 => ?_⟩
        walk_at "go"
        exact k (.ref q) _ H7 (.again hd hag) (.tup eQ (.cons (.str _) (.cons (hx.ts (TS.kp hS6 k7)) (.cons (.int _) (.cons (hiv _) .nil))))) hS7 (k1.trans (k2.trans (k3.trans (k4.trans (k5.trans (k6.trans k7))))))
      walk_at "go"
      refine ite2 (fun _ => ?_) (fun hw2 => ?_)
      · -- a not
        walk_at "go"
        refine use_nested (m := m) (n := n) ed (by omega) hA (hS1.mono (by omega)) fun x d H6 hd hx hS6 k6 => ?_
        walk_at "go"
        refine ⟨by show 2 ≤ sizeLine; decide, rd_newK hS6 fun q H7 qa hq eQ hS7 k7 => ?_⟩
        walk_at "go"
        exact k (.ref q) _ H7 (.not hd) (.tup eQ (.cons (.str _) (.cons (hx.ts (TS.kp hS6 k7)) .nil))) hS7 (k1.trans (k6.trans k7))
      walk_at "go"
      refine use_draw (n := n + (bN (m + 1) - 2)) (hS1.mono (by omega)) (by decide) (by decide) fun many H2 m0 m1 hS2 k2 => ?_
      walk_at "go"
      refine rd_rng1j (by omega) (by omega) ?_
      intro D hD
      have Da : D ≠ a := hS2.ne hD
      have k12 := k1.trans k2
      have hD0 : H D = none := k12.none Da hD
      refine lc_range (lo := 0) (n := many.toNat) (fun i H' => ∃ (vs : List V) (ds : List PyData), H' D = some (.lst vs) ∧ TpAll H' vs ds ∧ ds.length = i ∧ (∀ d ∈ ds, NsD al m d) ∧ Src a (n + bN m * (3 - i)) H' ∧ Kp a H H') ?_ ?_ ?_
      · refine ⟨[], [], upd_same, .nil, rfl, by simp, (hS2.lay Da).mono ?_, k12.lay hD0⟩
        show n + bN m * 3 ≤ _
        omega
      · rintro i H' hi ⟨vs, ds, eD, hv, hl, hds, hS', kp⟩
        walk_at "go"
        refine ⟨rfl, ?_⟩
        walk_at "go"
        have e7 : n + bN m * (3 - i) = n + bN m * (3 - (i + 1)) + bN m := by
          have : 3 - i = 3 - (i + 1) + 1 := by omega
          rw [this, Nat.mul_succ]; omega
        rw [e7] at hS'
        refine use_nested (m := m) ed (by omega) hA hS' fun x d H2 hd hx hS2 k2 => ?_
        have lv : vs.length = i := by rw [hv.length, hl]
        have eD2 := k2.at Da eD
        have t2 : TS H2 (upd H2 D (.lst (vs ++ [x]))) := TS.set eD2
        refine ⟨vs, eD2, by rw [lv, PySem.sizeLine_eq]; omega, vs ++ [x], ds ++ [d], upd_same, ((hv.ts (TS.kp hS' k2)).app (.cons hx .nil)).ts t2, by rw [List.length_append, hl]; rfl, ?_, hS2.lay Da, (kp.trans k2).lay hD0⟩
        intro c hc
        rcases List.mem_append.mp hc with hc | hc
        · exact hds c hc
        · rw [List.mem_singleton.mp hc]; exact hd
      · rintro H4 ⟨vs, ds, eD, hv, hl, hds, hS4, kp⟩
        have lv : vs.length = many.toNat := by rw [hv.length, hl]
        walk_at "go"
        refine ⟨by show 3 ≤ sizeLine; decide, rd_newK hS4 fun g H5 ga hg eG hS5 k5 => ?_⟩
        walk_at "go"
        refine rd_i (show (0 : Int) < 3 by decide) ?_
        obtain ⟨u, hu, huw⟩ : ∃ u : Str, atI [V.str (kS "row"), .str (kS "any"), .str (kS "all")] (way % 3) = some (.str u) ∧ (u = kS "row" ∨ u = kS "any" ∨ u = kS "all") := by
          rcases (by omega : way % 3 = 0 ∨ way % 3 = 1 ∨ way % 3 = 2) with e | e | e <;> rw [e]
          · exact ⟨_, rfl, .inl rfl⟩
          · exact ⟨_, rfl, .inr (.inl rfl)⟩
          · exact ⟨_, rfl, .inr (.inr rfl)⟩
        walk_at "go"
        refine rd_ixl (SqL.of eG) hu ?_
        walk_at "go"
        refine ⟨by show 1 ≤ sizeLine; decide, rd_newK hS5 fun h H6 ha hh eH hS6 k6 => ?_⟩
        walk_at "go"
        refine rd_tupl (SqL.of (k6.at Da (k5.at Da eD))) (rd_newK hS6 fun q H7 qa hq eQ hS7 k7 => ?_)
        have t5 := TS.kp hS4 k5
        have t6 := TS.kp hS5 k6
        have t7 := TS.kp hS6 k7
        refine rd_catT (SqT.of (t7 _ _ eH)) (SqT.of eQ) (by simp) (by rw [lv, PySem.sizeLine_eq]; show 1 + _ ≤ _; omega) (fun z => ?_) (fun _ => rd_newK hS7 fun r H8 ra hr8 eR hS8 k8 => ?_)
        · walk_at "go"
          subst z
          have e0 : ds = [] := List.length_eq_zero_iff.mp hv.length.symm
          subst e0
          exact k (.ref h) _ H7 (.many (ds := []) huw (by simp) (by simp)) (.tup (t7 _ _ eH) (.cons (.str _) .nil)) (hS7.mono (by omega)) (kp.trans (k5.trans (k6.trans k7)))
        · walk_at "go"
          have t8 := TS.kp hS7 k8
          exact k (.ref r) _ H8 (.many huw (by omega) hds) (.tup eR (.cons (.str _) (hv.ts (t5.trans (t6.trans (t7.trans t8)))))) (hS8.mono (by omega)) (kp.trans (k5.trans (k6.trans (k7.trans k8))))
end

end Cs
namespace Cs
open PySem L2
open PyProof.Rows (envOfC)
/-! the source of draws for one turn: a new list -/
def sp_source (K : PySem.W.Frag) : Sp := fun vs H Q _ => ∃ (a : Addr) (ns : List Int) (k : Int), vs = [.ref a, .int k] ∧ SqL K H a (ns.map V.int) ∧ 0 ≤ k ∧ k < 1000 ∧ ∀ (p : Addr) (H' : Hp), H p = none → Same H H' → Src p (2 ^ 39) H' → Q (.ref p) H'
theorem at_int {ns : List Int} {k : Int} (h0 : 0 ≤ k) (h1 : 0 < ns.length) : ∃ c : Int, atI (ns.map V.int) (k % (((ns.map V.int).length : Nat) : Int)) = some (.int c) := by
  have hl : (ns.map V.int).length = ns.length := List.length_map ..
  have p0 : 0 ≤ k % ((ns.length : Nat) : Int) := Int.emod_nonneg _ (by omega)
  have p1 : k % ((ns.length : Nat) : Int) < ns.length := Int.emod_lt_of_pos _ (by omega)
  obtain ⟨j, hj⟩ : ∃ j : Nat, k % ((ns.length : Nat) : Int) = (j : Int) := ⟨(k % ((ns.length : Nat) : Int)).toNat, by omega⟩
  have hj2 : j < ns.length := by omega
  refine ⟨ns[j], ?_⟩
  rw [hl, hj]
  exact atI_nat (by rw [List.getElem?_map, List.getElem?_eq_getElem hj2]; rfl)
section
variable {P : Program} {w : World} {K : PySem.W.Frag} {mg : Str → Option Value} {base : Heap}
theorem ok_source (B : Blt mg) (F : At K mg "_law_source" s__law_source ["_law_script", "_law_k"]) : Cal P w K mg base 1 "_law_source" ["_law_script", "_law_k"] (sp_source K) := by
  refine F.ok sc__law_source (fun vs H Q E h => ?_) (fun f cdv A outer s H vs Q E hr h => ?_)
  · obtain ⟨a, ns, k, rfl, _⟩ := h
    rfl
  · obtain ⟨a, ns, k, rfl, hS, k0, k1, kk⟩ := h
    refine ⟨_, (pss_cons (ps_set (i := 2) sc__law_source.nd rfl (Or.inl rfl) pe_int)
    (pss_cons (ps_set (i := 3) sc__law_source.nd rfl (Or.inl rfl) pe_int)
    (pss_cons (ps_if (pt_cmpR op_gt (pe_callB (call_len_seqK (K := K) (by rfl)) (by rfl) B.len PySem.boot_len (pa_cons (pv 0) pa_nil)) pe_int (nomark _))
    (pss_one (ps_set (i := 2) sc__law_source.nd rfl (Or.inl rfl) (pe_ix (ix_listK (K := K) (by rfl)) (pv 0) (pe_op op_mod (pv 1) (pe_callB (call_len_seqK (K := K) (by rfl)) (by rfl) B.len PySem.boot_len (pa_cons (pv 0) pa_nil))) (fun _ _ => rfl))))
    pss_nil)
    (pss_cons (ps_if (PW.pt (pw_and (pt_cmpR op_lt (pv 1) (pe_callB (call_len_seqK (K := K) (by rfl)) (by rfl) B.len PySem.boot_len (pa_cons (pv 0) pa_nil)) (nomark _)) (pw_and1 (pt_cmpR op_ge (pv 2) (pe_op op_pow pe_int pe_int) (nomark _)))))
    (pss_one (ps_set (i := 3) sc__law_source.nd rfl (Or.inl rfl) (pv 2)))
    pss_nil)
    (pss_one (ps_ret (pe_lst (pa_cons (pv 3) (pa_cons (pe_op op_add (pe_op op_add (pe_op op_mod (pv 2) pe_int) (pe_op op_mul pe_int (pv 1))) pe_int) (pa_cons pe_int pa_nil)))))))))), ?_⟩
    have fin : ∀ d c : Int, (c % 2147483647 + 7919000 * k + 104729) < 2 ^ 40 ∧ ∀ p, H p = none → Q (.ref p) (upd H p (.lst [.int d, .int (c % 2147483647 + 7919000 * k + 104729), .int 0])) := fun d c => by
      have h0 : 0 ≤ c % 2147483647 := Int.emod_nonneg _ (by decide)
      have h1 : c % 2147483647 < 2147483647 := Int.emod_lt_of_pos _ (by decide)
      refine ⟨by omega, fun p hp => kk p _ hp (fun b o e => by rw [upd_ne (ne_of_none e hp)]; exact e) ⟨d, _, 0, upd_same, by omega, by omega, by omega, by omega⟩⟩
    walk_at "go"
    refine rd_len (.inl hS) ?_
    walk_at "go"
    refine ite2 (fun hd => ?_) (fun hd => ?_)
    · walk_at "go"
      refine rd_len (.inl hS) ?_
      have hl : 0 < ns.length := by
        have := of_decide_eq_true hd
        rw [List.length_map] at this
        omega
      refine rd_i (by show (0 : Int) < _; rw [List.length_map]; omega) ?_
      obtain ⟨c, hc⟩ := at_int k0 hl
      refine rd_ixl hS hc ?_
      walk_at "go"
      refine rd_len (.inl hS) ?_
      walk_at "go"
      refine ite2 (fun hd2 => ?_) (fun hd2 => ?_)
      · walk_at "go"
        refine rd_i ⟨by decide, by decide, by decide⟩ ?_
        walk_at "go"
        refine ite2 (fun hd3 => ?_) (fun hd3 => ?_)
        · walk_at "go"
          refine rd_i (by decide) ?_
          walk_at "go"
          refine rd_i (.inl (by decide)) ?_
          walk_at "go"
          exact ⟨by show 3 ≤ sizeLine; decide, (fin _ _).2⟩
        · walk_at "go"
          refine rd_i (by decide) ?_
          walk_at "go"
          refine rd_i (.inl (by decide)) ?_
          walk_at "go"
          exact ⟨by show 3 ≤ sizeLine; decide, (fin _ _).2⟩
      · walk_at "go"
        refine rd_i (by decide) ?_
        walk_at "go"
        refine rd_i (.inl (by decide)) ?_
        walk_at "go"
        exact ⟨by show 3 ≤ sizeLine; decide, (fin _ _).2⟩
    · walk_at "go"
      refine rd_len (.inl hS) ?_
      walk_at "go"
      refine ite2 (fun hd2 => ?_) (fun hd2 => ?_)
      · exfalso
        have := of_decide_eq_true hd2
        have hd : ¬ ((0 : Int) < ((ns.map V.int).length : Nat)) := fun z => hd (decide_eq_true z)
        omega
      · walk_at "go"
        refine rd_i (by decide) ?_
        walk_at "go"
        refine rd_i (.inl (by decide)) ?_
        walk_at "go"
        exact ⟨by show 3 ≤ sizeLine; decide, (fin _ _).2⟩
end

end Cs
namespace Cs
open PySem L2
open PyProof.Rows (envOfC)
/-! an alphabet of m distinct characters -/
def allSigns : List Nat := [97, 98, 99, 100, 101, 102, 103, 104, 105, 106, 107, 108, 109, 110, 111, 112, 113, 114, 115, 116, 117, 118, 119, 120, 121, 122, 48, 49, 50, 51, 52, 53, 54, 55, 56, 57, 32, 45, 46, 95]
theorem allSigns_eq : Str.ofString "abcdefghijklmnopqrstuvwxyz0123456789 -." ++ Str.ofString "_" = S allSigns := by decide +kernel
theorem allSigns_nd : allSigns.Nodup := by decide +kernel
def sp_alphabet : Sp := fun vs H Q _ => ∃ (a : Addr) (m : Int) (n : Nat), vs = [.ref a, .int m] ∧ Src a (n + 6) H ∧ 1 ≤ m ∧ m ≤ 6 ∧ ∀ (al : List Nat) (H' : Hp), Alp al → (al.length : Int) = m → Src a n H' → Kp a H H' → Q (.str (S al)) H'
theorem use_alphabet {a : Addr} {m : Int} {n : Nat} {H : Hp} {Q : VK} {E : XK} (h : Src a (n + 6) H) (h0 : 1 ≤ m) (h1 : m ≤ 6) (k : ∀ (al : List Nat) (H' : Hp), Alp al → (al.length : Int) = m → Src a n H' → Kp a H H' → Q (.str (S al)) H') : sp_alphabet [.ref a, .int m] H Q E :=
  ⟨a, m, n, rfl, h, h0, h1, k⟩
theorem perm_erase {α : Type} : ∀ {l : List α} {j : Nat} {x : α}, l[j]? = some x → l.Perm (x :: l.eraseIdx j)
  | [], _, _, h => by simp at h
  | a :: l, 0, x, h => by
    have e : a = x := by simpa using h
    subst e
    exact List.Perm.refl _
  | a :: l, j + 1, x, h => by
    have ih := perm_erase (l := l) (j := j) (x := x) (by simpa using h)
    exact (List.Perm.cons a ih).trans (List.Perm.swap x a _)
theorem perm_pop {α : Type} {l : List α} {m : List α} {j : Nat} {x : α} (h : l[j]? = some x) : (m ++ l).Perm ((m ++ [x]) ++ l.eraseIdx j) := by
  rw [List.append_assoc]
  exact List.Perm.append_left m (perm_erase h)
section
variable {P : Program} {w : World} {K : PySem.W.Frag} {mg : Str → Option Value} {base : Heap}
theorem ok_alphabet (B : Blt mg) (G__law_draw : Cal P w K mg base 1 "_law_draw" ["_law_source_here", "_law_many"] sp_draw) (F : At K mg "_law_alphabet" s__law_alphabet ["_law_source_here", "_law_many"]) : Cal P w K mg base 2 "_law_alphabet" ["_law_source_here", "_law_many"] sp_alphabet := by
  refine F.ok sc__law_alphabet (fun vs H Q E h => ?_) (fun f cdv A outer s H vs Q E hr h => ?_)
  · obtain ⟨a, m, n, rfl, _⟩ := h
    rfl
  · obtain ⟨a, m, n, rfl, hS, m0, m1, k⟩ := h
    refine ⟨_, (pss_cons (ps_set (i := 2) sc__law_alphabet.nd rfl (Or.inr rfl) (pe_callTy (call_list_str rfl) (by rfl) B.list (by decide +kernel) (pa_cons (pe_op op_add_str pe_str pe_str) pa_nil)))
    (pss_one (ps_ret (pe_joinK (K := K) (by rfl) pe_str (pe_lc (own := [("_law_k", 3)]) rfl sc__law_alphabet.nd (pi_range1 (by rfl) B.range (pa_cons (pv 1) pa_nil)) (blkOk_by (N := ["_law_source_here", "_law_many", "_law_left", "_law_k"]) (sc := defScope s__law_alphabet) (by decide +kernel)) (fun _ _ _ _ _ => (pg_name (i := 3) sc__law_alphabet.nd rfl (Or.inl rfl))) (fun _ _ _ _ _ => pts_nil) (fun _ _ _ _ _ => (pe_bmK (K := K) (by rfl) PySem.F.plainAttrs_list PySem.F.slot_list_pop PySem.F.type_list_pop mt_popAt (pv 2) (pa_cons (pe_c G__law_draw (hr.mono (by first | decide | omega)) (pa_cons (pv 0) (pa_cons (pe_callB (call_len_seqK (K := K) (by rfl)) (by rfl) B.len PySem.boot_len (pa_cons (pv 2) pa_nil)) pa_nil))) pa_nil)))))))), ?_⟩
    walk_at "go"
    refine ⟨_, _, rfl, rfl, by decide +kernel, ?_⟩
    rw [allSigns_eq]
    refine ⟨_, rfl, by decide +kernel, fun L hL => ?_⟩
    walk_at "go"
    refine rd_rng1j (by omega) (by omega) ?_
    intro D hD
    have La : L ≠ a := hS.ne hL
    have DL : D ≠ L := fun z => by rw [z, upd_same] at hD; cases hD
    have hD0 : H D = none := by rw [upd_ne DL] at hD; exact hD
    have Da : D ≠ a := hS.ne hD0
    refine lc_range (lo := 0) (n := m.toNat) (fun i H' => ∃ left made : List Nat, H' L = some (.lst (left.map fun c => V.str (S [c]))) ∧ H' D = some (.lst (made.map fun c => V.str (S [c]))) ∧ (made ++ left).Perm allSigns ∧ made.length = i ∧ i ≤ 6 ∧ Src a (n + (6 - i)) H' ∧ Kp a H H') ?_ ?_ ?_
    · refine ⟨allSigns, [], ?_, upd_same, by simp, rfl, by omega, (hS.lay La).lay Da, (Kp.refl.lay hL).lay hD0⟩
      rw [upd_ne DL.symm, upd_same, signs_S, List.map_map]; rfl
    · rintro i H' hi ⟨left, made, eL, eD, hp, hl, i6, hS', kp⟩
      have hlen : made.length + left.length = 40 := by
        have := hp.length_eq
        rw [List.length_append] at this
        exact this
      walk_at "go"
      refine ⟨rfl, ?_⟩
      walk_at "go"
      refine ⟨.inl ⟨rfl, _, SqL.of eL⟩, ?_⟩
      walk_at "go"
      refine rd_len (.inl (SqL.of eL)) ?_
      walk_at "go"
      have e6 : n + (6 - i) = n + (6 - (i + 1)) + 1 := by omega
      rw [e6] at hS'
      refine use_draw hS' (by rw [List.length_map]; omega) (by rw [List.length_map]; omega) fun d H2 d0 d1 hS2 k2 => ?_
      walk_at "go"
      rw [List.length_map] at d1
      obtain ⟨j, hj⟩ : ∃ j : Nat, d = (j : Int) := ⟨d.toNat, by omega⟩
      subst hj
      have hj2 : j < left.length := by omega
      refine ⟨L, _, _, j, V.str (S [left[j]]), rfl, rfl, k2.at La eL, by omega, by omega, ?_, by rw [List.getElem?_map, List.getElem?_eq_getElem hj2]; rfl, ?_⟩
      · rw [List.length_map]; exact seqIx hj2
      · refine ⟨_, by rw [upd_ne DL]; exact k2.at Da eD, by rw [List.length_map]; show _ < sizeLine; rw [PySem.sizeLine_eq]; omega, left.eraseIdx j, made ++ [left[j]], ?_, ?_, ?_, ?_, by omega, (hS2.lay La).lay Da, ?_⟩
        · rw [upd_ne DL.symm, upd_same]
          congr 2
          exact map_erase _ _ _
        · rw [upd_same, List.map_append]; rfl
        · exact (perm_pop (List.getElem?_eq_getElem hj2)).symm.trans hp
        · rw [List.length_append, hl]; rfl
        · exact ((kp.trans k2).lay hL).lay hD0
    · rintro H' ⟨left, made, eL, eD, hp, hl, i6, hS', kp⟩
      refine ⟨_, D, made.map fun c => S [c], rfl, rfl, .inl (SqL.of (by rw [eD, List.map_map]; rfl)), ?_, ?_⟩
      · rw [sum_signs, List.length_map]
        show made.length + made.length * 0 ≤ _
        omega
      · walk_at "go"
        show Q (.str (Txt.join (Str.ofString "") (made.map fun c => S [c]))) H'
        rw [empty_S, join_signs]
        have nd : (made ++ left).Nodup := (hp.nodup_iff).mpr allSigns_nd
        refine k made H' ⟨(List.nodup_append.mp nd).1, by omega, by omega, fun c hc => ?_⟩ (by omega) (hS'.mono (by omega)) kp
        exact hp.subset (List.mem_append_left _ hc)
end

end Cs
namespace Cs
open PySem L2
open PyProof.Rows (envOfC)
theorem Same.ofKp2 {p : Addr} {H0 H1 H2 : Hp} (n : H0 p = none) (s : Same H0 H1) (k : Kp p H1 H2) : Same H0 H2 := fun b o e => k.at (ne_of_none e n) (s _ _ e)
theorem bd_set {W n : Nat} {al cs : List Nat} (hA : Alp al) (h : cs.Sublist al) (hW : 2 ≤ W) : BdW W (n + 1) (dSet cs) := by
  refine ⟨hW, fun e he => ?_⟩
  simp only [List.mem_cons, List.not_mem_nil, or_false] at he
  rcases he with rfl | rfl
  · have : (Str.ofString "set").length ≤ 60 := by decide
    cases n <;> exact this
  · have l : (S cs).length ≤ 60 := by rw [S_len]; have := h.length_le; have := hA.hi; omega
    cases n <;> exact l
theorem bd_s {W n : Nat} {x : Str} (h : x.length ≤ 60) : BdW W n (.str x) := by cases n <;> exact h
theorem bd_i {W n : Nat} {x : Int} : BdW W n (.int x) := by cases n <;> trivial
theorem bd_n {W n : Nat} : BdW W n .none := by cases n <;> trivial
theorem bd_sets {W n : Nat} {al : List Nat} {css : List (List Nat)} (hA : Alp al) (h : Subs al css) (hW : 2 ≤ W) : ∀ e ∈ css.map dSet, BdW W (n + 1) e := fun e he => by
  obtain ⟨cs, hc, rfl⟩ := List.mem_map.mp he
  exact bd_set hA (h cs hc) hW
theorem bd_rowOf {W n : Nat} {w : Str} {ds : List PyData} (hw : w.length ≤ 60) (hl : ds.length + 1 ≤ W) (h : ∀ e ∈ ds, BdW W n e) : BdW W (n + 1) (.tuple (.str w :: ds)) := by
  refine ⟨by rw [List.length_cons]; exact hl, fun e he => ?_⟩
  rcases List.mem_cons.mp he with rfl | he
  · exact bd_s hw
  · exact h e he
theorem bd_again {W n : Nat} {d hi : PyData} {lo : Int} (hW : 4 ≤ W) (hd : BdW W n d) (hh : hi = .none ∨ ∃ m, hi = .int m) : BdW W (n + 1) (dAgain d lo hi) := by
  refine bd_rowOf (by decide) hW fun e he => ?_
  simp only [List.mem_cons, List.not_mem_nil, or_false] at he
  rcases he with rfl | rfl | rfl
  · exact hd
  · exact bd_i
  · rcases hh with rfl | ⟨m, rfl⟩
    · exact bd_n
    · exact bd_i
theorem PlD.bd {al : List Nat} {room : Int} {d : PyData} (hA : Alp al) (r : room ≤ 10) (h : PlD al room d) : BdW 12 4 d := by
  have row : ∀ {n : Nat} {css : List (List Nat)}, (css.length : Int) ≤ 10 → Subs al css → BdW 12 (n + 2) (dRow css) := fun {n css} l s =>
    bd_rowOf (by decide) (by rw [List.length_map]; omega) (bd_sets hA s (by decide))
  cases h with
  | set h => exact bd_set hA h (by decide)
  | any s0 s1 l1 l2 h1 h2 =>
    refine bd_rowOf (by decide) (by simp) fun e he => ?_
    simp only [List.mem_cons, List.not_mem_nil, or_false] at he
    rcases he with rfl | rfl
    · exact row (by omega) h1
    · exact row (by omega) h2
  | tail s0 s1 l1 h1 h2 =>
    refine bd_rowOf (by decide) (by rw [List.length_append, List.length_map]; simp; omega) fun e he => ?_
    rcases List.mem_append.mp he with he | he
    · exact bd_sets hA h1 (by decide) e he
    · rw [List.mem_singleton.mp he]
      exact bd_again (by decide) (bd_set hA h2 (by decide)) (.inl rfl)
  | head s0 s1 l1 h1 h2 =>
    refine bd_rowOf (by decide) (by rw [List.length_cons, List.length_map]; omega) fun e he => ?_
    rcases List.mem_cons.mp he with rfl | he
    · exact bd_again (by decide) (bd_set hA h2 (by decide)) (.inl rfl)
    · exact bd_sets hA h1 (by decide) e he
  | some s0 s1 m1 m2 m3 l1 l2 h1 h2 =>
    refine bd_rowOf (by decide) (by rw [List.length_append, List.length_map]; simp; omega) fun e he => ?_
    rcases List.mem_append.mp he with he | he
    · exact bd_sets hA h1 (by decide) e he
    · rw [List.mem_singleton.mp he]
      refine bd_again (by decide) (row (n := 0) ?_ h2) (.inr ⟨_, rfl⟩)
      rw [l2]
      exact Int.le_trans (Int.ediv_le_self _ (by omega)) (by omega)
  | rep m1 m2 m3 lo1 lo2 hh l1 h1 =>
    refine bd_again (by decide) (row (n := 1) ?_ h1) ?_
    · rw [l1]
      exact Int.le_trans (Int.ediv_le_self _ (by omega)) (by omega)
    · rcases hh with rfl | ⟨rfl, _⟩
      · exact .inr ⟨_, rfl⟩
      · exact .inl rfl
  | row s0 s1 l1 h1 => exact row (by omega) h1
theorem PtD.bd {al : List Nat} {room : Int} {d : PyData} (hA : Alp al) (r : room ≤ 10) (h : PtD al room d) : BdW 12 6 d := by
  cases h with
  | plain h => exact (h.bd hA r).mono (by decide) (by decide)
  | all s0 s1 h1 h2 =>
    refine bd_rowOf (by decide) (by simp) fun e he => ?_
    simp only [List.mem_cons, List.not_mem_nil, or_false] at he
    rcases he with rfl | rfl
    · exact (h1.bd hA (by omega)).mono (by decide) (by decide)
    · refine bd_rowOf (by decide) (by simp) fun e he => ?_
      rw [List.mem_singleton.mp he]
      exact (h2.bd hA (by omega)).mono (by decide) (by decide)
theorem NsD.bd {al : List Nat} (hA : Alp al) : ∀ {m : Nat} {d : PyData}, NsD al m d → BdW 12 (m + 1) d := by
  intro m
  induction m with
  | zero =>
    intro d h
    cases h with
    | set h => exact bd_set hA h (by decide)
  | succ m ih =>
    intro d h
    cases h with
    | set h => exact bd_set hA h (by decide)
    | again h hg => exact bd_again (by decide) (ih h) (by rcases hg.2.2 with ⟨e, _⟩ | ⟨m, e, _⟩; exact .inl e; exact .inr ⟨m, e⟩)
    | not h =>
      refine bd_rowOf (by decide) (by simp) fun e he => ?_
      rw [List.mem_singleton.mp he]
      exact ih h
    | many hw hl h =>
      refine bd_rowOf (by rcases hw with rfl | rfl | rfl <;> decide) (by omega) fun e he => ih (h e he)
section
variable {P : Program} {w : World} {K : PySem.W.Frag} {mg : Str → Option Value} {base : Heap}
theorem ok_law (B : Blt mg) (G__law_source : Cal P w K mg base 1 "_law_source" ["_law_script", "_law_k"] (sp_source K)) (G__law_alphabet : Cal P w K mg base 2 "_law_alphabet" ["_law_source_here", "_law_many"] sp_alphabet)
    (G__law_draw : Cal P w K mg base 1 "_law_draw" ["_law_source_here", "_law_many"] sp_draw) (G__law_pattern : Cal P w K mg base 5 "_law_pattern" ["_law_source_here", "_law_alphabet_here", "_law_room"] sp_pattern_)
    (G__law_nested : Cal P w K mg base 7 "_law_nested" ["_law_source_here", "_law_alphabet_here", "_law_depth"] (sp_nested 4)) (G__law_changed : Cal P w K mg base 13 "_law_changed" ["_law_source_here", "_law_alphabet_here", "_law_value"] (sp_changed K 10))
    (G_is_pattern : Cal P w K mg base 23 "is_pattern" ["alphabet", "value"] (sp_pattern K)) (G__law_due : Cal P w K mg base 17 "_law_due" ["_law_alphabet_here", "_law_value"] (sp_due K 14))
    {f : Addr} {fd : FuncData} (F : Fun K "law" "law" s_law f fd) : FnOk P w K mg base CX0 200 f fd ["_law_script"] (spLaw K) := by
  refine F.ok (k := 199) sc_law (fun vs H Q E h => ?_) (fun cdv A outer s H vs Q E hr h => ?_)
  · obtain ⟨a, ns, rfl, _⟩ := h
    rfl
  · obtain ⟨a, ns, rfl, hS, hlen, k⟩ := h
    refine ⟨_, (pss_cons (ps_for PassesOwn.never rfl (pi_range1 (by rfl) B.range (pa_cons pe_int pa_nil)) (pg_name (i := 1) sc_law.nd rfl (Or.inl rfl))
    (pss_cons (ps_set (i := 2) sc_law.nd rfl (Or.inl rfl) (pe_c G__law_source (hr.mono (by first | decide | omega)) (pa_cons (pv 0) (pa_cons (pv 1) pa_nil))))
    (pss_cons (ps_set (i := 3) sc_law.nd rfl (Or.inl rfl) (pe_c G__law_alphabet (hr.mono (by first | decide | omega)) (pa_cons (pv 2) (pa_cons (pe_op op_add pe_int (pe_c G__law_draw (hr.mono (by first | decide | omega)) (pa_cons (pv 2) (pa_cons pe_int pa_nil)))) pa_nil))))
    (pss_cons (ps_set (i := 4) sc_law.nd rfl (Or.inl rfl) (pe_c G__law_pattern (hr.mono (by first | decide | omega)) (pa_cons (pv 2) (pa_cons (pv 3) (pa_cons (pe_op op_add pe_int (pe_c G__law_draw (hr.mono (by first | decide | omega)) (pa_cons (pv 2) (pa_cons pe_int pa_nil)))) pa_nil)))))
    (pss_cons (ps_if (pt_cmpR op_eq (pe_c G__law_draw (hr.mono (by first | decide | omega)) (pa_cons (pv 2) (pa_cons pe_int pa_nil))) pe_int (nomark _))
    (pss_one (ps_set (i := 4) sc_law.nd rfl (Or.inl rfl) (pe_c G__law_nested (hr.mono (by first | decide | omega)) (pa_cons (pv 2) (pa_cons (pv 3) (pa_cons (pe_op op_add pe_int (pe_c G__law_draw (hr.mono (by first | decide | omega)) (pa_cons (pv 2) (pa_cons pe_int pa_nil)))) pa_nil))))))
    pss_nil)
    (pss_cons (ps_for PassesOwn.never rfl (pi_range1 (by rfl) B.range (pa_cons (pe_c G__law_draw (hr.mono (by first | decide | omega)) (pa_cons (pv 2) (pa_cons pe_int pa_nil))) pa_nil)) (pg_name (i := 5) sc_law.nd rfl (Or.inl rfl))
    (pss_one (ps_set (i := 4) sc_law.nd rfl (Or.inl rfl) (pe_c G__law_changed (hr.mono (by first | decide | omega)) (pa_cons (pv 2) (pa_cons (pv 3) (pa_cons (pv 4) pa_nil)))))))
    (pss_cons (ps_set (i := 6) sc_law.nd rfl (Or.inl rfl) (pe_c G_is_pattern (hr.mono (by first | decide | omega)) (pa_cons (pv 3) (pa_cons (pv 4) pa_nil))))
    (pss_one (ps_if (PW.pt (pw_or (pt_not (pt_val (pe_callB (call_isiK' (K := K) (by rfl)) (by rfl) B.isinstance (by decide +kernel) (pa_cons (pv 6) (pa_cons (pe_ty (T := "bool") B.bool (by decide +kernel)) pa_nil))))) (pw_or1 (pt_cmpR op_ne (pv 6) (pe_c G__law_due (hr.mono (by first | decide | omega)) (pa_cons (pv 3) (pa_cons (pv 4) pa_nil))) (nomark _)))))
    (pss_one (ps_ret pe_bl))
    pss_nil)))))))))
    (pss_one (ps_ret pe_bl))), ?_⟩
    walk_at "go"
    refine rd_rng1j (by decide) (by decide) ?_
    refine for_range (lo := 0) (n := 6) (fun i σ H' => ∃ x1 x2 x3 x4 x5 x6 : Option V, σ = [some (.ref a), x1, x2, x3, x4, x5, x6] ∧ Same H H') ?_ ?_ ?_
    · exact ⟨_, _, _, _, _, _, rfl, Same.refl _⟩
    · rintro i σ H0 hi ⟨x1, x2, x3, x4, x5, x6, rfl, sm0⟩
      walk_at "go"
      refine ⟨a, ns, _, rfl, L2.Same.seq sm0 hS, by omega, by omega, fun p H1 hp sm1 hS1 => ?_⟩
      walk_at "go"
      refine use_draw (n := 2 ^ 39 - 1) (hS1.mono (by decide)) (by decide) (by decide) fun m0 H2 m1 m2 hS2 k2 => ?_
      obtain ⟨m, hm⟩ : ∃ m : Int, m = 1 + m0 := ⟨_, rfl⟩
      walk_at "go"
      rw [← hm]
      refine use_alphabet (n := 4001) (hS2.mono (by decide)) (by omega) (by omega) fun al H3 hA hal hS3 k3 => ?_
      walk_at "go"
      refine use_draw (n := 4000) hS3 (by decide) (by decide) fun r0 H4 r1 r2 hS4 k4 => ?_
      obtain ⟨room, hroom⟩ : ∃ room : Int, room = 1 + r0 := ⟨_, rfl⟩
      walk_at "go"
      rw [← hroom]
      refine use_pattern_ (n := 3000) hA (by omega) (by omega) (hS4.mono (by decide)) fun v d H5 hd hv hS5 k5 => ?_
      have g5 : G K p 12 6 H5 v := ⟨d, hd.bd hA (by omega), hv.dv hS5⟩
      have k05 := k2.trans (k3.trans (k4.trans k5))
      with_reducible refine rd_gname ?_
      with_reducible refine rd_seq ?_
      refine rd_cutR (t := tIfS _ _ _) (fun σ' H' => ∃ v, σ' = [some (.ref a), some (.int (0 + (i : Int))), some (.ref p), some (.str (S al)), some v, x5, x6] ∧ G K p 12 6 H' v ∧ Src p 1000 H' ∧ Kp p H1 H') ?rest ?here
      case here =>
        intro nx fin
        walk_at "go"
        refine use_draw (n := 2999) hS5 (by decide) (by decide) fun c H6 c0 c1 hS6 k6 => ?_
        walk_at "go"
        refine ite2 (fun _ => ?_) (fun _ => ?_)
        · walk_at "go"
          refine use_draw (n := 2998) hS6 (by decide) (by decide) fun dz H7 dz0 dz1 hS7 k7 => ?_
          obtain ⟨dep, rfl⟩ : ∃ dep : Nat, dz = (dep : Int) := ⟨dz.toNat, by omega⟩
          walk_at "go"
          have hb : bN (dep + 1) ≤ 1280 := by
            rcases (by omega : dep = 0 ∨ dep = 1 ∨ dep = 2) with rfl | rfl | rfl <;> decide
          refine use_nested (m := dep + 1) (n := 1500) (by omega) (by omega) hA (hS7.mono (by omega)) fun v8 d8 H8 hd8 hv8 hS8 k8 => ?_
          walk_at "go"
          exact fin _ _ ⟨v8, rfl, ⟨d8, (hd8.bd hA).mono (by decide) (by omega), hv8.dv hS8⟩, hS8.mono (by decide), k05.trans (k6.trans (k7.trans k8))⟩
        · walk_at "go"
          exact fin _ _ ⟨v, rfl, g5.kp k6, hS6.mono (by decide), k05.trans k6⟩
      case rest =>
        rintro σ6 H6 ⟨v, rfl, g6, hS6, k6⟩
        walk_at "go"
        refine use_draw (n := 999) hS6 (by decide) (by decide) fun t0 H7 t1 t2 hS7 k7 => ?_
        walk_at "go"
        refine rd_rng1j (by omega) (by omega) ?_
        refine for_range (lo := 0) (n := t0.toNat) (fun t σ' H' => ∃ (v : V) (y5 : Option V), σ' = [some (.ref a), some (.int (0 + (i : Int))), some (.ref p), some (.str (S al)), some v, y5, x6] ∧ t ≤ 2 ∧ G K p (12 + t) (6 + 4 * t) H' v ∧ Src p (100 + 100 * (2 - t)) H' ∧ Kp p H1 H') ?_ ?_ ?_
        · exact ⟨v, x5, rfl, by omega, g6.kp k7, hS7.mono (by omega), k6.trans k7⟩
        · rintro t σ' H8 ht ⟨v, y5, rfl, ht2, g8, hS8, k8⟩
          walk_at "go"
          have e8 : 100 + 100 * (2 - t) = 100 + 100 * (2 - (t + 1)) + 100 := by omega
          rw [e8] at hS8
          refine use_changed (n := 6 + 4 * t) (m := 100 + 100 * (2 - (t + 1))) (by omega) hA (by omega) (by omega) g8 (hS8.mono (by omega)) fun v' H9 g9 hS9 k9 => ?_
          walk_at "go"
          exact ⟨v', _, rfl, by omega, g9.mono (by omega) (by omega), hS9, k8.trans k9⟩
        · rintro σ' H8 ⟨v, y5, rfl, ht2, g8, hS8, k8⟩
          obtain ⟨d, bd, dv⟩ := g8
          have bd14 : Bd 14 d := bd.mono (by omega) (by omega)
          have al1000 : al.length ≤ 1000 := by have := hA.hi; omega
          have hd8 := dv.at
          walk_at "go"
          refine use_pattern al1000 hd8 (Nat.le_trans (Bd.mN bd14) (by decide)) fun H9 sm9 => ?_
          have smA : Same H0 H9 := L2.Same.trans (Same.ofKp2 hp sm1 k8) sm9
          walk_at "go"
          refine rd_isBl ?_
          walk_at "go"
          refine iteF ?_
          walk_at "go"
          refine use_due hA (Dp.mono sm9 hd8) bd14 fun H10 sm10 => ?_
          have smB := L2.Same.trans smA sm10
          walk_at "go"
          refine ite2 (fun z => ?_) (fun _ => ?_)
          · exfalso
            simp at z
          · walk_at "go"
            exact ⟨_, _, _, _, _, _, rfl, L2.Same.trans sm0 smB⟩
    · rintro σ H' ⟨x1, x2, x3, x4, x5, x6, rfl, sm⟩
      walk_at "go"
      exact k H'
end

end Cs

open PySem PySem.W PyProof.Rows in
set_option maxRecDepth 100000 in
set_option maxHeartbeats 0 in
theorem PySem.Challenge.cw_cutscribe_k01_patterns_looked_at_holds : PySem.Challenge.rw_cutscribe_k01_patterns_looked_at.Holds := by
  w_on; o_law; k_head; (case hw => w_witness2)
  k_fill
  refine Cs.walk_c (st := Cs.s_law) (l := PySem.Challenge.rw_cutscribe_k01_patterns_looked_at) rfl rfl rfl (fun w h Y => PySem.W.kIn_of Y) ?F
  case F =>
    intro w mg h KX G
    have B : Cs.Blt mg := by
      refine' Cs.blt_mk KX G ?z0 ?z1 ?z2 ?z3 ?z4 ?z5 ?z6 ?z7 ?z8 ?z9 ?z10 ?z11 ?z12 ?z13 ?z14 ?z15 ?z16
      (case z0 => k_is)
      (case z1 => k_is)
      (case z2 => k_is)
      (case z3 => k_is)
      (case z4 => k_is)
      (case z5 => k_is)
      (case z6 => k_is)
      (case z7 => k_is)
      (case z8 => k_is)
      (case z9 => k_is)
      (case z10 => k_is)
      (case z11 => k_is)
      (case z12 => k_is)
      (case z13 => k_is)
      (case z14 => k_is)
      (case z15 => k_is)
      (case z16 => k_is)
    have A_is_pattern : Cs.At (L2.KOf KX) mg "is_pattern" Cs.s_is_pattern ["alphabet", "value"] := by
      refine' Cs.at_mk KX G ?a ?l ?c ?k ?b
      (case a => k_is)
      (case l => k_is)
      (case c => k_is)
      (case k => k_is)
      (case b => exact fun _ _ _ _ _ _ us hl => match us, hl with | [_, _], _ => rfl)
    have A__is_small_expression : Cs.At (L2.KOf KX) mg "_is_small_expression" Cs.s__is_small_expression ["alphabet", "value"] := by
      refine' Cs.at_mk KX G ?a ?l ?c ?k ?b
      (case a => k_is)
      (case l => k_is)
      (case c => k_is)
      (case k => k_is)
      (case b => exact fun _ _ _ _ _ _ us hl => match us, hl with | [_, _], _ => rfl)
    have A__is_well_formed : Cs.At (L2.KOf KX) mg "_is_well_formed" Cs.s__is_well_formed ["alphabet", "value"] := by
      refine' Cs.at_mk KX G ?a ?l ?c ?k ?b
      (case a => k_is)
      (case l => k_is)
      (case c => k_is)
      (case k => k_is)
      (case b => exact fun _ _ _ _ _ _ us hl => match us, hl with | [_, _], _ => rfl)
    have A__is_selection : Cs.At (L2.KOf KX) mg "_is_selection" Cs.s__is_selection ["alphabet", "value"] := by
      refine' Cs.at_mk KX G ?a ?l ?c ?k ?b
      (case a => k_is)
      (case l => k_is)
      (case c => k_is)
      (case k => k_is)
      (case b => exact fun _ _ _ _ _ _ us hl => match us, hl with | [_, _], _ => rfl)
    have A__is_range : Cs.At (L2.KOf KX) mg "_is_range" Cs.s__is_range ["low", "high"] := by
      refine' Cs.at_mk KX G ?a ?l ?c ?k ?b
      (case a => k_is)
      (case l => k_is)
      (case c => k_is)
      (case k => k_is)
      (case b => exact fun _ _ _ _ _ _ us hl => match us, hl with | [_, _], _ => rfl)
    have A__is_integer_within : Cs.At (L2.KOf KX) mg "_is_integer_within" Cs.s__is_integer_within ["value", "least", "most"] := by
      refine' Cs.at_mk KX G ?a ?l ?c ?k ?b
      (case a => k_is)
      (case l => k_is)
      (case c => k_is)
      (case k => k_is)
      (case b => exact fun _ _ _ _ _ _ us hl => match us, hl with | [_, _, _], _ => rfl)
    have A__parts : Cs.At (L2.KOf KX) mg "_parts" Cs.s__parts ["expression"] := by
      refine' Cs.at_mk KX G ?a ?l ?c ?k ?b
      (case a => k_is)
      (case l => k_is)
      (case c => k_is)
      (case k => k_is)
      (case b => exact fun _ _ _ _ _ _ us hl => match us, hl with | [_], _ => rfl)
    have A__width : Cs.At (L2.KOf KX) mg "_width" Cs.s__width ["expression"] := by
      refine' Cs.at_mk KX G ?a ?l ?c ?k ?b
      (case a => k_is)
      (case l => k_is)
      (case c => k_is)
      (case k => k_is)
      (case b => exact fun _ _ _ _ _ _ us hl => match us, hl with | [_], _ => rfl)
    have A__law_source : Cs.At (L2.KOf KX) mg "_law_source" Cs.s__law_source ["_law_script", "_law_k"] := by
      refine' Cs.at_mk KX G ?a ?l ?c ?k ?b
      (case a => k_is)
      (case l => k_is)
      (case c => k_is)
      (case k => k_is)
      (case b => exact fun _ _ _ _ _ _ us hl => match us, hl with | [_, _], _ => rfl)
    have A__law_draw : Cs.At (L2.KOf KX) mg "_law_draw" Cs.s__law_draw ["_law_source_here", "_law_many"] := by
      refine' Cs.at_mk KX G ?a ?l ?c ?k ?b
      (case a => k_is)
      (case l => k_is)
      (case c => k_is)
      (case k => k_is)
      (case b => exact fun _ _ _ _ _ _ us hl => match us, hl with | [_, _], _ => rfl)
    have A__law_alphabet : Cs.At (L2.KOf KX) mg "_law_alphabet" Cs.s__law_alphabet ["_law_source_here", "_law_many"] := by
      refine' Cs.at_mk KX G ?a ?l ?c ?k ?b
      (case a => k_is)
      (case l => k_is)
      (case c => k_is)
      (case k => k_is)
      (case b => exact fun _ _ _ _ _ _ us hl => match us, hl with | [_, _], _ => rfl)
    have A__law_set : Cs.At (L2.KOf KX) mg "_law_set" Cs.s__law_set ["_law_source_here", "_law_alphabet_here"] := by
      refine' Cs.at_mk KX G ?a ?l ?c ?k ?b
      (case a => k_is)
      (case l => k_is)
      (case c => k_is)
      (case k => k_is)
      (case b => exact fun _ _ _ _ _ _ us hl => match us, hl with | [_, _], _ => rfl)
    have A__law_row : Cs.At (L2.KOf KX) mg "_law_row" Cs.s__law_row ["_law_source_here", "_law_alphabet_here", "_law_many"] := by
      refine' Cs.at_mk KX G ?a ?l ?c ?k ?b
      (case a => k_is)
      (case l => k_is)
      (case c => k_is)
      (case k => k_is)
      (case b => exact fun _ _ _ _ _ _ us hl => match us, hl with | [_, _, _], _ => rfl)
    have A__law_plain : Cs.At (L2.KOf KX) mg "_law_plain" Cs.s__law_plain ["_law_source_here", "_law_alphabet_here", "_law_room"] := by
      refine' Cs.at_mk KX G ?a ?l ?c ?k ?b
      (case a => k_is)
      (case l => k_is)
      (case c => k_is)
      (case k => k_is)
      (case b => exact fun _ _ _ _ _ _ us hl => match us, hl with | [_, _, _], _ => rfl)
    have A__law_pattern : Cs.At (L2.KOf KX) mg "_law_pattern" Cs.s__law_pattern ["_law_source_here", "_law_alphabet_here", "_law_room"] := by
      refine' Cs.at_mk KX G ?a ?l ?c ?k ?b
      (case a => k_is)
      (case l => k_is)
      (case c => k_is)
      (case k => k_is)
      (case b => exact fun _ _ _ _ _ _ us hl => match us, hl with | [_, _, _], _ => rfl)
    have A__law_nested : Cs.At (L2.KOf KX) mg "_law_nested" Cs.s__law_nested ["_law_source_here", "_law_alphabet_here", "_law_depth"] := by
      refine' Cs.at_mk KX G ?a ?l ?c ?k ?b
      (case a => k_is)
      (case l => k_is)
      (case c => k_is)
      (case k => k_is)
      (case b => exact fun _ _ _ _ _ _ us hl => match us, hl with | [_, _, _], _ => rfl)
    have A__law_other : Cs.At (L2.KOf KX) mg "_law_other" Cs.s__law_other ["_law_source_here", "_law_alphabet_here"] := by
      refine' Cs.at_mk KX G ?a ?l ?c ?k ?b
      (case a => k_is)
      (case l => k_is)
      (case c => k_is)
      (case k => k_is)
      (case b => exact fun _ _ _ _ _ _ us hl => match us, hl with | [_, _], _ => rfl)
    have A__law_changed : Cs.At (L2.KOf KX) mg "_law_changed" Cs.s__law_changed ["_law_source_here", "_law_alphabet_here", "_law_value"] := by
      refine' Cs.at_mk KX G ?a ?l ?c ?k ?b
      (case a => k_is)
      (case l => k_is)
      (case c => k_is)
      (case k => k_is)
      (case b => exact fun _ _ _ _ _ _ us hl => match us, hl with | [_, _, _], _ => rfl)
    have A__law_is_number : Cs.At (L2.KOf KX) mg "_law_is_number" Cs.s__law_is_number ["_law_value", "_law_low"] := by
      refine' Cs.at_mk KX G ?a ?l ?c ?k ?b
      (case a => k_is)
      (case l => k_is)
      (case c => k_is)
      (case k => k_is)
      (case b => exact fun _ _ _ _ _ _ us hl => match us, hl with | [_, _], _ => rfl)
    have A__law_fits : Cs.At (L2.KOf KX) mg "_law_fits" Cs.s__law_fits ["_law_alphabet_here", "_law_value"] := by
      refine' Cs.at_mk KX G ?a ?l ?c ?k ?b
      (case a => k_is)
      (case l => k_is)
      (case c => k_is)
      (case k => k_is)
      (case b => exact fun _ _ _ _ _ _ us hl => match us, hl with | [_, _], _ => rfl)
    have A__law_measures : Cs.At (L2.KOf KX) mg "_law_measures" Cs.s__law_measures ["_law_value"] := by
      refine' Cs.at_mk KX G ?a ?l ?c ?k ?b
      (case a => k_is)
      (case l => k_is)
      (case c => k_is)
      (case k => k_is)
      (case b => exact fun _ _ _ _ _ _ us hl => match us, hl with | [_], _ => rfl)
    have A__law_due : Cs.At (L2.KOf KX) mg "_law_due" Cs.s__law_due ["_law_alphabet_here", "_law_value"] := by
      refine' Cs.at_mk KX G ?a ?l ?c ?k ?b
      (case a => k_is)
      (case l => k_is)
      (case c => k_is)
      (case k => k_is)
      (case b => exact fun _ _ _ _ _ _ us hl => match us, hl with | [_, _], _ => rfl)
    have C_MOST_TUPLES : ∃ u, mg "MOST_TUPLES" = some u ∧ L2.RelV (.int 20) u := by
      refine' Cs.const_mk KX G ?a ?r
      (case a => k_is)
      (case r => exact ⟨_, rfl⟩)
    have C_MOST_WIDTH : ∃ u, mg "MOST_WIDTH" = some u ∧ L2.RelV (.int 10) u := by
      refine' Cs.const_mk KX G ?a ?r
      (case a => k_is)
      (case r => exact ⟨_, rfl⟩)
    have C_MOST_REPEATS : ∃ u, mg "MOST_REPEATS" = some u ∧ L2.RelV (.int 4) u := by
      refine' Cs.const_mk KX G ?a ?r
      (case a => k_is)
      (case r => exact ⟨_, rfl⟩)
    refine' Cs.law_mk ?a ?l ?c ?k ?b ?G2
    (case a => k_is)
    (case l => k_is)
    (case c => k_is)
    (case k => k_is)
    (case b => exact fun _ _ _ _ _ _ _ => rfl)
    (case G2 =>
      intro base f fd F
      have T : Cs.PatK mg := ⟨C_MOST_TUPLES, C_MOST_WIDTH, C_MOST_REPEATS⟩
      have Gd := Cs.ok_draw (P := PySem.Challenge.rw_cutscribe_k01_patterns_looked_at.prog) (w := w) (base := base) A__law_draw
      have Gs := Cs.ok_source (P := PySem.Challenge.rw_cutscribe_k01_patterns_looked_at.prog) (w := w) (base := base) B A__law_source
      have Ga := Cs.ok_alphabet B Gd A__law_alphabet
      have Gse := Cs.ok_set B Gd A__law_set
      have Gr := Cs.ok_row B Gse A__law_row
      have Gwi := Cs.ok_within (P := PySem.Challenge.rw_cutscribe_k01_patterns_looked_at.prog) (w := w) (base := base) B A__is_integer_within
      have Gra := Cs.ok_range B T Gwi A__is_range
      have Gsel := Cs.ok_selection (P := PySem.Challenge.rw_cutscribe_k01_patterns_looked_at.prog) (w := w) (base := base) B A__is_selection
      have Gwf := Cs.ok_wf B Gsel Gra A__is_well_formed
      have Gp := Cs.ok_parts (P := PySem.Challenge.rw_cutscribe_k01_patterns_looked_at.prog) (w := w) (base := base) A__parts
      have Gw := Cs.ok_width B Gp A__width
      have Gsm := Cs.ok_small B T Gwf Gp A__is_small_expression
      have Gpat := Cs.ok_pattern B T Gsm Gw A_is_pattern
      have Gpl := Cs.ok_plain B Gd Gse Gr A__law_plain
      have Gpt := Cs.ok_pattern_ Gd Gpl A__law_pattern
      have Gne := Cs.ok_nested B Gd Gse A__law_nested 4
      have Got := Cs.ok_other (K := L2.KOf KX) Gd A__law_other
      have Gch := Cs.ok_changed B Gd Got A__law_changed 10
      have Gnu := Cs.ok_isnum (P := PySem.Challenge.rw_cutscribe_k01_patterns_looked_at.prog) (w := w) (base := base) B A__law_is_number
      have Gfi := Cs.ok_fits B Gnu A__law_fits 14
      have Gme := fun al : List Nat => Cs.ok_measures (P := PySem.Challenge.rw_cutscribe_k01_patterns_looked_at.prog) (w := w) (base := base) B A__law_measures al 15
      have Gdu := Cs.ok_due 14 Gfi Gme A__law_due
      exact Cs.ok_law B Gs Ga Gd Gpt Gne Gch Gpat Gdu F)
#print axioms PySem.Challenge.cw_cutscribe_k01_patterns_looked_at_holds
