import PyProof.Rows.All
import Wide.All
import OpenK.AllK
import Wide.FinOn
import HandS.ForMost
import HandS.Flow
import HandS.TupAny
import HandS.TupMul
import HandS.Conv
import HandS.IsInst
import HandS.Strs
import HandS.SetFor
import HandS.ExcInit
import HandS.ExcValue
import HandS.ExcIs
import HandS.ExcField
import KE.KExcIs
import HandS.Style
import HandS.DictComp
import HandS.WordsExc
import PySem.Challenge.RW_cutscribe_k04_whole_matching_rules
set_option Elab.async false
set_option linter.all false
set_option maxRecDepth 100000
set_option maxHeartbeats 4000000
/-! What every law of this place leans on: callees by name, readings step by step, the heap beside the source of draws. -/
namespace Cs
open PySem L2
open PyProof.Rows (envOfC)

/-! ### callees -/
structure At (K : PySem.W.Frag) (mg : Str → Option Value) (x : Str) (st : Stmt) (ps : List Str) : Prop where
  ex : ∃ f fd, Fun K x x st f fd ∧ mg x = some (.ref f) ∧ Binds K fd ps []
structure Cal (P : Program) (w : World) (K : PySem.W.Frag) (mg : Str → Option Value) (base : Heap) (k : Nat) (x : Str) (ps : List Str) (sp : Sp) : Prop where
  ex : ∃ f fd, mg x = some (.ref f) ∧ PySem.W.keepIn K (.ref f) = true ∧ Binds K fd ps [] ∧ FnOk P w K mg base CX0 k f fd ps sp
section
variable {P : Program} {w : World} {K : PySem.W.Frag} {mg : Str → Option Value} {base : Heap}
theorem Cal.mono {j k : Nat} {x : Str} {ps : List Str} {sp : Sp} (C : Cal P w K mg base j x ps sp) (h : j ≤ k) : Cal P w K mg base k x ps sp := by
  obtain ⟨f, fd, a, b, c, d⟩ := C.ex
  exact ⟨f, fd, a, b, c, d.mono h⟩
theorem Cal.imp {k : Nat} {x : Str} {ps : List Str} {sp sp' : Sp} (C : Cal P w K mg base k x ps sp) (h : ∀ vs H Q E, sp' vs H Q E → sp vs H Q E) : Cal P w K mg base k x ps sp' := by
  obtain ⟨f, fd, a, b, c, d⟩ := C.ex
  exact ⟨f, fd, a, b, c, d.imp h⟩
theorem At.ok {x : Str} {st : Stmt} {N ps : List Str} {k : Nat} {sp : Sp} (F : At K mg x st ps) (S : FnScope N ps (defScope st)) (len : ∀ vs H Q E, sp vs H Q E → vs.length = ps.length)
    (hbody : ∀ (f : Addr) (cdv : Value) (A : Around) (outer : List Env) (s : Shared) (H : Hp) (vs : List V) (Q : VK) (E : XK), Room k (A.deeper (envOfC x (defScope st) s.heap.objs.size f cdv)) → sp vs H Q E →
      ∃ t, PSs (cxOf CX0 P w K mg base N x (defScope st) f cdv A outer s H E).nox (defBody st) t ∧ t { nx := fun _ H' => Q .non H', rt := Q } (start N vs) H) : Cal P w K mg base (k + 1) x ps sp := by
  obtain ⟨f, fd, F, m, b⟩ := F.ex
  exact ⟨f, fd, m, F.kp, b, F.ok S len (hbody f)⟩
end
section
variable {X : Cx} {k : Nat} {x : Str} {ps : List Str} {sp : Sp} {p pos : Pos} {e : Expr} {es : List Expr} {t : TA}
theorem pe_c (C : Cal X.prog X.w X.K X.mg X.base k x ps sp) (hr : Room k X.A) (ha : PA X (e :: es) t) (hg : Gl X x := by rfl) (hdb : (x == ("__debug__" : Str)) = false := by decide) (he : starEach (e :: es) X.env = (false, eval e X.env) :: starEach es X.env := by rfl)
    (hpl : (backTo pos (starEach es X.env)).any (·.1) = false := by rfl) : PE X (.Call (.Name x p) (e :: es) [] pos) (tCall sp [] E0 t) := by
  obtain ⟨f, fd, hm, hk, hb, F⟩ := C.ex
  exact pe_call F hr hg hm hk hb .nil pass0 ha hdb he hpl
end

/-- a built-in class as a value -/
theorem pe_ty {X : Cx} {x : Str} {T : String} {pos : Pos} (hm : X.mg x = none) (hv : bootBuiltins x = some (.type T)) (hg : Gl X x := by rfl) (hn : x ≠ "__name__" := by decide) (hd : (x == ("__debug__" : Str)) = false := by decide) : PE X (.Name x pos) (tC (.ty T)) := pe_bltn hg hm hv rfl hn hd
/-- a module's constant -/
theorem pe_k {X : Cx} {x : Str} {v : V} {pos : Pos} (h : ∃ u, X.mg x = some u ∧ RelV v u) (hg : Gl X x := by rfl) (hd : (x == ("__debug__" : Str)) = false := by decide) : PE X (.Name x pos) (tC v) := by
  obtain ⟨u, hm, r⟩ := h
  exact pe_glob hg hm r hd

/-! ### the rules whose reading names the written part, with that part given: within a comprehension's block it must not lean on the block -/
section
variable {X : Cx} {K : PySem.W.Frag} {tg : Expr}
def rLenQ (K : PySem.W.Frag) : List V → Hp → VK → Prop := fun xs H Q => ∃ p ys, xs = [.ref p] ∧ (SqL K H p ys ∨ SqT K H p ys) ∧ Q (.int ys.length) H
def rTupOf (K : PySem.W.Frag) : List V → Hp → VK → Prop := fun xs H Q => ∃ p ys, xs = [.ref p] ∧ ((SqL K H p ys ∧ ∀ l, H l = none → Q (.ref l) (upd H l (.tup ys))) ∨ (SqT K H p ys ∧ Q (.ref p) H))
def rLstOf (K : PySem.W.Frag) : List V → Hp → VK → Prop := fun xs H Q => ∃ p ys, xs = [.ref p] ∧ (SqL K H p ys ∨ SqT K H p ys) ∧ ∀ l, H l = none → Q (.ref l) (upd H l (.lst ys))
theorem call_len_seqK (h : X.K = K) : CallR X (.builtin "len") (rLenQ K) := by subst h; exact call_len_seq
theorem call_tuple_ofK (h : X.K = K) : CallR X (.type "tuple") (rTupOf K) := by subst h; exact call_tuple_of
theorem call_list_ofK (h : X.K = K) : CallR X (.type "list") (rLstOf K) := by subst h; exact call_list_of
theorem call_isiK' (h : X.K = K) : CallR X (.builtin "isinstance") (rIsi K) := by subst h; exact call_isi
theorem ix_listK (h : X.K = K) : IxR X (rIxL K) := by subst h; exact ix_list
theorem ix_tupK (h : X.K = K) : IxR X (rIxT K) := by subst h; exact ix_tup
theorem op_in_seqK (h : X.K = K) : OpR X (compareOp .In) (rIn K false) := by subst h; exact op_in_seq
theorem op_notIn_seqK (h : X.K = K) : OpR X (compareOp .NotIn) (rIn K true) := by subst h; exact op_notIn_seq
theorem op_eqDK (h : X.K = K) (hu : X.A.units + 64 < cLine) : OpR X (compareOp .Eq) (rEqD K) := by subst h; exact op_eqD hu
theorem op_neDK (h : X.K = K) (hu : X.A.units + 64 < cLine) : OpR X (compareOp .NotEq) (rNeD K) := by subst h; exact op_neD hu
theorem op_catTK (h : X.K = K) : OpR X (binaryOp .Add) (rCatT K) := by subst h; exact op_catT
theorem sl_listK (h : X.K = K) : SlR X (rSlL K) := by subst h; exact sl_list
theorem sl_tupAK (h : X.K = K) : SlR X (rSlA K) := by subst h; exact sl_tupA
theorem cr_sumK (h : X.K = K) (hc : X.calm = true) : CallR X (.builtin "sum") (rSum K) := by subst h; exact cr_sum hc
theorem cr_allK (h : X.K = K) (hc : X.calm = true) : CallR X (.builtin "all") (rAll K) := by subst h; exact cr_all hc
theorem cr_anyK (h : X.K = K) (hc : X.calm = true) : CallR X (.builtin "any") (rAny K) := by subst h; exact cr_any hc
theorem mt_indexK (h : X.K = K) : MtR X "list.index" (rIndex K) := by subst h; exact mt_index
theorem pi_listK {l : Expr} {tl : TE} (h : X.K = K) (hl : PE X l tl) : PI X tg l (iList K tl) := by subst h; exact pi_list hl
theorem pi_tupK {l : Expr} {tl : TE} (h : X.K = K) (hl : PE X l tl) : PI X tg l (iTup K tl) := by subst h; exact pi_tup hl
theorem pg_tupK {es : List Expr} {k : Nat} {t : TGs} {n : Nat} {pos : Pos} (hK : X.K = K) (hc : X.calm = true) (h : PGs X es t)
    (hn : (assignEach es X.env).length = n := by rfl) (hst : (assignEach es X.env).findIdx? (·.1) = none := by rfl) : PG X (.Tuple es k pos) (gTup K n t) := by subst hK; exact pg_tup hc h hn hst
def tTruth (K : PySem.W.Frag) (ta : TE) : TT := fun σ H Q => ta σ H fun x H' => ∃ k, TruV K x H' k ∧ Q k H'
theorem pt_truthK {a : Expr} {ta : TE} (h : X.K = K) (ha : PE X a ta) (he : ∀ whole, isTrue a X.env whole = (do let v ← whole; standAt a.pos; holding [v] (truthy v)) := by intro _; rfl) : PT X a (tTruth K ta) := by subst h; exact pt_truth ha he
variable {o e : Expr} {es : List Expr} {to te : TE} {t : TA} {name : Str} {apos cpos pos : Pos} {T id : String} {r : V → List V → Hp → VK → Prop}
theorem pe_bm0K (h : X.K = K) (pa : PlainAttrs T) (slot : Slot T name id) (hty : typeOf (.builtin id) = pure (.type "method_descriptor")) (hm : MtR X id r) (ho : PE X o to)
    (hbase : attributeBase o name X.env (eval o X.env) = eval o X.env := by rfl) (hline : (apos.endLine == cpos.line) = true := by rfl) : PE X (.Call (.Attribute o name apos) [] [] cpos) (tBM0 K T r to) := by subst h; exact pe_bm0 pa slot hty hm ho hbase hline
theorem pe_bmK (h : X.K = K) (pa : PlainAttrs T) (slot : Slot T name id) (hty : typeOf (.builtin id) = pure (.type "method_descriptor")) (hm : MtR X id r) (ho : PE X o to) (ha : PA X (e :: es) t)
    (hbase : attributeBase o name X.env (eval o X.env) = eval o X.env := by rfl)
    (hfew : ((backTo cpos (starEach (e :: es) X.env)).all (fun x => !x.1) && (backToKw cpos (keywordEach [] X.env)).all (fun x => x.1.isSome)
      && decide ((e :: es).length + ([] : List Keyword).length + (if ([] : List Keyword).isEmpty then 0 else 1) < 30)) = true := by rfl)
    (hline : (apos.endLine == cpos.line) = true := by rfl) (hs : starEach (e :: es) X.env = (false, eval e X.env) :: starEach es X.env := by rfl) (hplain : (backTo cpos (starEach es X.env)).any (·.1) = false := by rfl) :
    PE X (.Call (.Attribute o name apos) (e :: es) [] cpos) (tBM K T r to t) := by subst h; exact pe_bm pa slot hty hm ho ha hbase hfew hline hs hplain
def rJoin (K : PySem.W.Frag) : V → List V → Hp → VK → Prop := fun x xs H Q => ∃ a p, ∃ ys : List Str, x = .str a ∧ xs = [.ref p] ∧ (SqL K H p (ys.map V.str) ∨ SqT K H p (ys.map V.str)) ∧ (ys.map (·.length)).sum + ys.length * a.length ≤ 16777216 ∧ Q (.str (Txt.join a ys)) H
theorem pe_joinK (h : X.K = K) (ho : PE X o to) (he : PE X e te) (hs : starEach [e] X.env = [(false, eval e X.env)] := by rfl) (hbase : attributeBase o "join" X.env (eval o X.env) = eval o X.env := by rfl) (hline : (apos.endLine == pos.line) = true := by rfl) :
    PE X (.Call (.Attribute o "join" apos) [e] [] pos) (tM1 (rJoin K) to te) := by subst h; exact pe_join ho he hs hbase hline
end

/-! ### readings, step by step -/
section
variable {σ : St} {H : Hp} {D : Ends} {Q : VK} {t u : TS} {te ta tb tc : TE} {v x y : V} {i : Nat} {tt c c2 : TT} {tas : TA} {K : PySem.W.Frag}
theorem rd_seq (h : t { D with nx := u D } σ H) : tSeq t u D σ H := h
theorem rd_next (h : D.nx σ H) : tNext D σ H := h
theorem rd_asg {g : TG} (h : te σ H fun x H1 => g x σ H1 D.nx) : tAsg te g D σ H := h
theorem rd_gname {R : St → Hp → Prop} (h : R (σ.set i (some v)) H) : gName i v σ H R := h
theorem rd_var (e : σ[i]? = some (some v)) (q : Q v H) : tVar i σ H Q := ⟨v, e, q⟩
theorem rd_c (q : Q v H) : tC v σ H Q := q
theorem rd_op {r : R2} (h : ta σ H fun x H1 => tb σ H1 fun y H2 => r x y H2 Q) : tOp r ta tb σ H Q := h
theorem rd_un {r : V → Hp → VK → Prop} (h : ta σ H fun x H1 => r x H1 Q) : tUn r ta σ H Q := h
theorem rd_test {R : Bool → Hp → Prop} (h : te σ H fun x H' => ∃ k, x = .bl k ∧ R k H') : tTest te σ H R := h
theorem rd_tB {R : Bool → Hp → Prop} (h : te σ H fun x H' => ∃ k, x = .bl k ∧ R k H') : tB te σ H R := h
theorem rd_bl {b : Bool} {R : Bool → Prop} (q : R b) : ∃ k, V.bl b = .bl k ∧ R k := ⟨b, rfl, q⟩
theorem rd_ifs (h : c σ H fun b H1 => if b = true then t D σ H1 else u D σ H1) : tIfS c t u D σ H := h
theorem rd_ret (h : te σ H D.rt) : tRet te D σ H := h
theorem rd_retN (h : D.rt .non H) : tRetN D σ H := h
theorem rd_drop (h : te σ H fun _ H1 => D.nx σ H1) : tDrop te D σ H := h
theorem rd_nil {R : List V → Hp → Prop} (h : R [] H) : tNil σ H R := h
theorem rd_cons {R : List V → Hp → Prop} (h : te σ H fun x H1 => tas σ H1 fun xs H2 => R (x :: xs) H2) : tCons te tas σ H R := h
/-- a new object at any free place -/
def New (H : Hp) (o : HO) (R : Addr → Hp → Prop) : Prop := ∀ p, H p = none → R p (upd H p o)
theorem rd_tup (h : tas σ H fun xs H1 => xs.length ≤ sizeLine ∧ New H1 (.tup xs) fun p H2 => Q (.ref p) H2) : tTup tas σ H Q := h
theorem rd_lst (h : tas σ H fun xs H1 => xs.length ≤ sizeLine ∧ New H1 (.lst xs) fun p H2 => Q (.ref p) H2) : tLst tas σ H Q := h
theorem rd_catT {a b : Addr} {xs ys : List V} (h1 : SqT K H a xs) (h2 : SqT K H b ys) (h3 : xs ≠ []) (h4 : xs.length + ys.length ≤ sizeLine) (q1 : ys = [] → Q (.ref a) H) (q2 : ys ≠ [] → New H (.tup (xs ++ ys)) fun p H2 => Q (.ref p) H2) : rCatT K (.ref a) (.ref b) H Q := ⟨a, b, xs, ys, rfl, rfl, h1, h2, h3, h4, q1, q2⟩
theorem rd_tupl {a : Addr} {xs : List V} (h : SqL K H a xs) (q : New H (.tup xs) fun p H2 => Q (.ref p) H2) : rTupOf K [V.ref a] H Q := ⟨a, xs, rfl, .inl ⟨h, q⟩⟩
theorem rd_tupt {a : Addr} {xs : List V} (h : SqT K H a xs) (q : Q (.ref a) H) : rTupOf K [V.ref a] H Q := ⟨a, xs, rfl, .inr ⟨h, q⟩⟩
theorem rd_lstof {a : Addr} {xs : List V} (h : SqL K H a xs ∨ SqT K H a xs) (q : New H (.lst xs) fun p H2 => Q (.ref p) H2) : rLstOf K [V.ref a] H Q := ⟨a, xs, rfl, h, q⟩
theorem rd_cb {r : List V → Hp → VK → Prop} (h : tas σ H fun vs H1 => r vs H1 Q) : tCB r tas σ H Q := h
theorem rd_call {sp : Sp} {E : XK} (h : tas σ H fun vs H1 => sp (vs ++ []) H1 Q E) : tCall sp [] E tas σ H Q := h
theorem rd_and {R : Bool → Hp → Prop} (h : c σ H fun b H1 => if b = true then c2 σ H1 R else R false H1) : tAnd c c2 σ H R := h
theorem rd_or {R : Bool → Hp → Prop} (h : c σ H fun b H1 => if b = true then R true H1 else c2 σ H1 R) : tOr c c2 σ H R := h
theorem rd_not {R : Bool → Hp → Prop} (h : c σ H fun b H1 => R (!b) H1) : tNot c σ H R := h
theorem rd_andV (h : ta σ H fun x H1 => ∃ c, x = .bl c ∧ if c = true then tb σ H1 Q else Q (.bl false) H1) : tAndV ta tb σ H Q := h
theorem rd_orV (h : ta σ H fun x H1 => ∃ c, x = .bl c ∧ if c = true then Q (.bl true) H1 else tb σ H1 Q) : tOrV ta tb σ H Q := h
theorem rd_notV (h : ta σ H fun x H1 => ∃ c, x = .bl c ∧ Q (.bl (!c)) H1) : tNotV ta σ H Q := h
theorem rd_ife (h : c σ H fun b H1 => if b = true then ta σ H1 Q else tb σ H1 Q) : tIf c ta tb σ H Q := h
theorem rd_bm0 {T : String} {r : V → List V → Hp → VK → Prop} (h : te σ H fun x H1 => tyV K T x H1 ∧ r x [] H1 Q) : tBM0 K T r te σ H Q := h
theorem rd_bm {T : String} {r : V → List V → Hp → VK → Prop} (h : te σ H fun x H1 => tyV K T x H1 ∧ tas σ H1 fun xs H2 => r x xs H2 Q) : tBM K T r te tas σ H Q := h
theorem rd_gsub {to ti : TE} {s : TSet} {R : St → Hp → Prop} (h : to σ H fun o H1 => ti σ H1 fun i H2 => s o i v H2 fun H3 => R σ H3) : gSub to ti s v σ H R := h
theorem rd_i0 {g : Int → Int → V} {a b : Int} (q : Q (g a b) H) : rI0 g (.int a) (.int b) H Q := ⟨a, b, rfl, rfl, q⟩
theorem rd_i {C : Int → Int → Prop} {g : Int → Int → V} {a b : Int} (h : C a b) (q : Q (g a b) H) : rI C g (.int a) (.int b) H Q := ⟨a, b, rfl, rfl, h, q⟩
theorem rd_eq (h : scal x y = true) (q : Q (.bl (decide (x = y))) H) : rEq x y H Q := ⟨h, q⟩
theorem rd_ne (h : scal x y = true) (q : Q (.bl (!decide (x = y))) H) : rNe x y H Q := ⟨h, q⟩
theorem rd_ixl {a : Addr} {xs : List V} {n : Int} (h : SqL K H a xs) (e : atI xs n = some v) (q : Q v H) : rIxL K (.ref a) (.int n) H Q := ⟨a, xs, n, v, rfl, rfl, h, e, q⟩
theorem rd_ixt {a : Addr} {xs : List V} {n : Int} (h : SqT K H a xs) (e : atI xs n = some v) (q : Q v H) : rIxT K (.ref a) (.int n) H Q := ⟨a, xs, n, v, rfl, rfl, h, e, q⟩
theorem rd_setl {a : Addr} {xs : List V} {n : Int} {j : Nat} {R : Hp → Prop} (h : H a = some (.lst xs)) (e : ixN xs.length n = some j) (q : R (upd H a (.lst (xs.set j v)))) : rSetL (.ref a) (.int n) v H R := ⟨a, xs, n, j, rfl, rfl, h, e, q⟩
theorem rd_m1 {r : V → List V → Hp → VK → Prop} (h : ta σ H fun x H1 => (∃ a, x = .str a) ∧ tb σ H1 fun y H2 => r x [y] H2 Q) : tM1 r ta tb σ H Q := h
theorem rd_gtup {n : Nat} {a : Addr} {xs : List V} {ts : TGs} {R : St → Hp → Prop} (h : SqT K H a xs) (e : xs.length = n) (q : ts xs σ H R) : gTup K n ts (.ref a) σ H R := ⟨a, xs, rfl, h, e, q⟩
theorem rd_gcons {g : TG} {ts : TGs} {vs : List V} {R : St → Hp → Prop} (q : g v σ H fun σ' H' => ts vs σ' H' R) : gCons g ts (v :: vs) σ H R := ⟨v, vs, rfl, q⟩
theorem rd_gnil {R : St → Hp → Prop} (q : R σ H) : gNil [] σ H R := ⟨rfl, q⟩
theorem rd_truth {R : Bool → Hp → Prop} (h : te σ H fun x H' => ∃ k, TruV K x H' k ∧ R k H') : tTruth K te σ H R := h
theorem rd_yes {R : Bool → Hp → Prop} (h : R true H) : tYes σ H R := h
theorem rd_sl {r : V → Option Int → Option Int → Hp → VK → Prop} {tl th : TO} (h : te σ H fun x H1 => tl σ H1 fun l H2 => th σ H2 fun u H3 => r x l u H3 Q) : tSl r te tl th σ H Q := h
theorem rd_nopart {R : Option Int → Hp → Prop} (h : R none H) : tNoPart σ H R := h
theorem rd_part {R : Option Int → Hp → Prop} (h : te σ H fun x H1 => ∃ i, x = .int i ∧ R (some i) H1) : tPart te σ H R := h
theorem rd_int {n : Int} {R : Int → Prop} (q : R n) : ∃ k, V.int n = .int k ∧ R k := ⟨n, rfl, q⟩
theorem rd_strx {z : Str} {R : Prop} (q : R) : (∃ a, V.str z = .str a) ∧ R := ⟨⟨z, rfl⟩, q⟩
theorem rd_len {a : Addr} {xs : List V} (h : SqL K H a xs ∨ SqT K H a xs) (q : Q (.int xs.length) H) : rLenQ K [V.ref a] H Q := ⟨a, xs, rfl, h, q⟩
theorem rd_isi {v c : V} {tv u : Value} {b : Bool} (h1 : ClsV c u) (h2 : TyX K H v tv) (h3 : PySem.W.kitOne K tv u = some b) (q : Q (.bl b) H) : rIsi K [v, c] H Q := ⟨v, c, tv, u, b, rfl, h1, h2, h3, q⟩
theorem rd_in {x : V} {p : Addr} {xs : List V} {neg : Bool} (h : SqL K H p xs ∨ SqT K H p xs) (fx : flatV x = true) (fs : xs.all flatV = true) (q : Q (.bl (if neg then !inV x xs else inV x xs)) H) : rIn K neg x (.ref p) H Q := ⟨p, xs, rfl, h, fx, fs, q⟩
theorem rd_sla {a : Addr} {xs : List V} {lo hi : Option Int} (h : SqT K H a xs) (q1 : HT.sIx xs.length 0 lo = 0 ∧ HT.sIx xs.length xs.length hi = xs.length → Q (.ref a) H) (q2 : ¬ (HT.sIx xs.length 0 lo = 0 ∧ HT.sIx xs.length xs.length hi = xs.length) → New H (.tup (cutV xs lo hi)) fun p H2 => Q (.ref p) H2) : rSlA K (.ref a) lo hi H Q := ⟨a, xs, rfl, h, q1, q2⟩
theorem rd_sum {a : Addr} {ns : List Int} (h : SqL K H a (ns.map V.int)) (q : Q (.int ns.sum) H) : rSum K [V.ref a] H Q := ⟨a, ns, rfl, h, q⟩
theorem rd_all {a : Addr} {ns : List Bool} (h : SqL K H a (ns.map V.bl)) (q : Q (.bl (ns.all id)) H) : rAll K [V.ref a] H Q := ⟨a, ns, rfl, h, q⟩
theorem rd_any {a : Addr} {ns : List Bool} (h : SqL K H a (ns.map V.bl)) (q : Q (.bl (ns.any id)) H) : rAny K [V.ref a] H Q := ⟨a, ns, rfl, h, q⟩
theorem rd_chain {r r' : R2} (h : ta σ H fun x H1 => tb σ H1 fun y H2 => r x y H2 fun z H3 => ∃ k, z = .bl k ∧ (if k = true then tc σ H3 fun w' H4 => r' y w' H4 Q else Q (.bl false) H3)) : tChain r r' ta tb tc σ H Q := h
theorem rd_rng1 {R : It → Hp → Prop} (h : tas σ H fun vs H1 => ∃ j : Int, vs = [.int j] ∧ -(2 ^ 62) ≤ j ∧ j < 2 ^ 62 ∧ R (Itr 0 j.toNat) H1) : iRng1 tas σ H R := h
theorem rd_rng1j {n : Int} {R : Int → Prop} (h1 : -(2 ^ 62) ≤ n) (h2 : n < 2 ^ 62) (q : R n) : ∃ j : Int, ([V.int n] : List V) = [.int j] ∧ -(2 ^ 62) ≤ j ∧ j < 2 ^ 62 ∧ R j := ⟨n, rfl, h1, h2, q⟩
theorem rd_ilist {R : It → Hp → Prop} (h : te σ H fun x H1 => ∃ a, x = .ref a ∧ (∃ xs, SqL K H1 a xs) ∧ R (Itl K a) H1) : iList K te σ H R := h
theorem rd_itup {R : It → Hp → Prop} (h : te σ H fun x H1 => ∃ a, x = .ref a ∧ (∃ xs, SqT K H1 a xs) ∧ R (Itt K a) H1) : iTup K te σ H R := h
theorem rd_istr {R : It → Hp → Prop} (h : te σ H fun v H1 => ∃ x, v = .str x ∧ R (Its x) H1) : iStr te σ H R := h
theorem rd_strj {z : Str} {R : Str → Prop} (q : R z) : ∃ x, V.str z = .str x ∧ R x := ⟨z, rfl, q⟩
theorem rd_lc {wi : TI} {g : TG} {vs : List Nat} (h : wi σ H fun J H1 => ∀ D, H1 D = none → ∃ W : Nat → Nat → Hp → Prop, (∃ m, W 0 m (upd H1 D (.lst []))) ∧ ∀ i m H, W i m H →
  (J.stop i H ∧ Q (.ref D) H) ∨ (J.go i H ∧ ∃ Nx : Hp → Prop, (∀ H', Nx H' → ∃ m', m' < m ∧ W (i + 1) m' H') ∧ ∀ x H', J.yld i H x H' → g x (wipe σ vs) H' fun σ2 H2 => wipe σ2 vs = wipe σ vs ∧ tt σ2 H2 fun b H3 =>
    if b = true then te σ2 H3 fun y H4 => ∃ acc, H4 D = some (.lst acc) ∧ acc.length < sizeLine ∧ Nx (upd H4 D (.lst (acc ++ [y]))) else Nx H3)) : tLc wi g tt te vs σ H Q := h
theorem rd_for {wi : TI} {g : TG} (h : wi σ H fun J H1 => ∃ W : Nat → Nat → St → Hp → Prop, (∃ m, W 0 m σ H1) ∧ ∀ i m σ H, W i m σ H →
  (J.stop i H ∧ D.nx σ H) ∨ (J.go i H ∧ ∃ N : St → Hp → Prop, (∀ σ' H', N σ' H' → ∃ m', m' < m ∧ W (i + 1) m' σ' H') ∧ ∀ x H', J.yld i H x H' → g x σ H' fun σ2 H2 => t { D with nx := N, ct := N, bk := D.nx } σ2 H2)) : tFor wi g t D σ H := h
theorem rd_par {i j : Nat} (h : tas σ H fun vs H1 => ∃ v w, vs = [v, w] ∧ D.nx ((σ.set i (some v)).set j (some w)) H1) : tPar i j tas D σ H := h
theorem rd_parj {a b : V} {R : V → V → Prop} (q : R a b) : ∃ v w, ([a, b] : List V) = [v, w] ∧ R v w := ⟨a, b, rfl, q⟩
theorem rd_aug {ti : TIp} (e : σ[i]? = some (some x)) (h : te σ H fun y H1 => ti x y H1 fun z H2 => D.nx (σ.set i (some z)) H2) : tAug i te ti D σ H := ⟨x, e, h⟩
theorem rd_ipi {g : Int → Int → Int} {a b : Int} (q : Q (.int (g a b)) H) : ipI g (.int a) (.int b) H Q := ⟨a, b, rfl, rfl, q⟩
/-- while, by an invariant that bears a measure -/
theorem rd_while {m0 : Nat} (W : Nat → St → Hp → Prop) (w0 : W m0 σ H) (hs : ∀ m σ H, W m σ H → c σ H fun b H1 => if b = true then t { D with nx := fun σ' H' => ∃ m', m' < m ∧ W m' σ' H', ct := fun σ' H' => ∃ m', m' < m ∧ W m' σ' H', bk := D.nx } σ H1 else D.nx σ H1)
    (mono : ∀ σ H Q Q', (∀ b H1, Q b H1 → Q' b H1) → c σ H Q → c σ H Q') : tWhile c t D σ H := by
  refine ⟨W, ⟨m0, w0⟩, fun m σ H h => ?_⟩
  refine mono σ H _ _ (fun b H1 q => ?_) (hs m σ H h)
  cases b with
  | true => exact ⟨_, fun σ' H' z => z, q⟩
  | false => exact q
/-- a new object: what is said of the heap behind it -/
theorem rd_new {o : HO} {R : Addr → Hp → Prop} (k : ∀ p H', H p = none → H' p = some o → Same H H' → R p H') : New H o R := fun p hp =>
  k p _ hp upd_same fun b ob e => by rw [upd_ne (ne_of_none e hp)]; exact e
end
/-! ### the heap beside one list -/
def hid (a : Addr) (H : Hp) : Hp := fun b => if b = a then none else H b
theorem hid_ne {a b : Addr} {H : Hp} (h : b ≠ a) : hid a H b = H b := by unfold hid; rw [if_neg h]
theorem hid_sub {a b : Addr} {H : Hp} {o : HO} (h : hid a H b = some o) : b ≠ a ∧ H b = some o := by
  unfold hid at h
  by_cases e : b = a
  · rw [if_pos e] at h; cases h
  · rw [if_neg e] at h; exact ⟨e, h⟩
theorem hid_le {a : Addr} {H : Hp} : Same (hid a H) H := fun _ _ h => (hid_sub h).2
/-- all but a is kept -/
def Kp (a : Addr) (H H' : Hp) : Prop := Same (hid a H) (hid a H')
theorem Kp.refl {a : Addr} {H : Hp} : Kp a H H := Same.refl _
theorem Kp.trans {a : Addr} {H H1 H2 : Hp} (x : Kp a H H1) (y : Kp a H1 H2) : Kp a H H2 := Same.trans x y
theorem Kp.of {a : Addr} {H H' : Hp} (s : Same H H') : Kp a H H' := fun b o e => by
  obtain ⟨n, e⟩ := hid_sub e
  rw [hid_ne n]; exact s b o e
theorem Kp.set {a : Addr} {H : Hp} {o : HO} : Kp a H (upd H a o) := fun b u e => by
  obtain ⟨n, e⟩ := hid_sub e
  rw [hid_ne n, upd_ne n]; exact e
theorem Kp.at {a b : Addr} {H H' : Hp} {o : HO} (k : Kp a H H') (n : b ≠ a) (e : H b = some o) : H' b = some o := by
  have q : hid a H b = some o := by rw [hid_ne n]; exact e
  exact (hid_sub (k b o q)).2
theorem Same.seqT {K : PySem.W.Frag} {H H' : Hp} {a : Addr} {xs : List V} (e : Same H H') (h : SqT K H a xs) : SqT K H' a xs := by
  rcases h with (h | ⟨o, h⟩) | h
  · exact .inl (.inl (e _ _ h))
  · exact .inl (.inr ⟨o, e _ _ h⟩)
  · exact .inr h

/-! ### data that a heap bears -/
mutual
theorem Dp.mono {K : PySem.W.Frag} {H H' : Hp} (s : Same H H') : ∀ {v : V} {d : PyData}, Dp K H v d → Dp K H' v d
  | _, _, .non => .non
  | _, _, .bl b => .bl b
  | _, _, .int i => .int i
  | _, _, .str x => .str x
  | _, _, .lst h t => .lst (L2.Same.seq s h) (DpAll.mono s t)
  | _, _, .tup h t => .tup (Same.seqT s h) (DpAll.mono s t)
theorem DpAll.mono {K : PySem.W.Frag} {H H' : Hp} (s : Same H H') : ∀ {vs : List V} {ds : List PyData}, DpAll K H vs ds → DpAll K H' vs ds
  | _, _, .nil => .nil
  | _, _, .cons h t => .cons (Dp.mono s h) (DpAll.mono s t)
end
theorem DpAll.length {K : PySem.W.Frag} {H : Hp} : ∀ {vs : List V} {ds : List PyData}, DpAll K H vs ds → vs.length = ds.length
  | _, _, .nil => rfl
  | _, _, .cons _ t => by rw [List.length_cons, List.length_cons, DpAll.length t]
theorem DpAll.get {K : PySem.W.Frag} {H : Hp} : ∀ {vs : List V} {ds : List PyData} {i : Nat} {v : V}, DpAll K H vs ds → vs[i]? = some v → ∃ d, ds[i]? = some d ∧ Dp K H v d
  | _, _, _, _, .nil, e => by simp at e
  | _, _, 0, _, .cons h _, e => by
    simp at e; subst e; exact ⟨_, rfl, h⟩
  | _, _, i + 1, v, .cons _ t, e => by
    obtain ⟨d, a, b⟩ := DpAll.get (i := i) (v := v) t (by simpa using e)
    exact ⟨d, by simpa using a, b⟩
theorem DpAll.get' {K : PySem.W.Frag} {H : Hp} : ∀ {vs : List V} {ds : List PyData} {i : Nat} {d : PyData}, DpAll K H vs ds → ds[i]? = some d → ∃ v, vs[i]? = some v ∧ Dp K H v d
  | _, _, _, _, .nil, e => by simp at e
  | _, _, 0, _, .cons h _, e => by
    simp at e; subst e; exact ⟨_, rfl, h⟩
  | _, _, i + 1, v, .cons _ t, e => by
    obtain ⟨d, a, b⟩ := DpAll.get' (i := i) (d := v) t (by simpa using e)
    exact ⟨d, by simpa using a, b⟩
theorem DpAll.app {K : PySem.W.Frag} {H : Hp} : ∀ {vs ws : List V} {ds es : List PyData}, DpAll K H vs ds → DpAll K H ws es → DpAll K H (vs ++ ws) (ds ++ es)
  | _, _, _, _, .nil, t => t
  | _, _, _, _, .cons h t, u => .cons h (DpAll.app t u)
theorem DpAll.take {K : PySem.W.Frag} {H : Hp} : ∀ {vs : List V} {ds : List PyData} (n : Nat), DpAll K H vs ds → DpAll K H (vs.take n) (ds.take n)
  | _, _, 0, _ => .nil
  | _, _, _ + 1, .nil => .nil
  | _, _, n + 1, .cons h t => .cons h (DpAll.take n t)
theorem DpAll.drop {K : PySem.W.Frag} {H : Hp} : ∀ {vs : List V} {ds : List PyData} (n : Nat), DpAll K H vs ds → DpAll K H (vs.drop n) (ds.drop n)
  | _, _, 0, t => t
  | _, _, _ + 1, .nil => .nil
  | _, _, n + 1, .cons _ t => DpAll.drop n t

/-! ### the source of draws: a list of three ints at a; n draws may still be made -/
def Src (a : Addr) (n : Nat) (H : Hp) : Prop := ∃ d s c : Int, H a = some (.lst [.int d, .int s, .int c]) ∧ 0 ≤ s ∧ s < 2 ^ 40 ∧ 0 ≤ c ∧ c + (n : Int) ≤ 2 ^ 40
theorem Src.mono {a : Addr} {n m : Nat} {H : Hp} (h : Src a m H) (l : n ≤ m) : Src a n H := by
  obtain ⟨d, s, c, e, h1, h2, h3, h4⟩ := h
  exact ⟨d, s, c, e, h1, h2, h3, by omega⟩
theorem Src.same {a : Addr} {n : Nat} {H H' : Hp} (h : Src a n H) (s : Same H H') : Src a n H' := by
  obtain ⟨d, s', c, e, r⟩ := h
  exact ⟨d, s', c, s _ _ e, r⟩
theorem Src.ne {a p : Addr} {n : Nat} {H : Hp} (h : Src a n H) (e : H p = none) : p ≠ a := by
  obtain ⟨_, _, _, q, _⟩ := h
  rintro rfl
  rw [e] at q; cases q
end Cs
local macro_rules | `(tactic| walk_at "go") => `(tactic| repeat (first
  | with_reducible refine Cs.rd_seq ?_ | with_reducible refine Cs.rd_asg ?_ | with_reducible refine Cs.rd_gname ?_ | with_reducible refine Cs.rd_var rfl ?_ | with_reducible refine Cs.rd_c ?_ | with_reducible refine Cs.rd_op ?_
  | with_reducible refine Cs.rd_i0 ?_ | with_reducible refine Cs.rd_cons ?_ | with_reducible refine Cs.rd_nil ?_ | with_reducible refine Cs.rd_call ?_ | with_reducible refine Cs.rd_cb ?_ | with_reducible refine Cs.rd_ret ?_ | with_reducible refine Cs.rd_ifs ?_
  | with_reducible refine Cs.rd_test ?_ | with_reducible refine Cs.rd_tB ?_ | with_reducible refine Cs.rd_bl ?_ | with_reducible refine Cs.rd_eq rfl ?_ | with_reducible refine Cs.rd_ne rfl ?_ | with_reducible refine Cs.rd_tup ?_ | with_reducible refine Cs.rd_lst ?_
  | with_reducible refine Cs.rd_bm0 ?_ | with_reducible refine Cs.rd_bm ?_ | with_reducible refine Cs.rd_gsub ?_ | with_reducible refine Cs.rd_and ?_ | with_reducible refine Cs.rd_or ?_ | with_reducible refine Cs.rd_not ?_ | with_reducible refine Cs.rd_andV ?_
  | with_reducible refine Cs.rd_orV ?_ | with_reducible refine Cs.rd_notV ?_ | with_reducible refine Cs.rd_ife ?_ | with_reducible refine Cs.rd_drop ?_ | with_reducible refine Cs.rd_next ?_ | with_reducible refine Cs.rd_un ?_ | with_reducible refine L2.iteT ?_ | with_reducible refine L2.iteF ?_
  | with_reducible refine Cs.rd_m1 ?_ | with_reducible refine Cs.rd_gcons ?_ | with_reducible refine Cs.rd_gnil ?_ | with_reducible refine Cs.rd_truth ?_ | with_reducible refine Cs.rd_yes ?_ | with_reducible refine Cs.rd_sl ?_ | with_reducible refine Cs.rd_nopart ?_ | with_reducible refine Cs.rd_part ?_ | with_reducible refine Cs.rd_int ?_ | with_reducible refine Cs.rd_strx ?_
  | with_reducible refine Cs.rd_rng1 ?_ | with_reducible refine Cs.rd_ilist ?_ | with_reducible refine Cs.rd_itup ?_ | with_reducible refine Cs.rd_istr ?_ | with_reducible refine Cs.rd_strj ?_ | with_reducible refine Cs.rd_lc ?_ | with_reducible refine Cs.rd_for ?_
  | with_reducible refine Cs.rd_chain ?_
  | with_reducible refine Cs.rd_par ?_ | with_reducible refine Cs.rd_parj ?_ | with_reducible refine Cs.rd_aug rfl ?_ | with_reducible refine Cs.rd_ipi ?_))
namespace Cs
open PySem L2
open PyProof.Rows (envOfC)
def topS (i : Nat) : Stmt := PySem.Challenge.pw_cutscribe_k04_whole_matching_rules.main.body.getD i (.Pass ⟨0, 0, 0, 0⟩)
abbrev s_Machine___init__ : Stmt := inClass (topS 5) 0
theorem sc_Machine___init__ : FnScope ["self", "alphabet", "pattern", "character"] ["self", "alphabet", "pattern"] (defScope s_Machine___init__) := ⟨rfl, rfl, rfl, by decide +kernel, rfl, by decide +kernel, by decide +kernel⟩
abbrev s_Machine_step : Stmt := inClass (topS 5) 1
theorem sc_Machine_step : FnScope ["self", "state", "character", "reached", "place", "following"] ["self", "state", "character"] (defScope s_Machine_step) := ⟨rfl, rfl, rfl, by decide +kernel, rfl, by decide +kernel, by decide +kernel⟩
abbrev s_Machine_accepts : Stmt := inClass (topS 5) 2
theorem sc_Machine_accepts : FnScope ["self", "state"] ["self", "state"] (defScope s_Machine_accepts) := ⟨rfl, rfl, rfl, by decide +kernel, rfl, by decide +kernel, by decide +kernel⟩
abbrev s_Machine__judge : Stmt := inClass (topS 5) 3
theorem sc_Machine__judge : FnScope ["self", "pattern", "empty", "first", "last", "part"] ["self", "pattern"] (defScope s_Machine__judge) := ⟨rfl, rfl, rfl, by decide +kernel, rfl, by decide +kernel, by decide +kernel⟩
abbrev s_Machine__piece : Stmt := inClass (topS 5) 4
theorem sc_Machine__piece : FnScope ["self", "pattern", "word", "part"] ["self", "pattern"] (defScope s_Machine__piece) := ⟨rfl, rfl, rfl, by decide +kernel, rfl, by decide +kernel, by decide +kernel⟩
abbrev s_Machine__place : Stmt := inClass (topS 5) 5
theorem sc_Machine__place : FnScope ["self", "characters", "place", "character"] ["self", "characters"] (defScope s_Machine__place) := ⟨rfl, rfl, rfl, by decide +kernel, rfl, by decide +kernel, by decide +kernel⟩
abbrev s_Machine__copies : Stmt := inClass (topS 5) 6
theorem sc_Machine__copies : FnScope ["self", "part", "low", "high", "needed", "spare", "_", "first", "last"] ["self", "part", "low", "high"] (defScope s_Machine__copies) := ⟨rfl, rfl, rfl, by decide +kernel, rfl, by decide +kernel, by decide +kernel⟩
abbrev s_Machine__loop : Stmt := inClass (topS 5) 7
theorem sc_Machine__loop : FnScope ["self", "part", "_", "first", "last"] ["self", "part"] (defScope s_Machine__loop) := ⟨rfl, rfl, rfl, by decide +kernel, rfl, by decide +kernel, by decide +kernel⟩
abbrev s_Machine__chain : Stmt := inClass (topS 5) 8
theorem sc_Machine__chain : FnScope ["self", "pieces", "empty", "first", "last", "piece_empty", "piece_first", "piece_last"] ["self", "pieces"] (defScope s_Machine__chain) := ⟨rfl, rfl, rfl, by decide +kernel, rfl, by decide +kernel, by decide +kernel⟩
abbrev s_Machine__link : Stmt := inClass (topS 5) 9
theorem sc_Machine__link : FnScope ["self", "before", "after", "place"] ["self", "before", "after"] (defScope s_Machine__link) := ⟨rfl, rfl, rfl, by decide +kernel, rfl, by decide +kernel, by decide +kernel⟩
abbrev s__choice : Stmt := topS 6
theorem sc__choice : FnScope ["pieces", "empty", "first", "last", "piece_empty", "piece_first", "piece_last"] ["pieces"] (defScope s__choice) := ⟨rfl, rfl, rfl, by decide +kernel, rfl, by decide +kernel, by decide +kernel⟩
abbrev s__holds : Stmt := topS 7
theorem sc__holds : FnScope ["verdict", "state", "word", "told", "answers", "part"] ["verdict", "state"] (defScope s__holds) := ⟨rfl, rfl, rfl, by decide +kernel, rfl, by decide +kernel, by decide +kernel⟩
abbrev s_matches : Stmt := topS 9
theorem sc_matches : FnScope ["alphabet", "pattern", "text", "machine", "state", "character"] ["alphabet", "pattern", "text"] (defScope s_matches) := ⟨rfl, rfl, rfl, by decide +kernel, rfl, by decide +kernel, by decide +kernel⟩
abbrev s_check_text : Stmt := topS 10
theorem sc_check_text : FnScope ["alphabet", "text", "position", "character"] ["alphabet", "text"] (defScope s_check_text) := ⟨rfl, rfl, rfl, by decide +kernel, rfl, by decide +kernel, by decide +kernel⟩
abbrev s__law_source : Stmt := topS 12
theorem sc__law_source : FnScope ["_law_script", "_law_k", "_law_cell", "_law_deep"] ["_law_script", "_law_k"] (defScope s__law_source) := ⟨rfl, rfl, rfl, by decide +kernel, rfl, by decide +kernel, by decide +kernel⟩
abbrev s__law_draw : Stmt := topS 13
theorem sc__law_draw : FnScope ["_law_source_here", "_law_many", "_law_digit", "_law_seed"] ["_law_source_here", "_law_many"] (defScope s__law_draw) := ⟨rfl, rfl, rfl, by decide +kernel, rfl, by decide +kernel, by decide +kernel⟩
abbrev s__law_alphabet : Stmt := topS 14
theorem sc__law_alphabet : FnScope ["_law_source_here", "_law_many", "_law_left", "_law_k"] ["_law_source_here", "_law_many"] (defScope s__law_alphabet) := ⟨rfl, rfl, rfl, by decide +kernel, rfl, by decide +kernel, by decide +kernel⟩
abbrev s__law_set : Stmt := topS 15
theorem sc__law_set : FnScope ["_law_source_here", "_law_alphabet_here", "_law_many", "_law_taken", "_law_k", "_law_at"] ["_law_source_here", "_law_alphabet_here"] (defScope s__law_set) := ⟨rfl, rfl, rfl, by decide +kernel, rfl, by decide +kernel, by decide +kernel⟩
abbrev s__law_row : Stmt := topS 16
theorem sc__law_row : FnScope ["_law_source_here", "_law_alphabet_here", "_law_many", "_law_k"] ["_law_source_here", "_law_alphabet_here", "_law_many"] (defScope s__law_row) := ⟨rfl, rfl, rfl, by decide +kernel, rfl, by decide +kernel, by decide +kernel⟩
abbrev s__law_text : Stmt := topS 17
theorem sc__law_text : FnScope ["_law_source_here", "_law_alphabet_here", "_law_many", "_law_k"] ["_law_source_here", "_law_alphabet_here", "_law_many"] (defScope s__law_text) := ⟨rfl, rfl, rfl, by decide +kernel, rfl, by decide +kernel, by decide +kernel⟩
abbrev s__law_short_texts : Stmt := topS 18
theorem sc__law_short_texts : FnScope ["_law_alphabet_here", "_law_longest", "_law_found", "_law_level", "_law_k", "_law_longer", "_law_text_here", "_law_character"] ["_law_alphabet_here", "_law_longest"] (defScope s__law_short_texts) := ⟨rfl, rfl, rfl, by decide +kernel, rfl, by decide +kernel, by decide +kernel⟩
abbrev s__law_part : Stmt := topS 19
theorem sc__law_part : FnScope ["_law_source_here", "_law_alphabet_here", "_law_way"] ["_law_source_here", "_law_alphabet_here"] (defScope s__law_part) := ⟨rfl, rfl, rfl, by decide +kernel, rfl, by decide +kernel, by decide +kernel⟩
abbrev s__law_pair : Stmt := topS 20
theorem sc__law_pair : FnScope ["_law_source_here", "_law_p", "_law_q", "_law_r", "_law_every", "_law_empty", "_law_many", "_law_pairs"] ["_law_source_here", "_law_p", "_law_q", "_law_r"] (defScope s__law_pair) := ⟨rfl, rfl, rfl, by decide +kernel, rfl, by decide +kernel, by decide +kernel⟩
abbrev s_law : Stmt := topS 21
theorem sc_law : FnScope ["_law_script", "_law_k", "_law_source_here", "_law_alphabet_here", "_law_parts", "_law_one", "_law_other", "_law_texts", "_law_text_here", "_law_j"] ["_law_script"] (defScope s_law) := ⟨rfl, rfl, rfl, by decide +kernel, rfl, by decide +kernel, by decide +kernel⟩
end Cs
namespace Cs
open PySem L2
open PyProof.Rows (envOfC)
/-! the built-in names, which no law's text binds anew -/
structure Blt (mg : Str → Option Value) : Prop where
  len : mg "len" = none
  range : mg "range" = none
  isinstance : mg "isinstance" = none
  max : mg "max" = none
  min : mg "min" = none
  sum : mg "sum" = none
  all : mg "all" = none
  any : mg "any" = none
  list : mg "list" = none
  tuple : mg "tuple" = none
  int : mg "int" = none
  str : mg "str" = none
  bool : mg "bool" = none
  sorted : mg "sorted" = none
  set : mg "set" = none
  enumerate : mg "enumerate" = none
  zip : mg "zip" = none

end Cs
namespace Cs
open PySem L2
open PyProof.Rows (envOfC)
/-! what the top has left, def by def -/
theorem at_mk {K : PySem.W.Frag} {h : Heap} {mg : Str → Option Value} (X : K.In h) (G : h.Ns mainGlobals mg) {x : Str} {st : Stmt} {ps : List Str} {f : Addr} {oc : Value} {od an : Option Addr} {osl : Array (Option Value)} {kV dc pm cd ct : Value}
    (a : PySem.W.nsIn K mainGlobals x = some (some (.ref f))) (l : K.lookup f = some ⟨oc, od, .func (PySem.W.fnOf x x (defArgs st) (defBody st) (defScope st) .none kV dc pm an cd ct), osl⟩) (c : PySem.W.codeIn K cd x = true) (k : PySem.W.keepIn K (.ref f) = true)
    (b : ∀ (kV dc pm : Value) (an : Option Addr) (cd ct : Value) (us : List Value), us.length = ps.length → bindArgs (PySem.W.fnOf x x (defArgs st) (defBody st) (defScope st) .none kV dc pm an cd ct) ⟨us, []⟩ = pure (ps.zip us)) : At K mg x st ps :=
  ⟨⟨f, _, fun_mk l c k, PySem.W.mg_of X G a, (fun_mk l c k).binds b⟩⟩
def spLaw (K : PySem.W.Frag) : Sp := fun vs H Q _ => ∃ (a : Addr) (ns : List Int), vs = [.ref a] ∧ SqL K H a (ns.map V.int) ∧ ns.length ≤ 63 ∧ ∀ H', Q (.bl true) H'
theorem walk_c {l : PySem.W.OpenLaw} {q : Program} {loose : List Str} {XP : (Str → Option Value) → Heap → Prop} {YP : World → Heap → Prop} {d : DefRec} {K : Params → PySem.W.Frag} {st : Stmt} (hn : l.most = some 63) (hdf : d.params.defaults = []) (hnm : d.name = "law")
    (hY : ∀ (w : World) (h : Heap), YP w h → (K w.params).In h)
    (F : ∀ (w : World) (mg : Str → Option Value) (h : Heap), (K w.params).In h → h.Ns mainGlobals mg →
      ∃ (f : Addr) (oc : Value) (od an : Option Addr) (osl : Array (Option Value)) (kV dc pm cd ct : Value), PySem.W.nsIn (K w.params) mainGlobals "law" = some (some (.ref f)) ∧ (K w.params).lookup f = some ⟨oc, od, .func (PySem.W.fnOf "law" "law" (defArgs st) (defBody st) (defScope st) .none kV dc pm an cd ct), osl⟩ ∧
        PySem.W.codeIn (K w.params) cd "law" = true ∧ PySem.W.keepIn (K w.params) (.ref f) = true ∧
        (∀ (kV dc pm : Value) (an : Option Addr) (cd ct u : Value), bindArgs (PySem.W.fnOf "law" "law" (defArgs st) (defBody st) (defScope st) .none kV dc pm an cd ct) ⟨[u], []⟩ = pure [(("_law_script" : Str), u)]) ∧
        ∀ (base : Heap) (f : Addr) (fd : FuncData), Fun (K w.params) "law" "law" st f fd → FnOk l.prog w (K w.params) mg base CX0 230 f fd ["_law_script"] (spLaw (K w.params))) :
    PySem.W.WalkO q loose XP YP l.row.toRowW d [] (fun f vs => PySem.call f vs) := by
  refine L2.walk_of (n := 63) (k := 230) (x := "_law_script") (CX := fun _ => CX0) (sp := fun w => spLaw (K w.params)) hn (by decide) hdf ⟨rfl, by decide, by decide⟩ hY (fun w mg fa h X G hfa => ?_) (fun _ _ a ns hl _ hS => ⟨a, ns, rfl, hS, hl, fun _ => rfl⟩) fun _ _ _ _ _ z => z
  obtain ⟨f, oc, od, an, osl, kV, dc, pm, cd, ct, a, lk, c, k, hb, G2⟩ := F w mg h X G
  rw [hnm] at hfa
  have e := hfa.symm.trans (PySem.W.mg_of X G a)
  cases e
  exact ⟨_, fun s v => .of_eq (hb _ _ _ _ _ _ _), fun base _ _ => G2 base _ _ (fun_mk lk c k)⟩
theorem blt_mk {K : PySem.W.Frag} {h : Heap} {mg : Str → Option Value} (X : K.In h) (G : h.Ns mainGlobals mg) (z0 : PySem.W.nsIn K mainGlobals "len" = some none) (z1 : PySem.W.nsIn K mainGlobals "range" = some none) (z2 : PySem.W.nsIn K mainGlobals "isinstance" = some none) (z3 : PySem.W.nsIn K mainGlobals "max" = some none) (z4 : PySem.W.nsIn K mainGlobals "min" = some none) (z5 : PySem.W.nsIn K mainGlobals "sum" = some none) (z6 : PySem.W.nsIn K mainGlobals "all" = some none) (z7 : PySem.W.nsIn K mainGlobals "any" = some none) (z8 : PySem.W.nsIn K mainGlobals "list" = some none) (z9 : PySem.W.nsIn K mainGlobals "tuple" = some none) (z10 : PySem.W.nsIn K mainGlobals "int" = some none) (z11 : PySem.W.nsIn K mainGlobals "str" = some none) (z12 : PySem.W.nsIn K mainGlobals "bool" = some none) (z13 : PySem.W.nsIn K mainGlobals "sorted" = some none) (z14 : PySem.W.nsIn K mainGlobals "set" = some none) (z15 : PySem.W.nsIn K mainGlobals "enumerate" = some none) (z16 : PySem.W.nsIn K mainGlobals "zip" = some none) : Blt mg :=
  ⟨PySem.W.mg_none_of X G z0, PySem.W.mg_none_of X G z1, PySem.W.mg_none_of X G z2, PySem.W.mg_none_of X G z3, PySem.W.mg_none_of X G z4, PySem.W.mg_none_of X G z5, PySem.W.mg_none_of X G z6, PySem.W.mg_none_of X G z7, PySem.W.mg_none_of X G z8, PySem.W.mg_none_of X G z9, PySem.W.mg_none_of X G z10, PySem.W.mg_none_of X G z11, PySem.W.mg_none_of X G z12, PySem.W.mg_none_of X G z13, PySem.W.mg_none_of X G z14, PySem.W.mg_none_of X G z15, PySem.W.mg_none_of X G z16⟩
theorem const_mk {K : PySem.W.Frag} {h : Heap} {mg : Str → Option Value} (X : K.In h) (G : h.Ns mainGlobals mg) {x : Str} {u : Value} {v : V} (a : PySem.W.nsIn K mainGlobals x = some (some u)) (r : RelV v u) : ∃ u, mg x = some u ∧ RelV v u := ⟨u, PySem.W.mg_of X G a, r⟩
theorem law_mk {P : Program} {w : World} {K : PySem.W.Frag} {mg : Str → Option Value} {st : Stmt} {f : Addr} {oc : Value} {od an : Option Addr} {osl : Array (Option Value)} {kV dc pm cd ct : Value}
    (a : PySem.W.nsIn K mainGlobals "law" = some (some (.ref f))) (l : K.lookup f = some ⟨oc, od, .func (PySem.W.fnOf "law" "law" (defArgs st) (defBody st) (defScope st) .none kV dc pm an cd ct), osl⟩) (c : PySem.W.codeIn K cd "law" = true) (k : PySem.W.keepIn K (.ref f) = true)
    (b : ∀ (kV dc pm : Value) (an : Option Addr) (cd ct u : Value), bindArgs (PySem.W.fnOf "law" "law" (defArgs st) (defBody st) (defScope st) .none kV dc pm an cd ct) ⟨[u], []⟩ = pure [(("_law_script" : Str), u)])
    (G2 : ∀ (base : Heap) (f : Addr) (fd : FuncData), Fun K "law" "law" st f fd → FnOk P w K mg base CX0 230 f fd ["_law_script"] (spLaw K)) :
    ∃ (f : Addr) (oc : Value) (od an : Option Addr) (osl : Array (Option Value)) (kV dc pm cd ct : Value), PySem.W.nsIn K mainGlobals "law" = some (some (.ref f)) ∧ K.lookup f = some ⟨oc, od, .func (PySem.W.fnOf "law" "law" (defArgs st) (defBody st) (defScope st) .none kV dc pm an cd ct), osl⟩ ∧
      PySem.W.codeIn K cd "law" = true ∧ PySem.W.keepIn K (.ref f) = true ∧
      (∀ (kV dc pm : Value) (an : Option Addr) (cd ct u : Value), bindArgs (PySem.W.fnOf "law" "law" (defArgs st) (defBody st) (defScope st) .none kV dc pm an cd ct) ⟨[u], []⟩ = pure [(("_law_script" : Str), u)]) ∧
      ∀ (base : Heap) (f : Addr) (fd : FuncData), Fun K "law" "law" st f fd → FnOk P w K mg base CX0 230 f fd ["_law_script"] (spLaw K) :=
  ⟨f, oc, od, an, osl, kV, dc, pm, cd, ct, a, l, c, k, b, G2⟩

end Cs
namespace Cs
open PySem L2
open PyProof.Rows (envOfC)
/-! list(text): a new list of its signs -/
section
open PySem.Calls PyProof.Rows PyProof.V PySem.Spec PySem.W
variable {prog : Program} {w : World} {A : Around} {E : Value → Shared → Prop} {s : Shared} {x : Str} {t : Tok}
theorem hint_str {Q : Bool → Shared → Prop} (h : Q false s) : wpAny (model prog w) A (Builtin.List.listLengthHint (.str x t)) Q E s := by
  have hT : s.TypeIs (.str x t) "str" := typeIs_str s x t
  unfold Builtin.List.listLengthHint
  refine wpAny_bind (wpAny_specialOf hT PySem.F.slot_str_len.lookup ?_)
  generalize hid : ("str.__len__" : String) = id0
  wp_delta
  rw [show splitId id0 = some ("str", "__len__") from by subst hid; decide +kernel]
  subst hid
  refine wpAny_bind (wpAny_isInstance (T := "str") (b := true) hT (by rw [isSubtype_type]; kernel_rfl) ?_)
  refine wpAny_ite_split (fun hab => absurd hab (by decide)) (fun _ => ?_)
  refine wpAny_ite_split (fun _ => ?_) (fun hab => absurd (by decide +kernel) hab)
  refine wpAny_bind (wpAny_typeOf hT ?_)
  exact wpAny_pure h
theorem extend_str {R : Result → Shared → Prop} (hh : A.handled = none) (S : Addr) (res : Value) (c₀ : Nat) (hS : s.heap.get? S = some { cls := .type "list", data := .seq #[] c₀ })
    (hR : ∀ h' tk acc' c', (∀ b o, b ≠ S → s.heap.get? b = some o → h'.get? b = some o) → h'.get? S = some { cls := .type "list", dict := none, data := .seq acc' c', slots := #[] } → ItemsOf (SignAt x) acc' x.cps.size → R (.ok (.ret res)) { s with heap := h', toks := tk }) (hn : x.cps.size ≤ sizeLine) :
    wpAny (model prog w) A.in1 (Builtin.List.listExtendWith (.ref S) (.str x t) res)
      (fun fin s' => match fin with | .done f => R (.ok f) s' | .again c' => c'.quiet = true ∧ codeAny (model prog w) A c' R s') (fun e s' => R (.error e) s') s := by
  have hSI : S ≠ s.heap.objs.size := Nat.ne_of_lt (Heap.lt_size hS)
  have hSf : S ∉ [s.heap.objs.size] := by simp only [List.mem_cons, List.not_mem_nil, or_false]; exact hSI
  obtain ⟨oI, St, hit, W, st⟩ : ∃ (oI : Obj) (St : Nat → Heap → Prop),
      (∀ (E : Value → Shared → Prop) (Q : Value → Shared → Prop), Q (.ref s.heap.objs.size) { s with heap := s.heap.push oI } → wpAny (model prog w) A.in1 (pyIter (.str x t)) Q E s) ∧
      Walks prog w A.in1 s.heap.objs.size [s.heap.objs.size] [s.heap.objs.size] x.cps.size (SignAt x) St ∧ St 0 (s.heap.push oI) := by
    cases ha : x.cps.all (· < 128)
    · exact ⟨_, _, fun _ _ hq => wpAny_pyIter_wide ha hq, Walks.strWide (A := A.in1) hh _ x t, ⟨_, Heap.get?_push_size _ rfl, rfl, rfl⟩⟩
    · exact ⟨_, _, fun _ _ hq => wpAny_pyIter_ascii ha hq, Walks.strAscii (A := A.in1) hh _ x t, ⟨_, Heap.get?_push_size _ rfl, rfl, rfl⟩⟩
  have key : ∀ (h : Heap) (c₁ tk : Nat), St 0 h → (∀ b o, b ≠ S → s.heap.get? b = some o → h.get? b = some o) →
      h.get? S = some { cls := .type "list", data := .seq #[] c₁ } → codeAny (model prog w) A (.builtin "list.extend.loop" ⟨[.ref S, .ref s.heap.objs.size, res], []⟩) R { s with heap := h, toks := tk } := by
    intro h c₁ tk hst hk hS₁
    refine codeAny_extend_loopS W.toS hn S hSf res x.cps.size 0 _ #[] c₁ rfl (Nat.zero_le _) hst hS₁ (ItemsOf.nil _) fun s' acc' c' hm hS' hacc => ?_
    rw [Moved.eq_with hm]
    refine hR s'.heap s'.toks acc' c' (fun b o hb e => hm.heap b o (fun hmem => ?_) (hk b o hb e)) hS' hacc
    rcases List.mem_cons.mp hmem with e' | hmem
    · exact hb e'
    · exact absurd (Heap.lt_size e) (by rw [List.mem_singleton.mp hmem]; exact Nat.lt_irrefl _)
  unfold Builtin.List.listExtendWith
  refine wpAny_bind (wpAny_typeOf (T := "str") (typeIs_str s x t) ?_)
  have h1 : Builtin.List.listSameRef (.ref S) (.str x t) = false := rfl
  have h2 : (Value.type "str" == Value.type "list") = false := by decide
  have h3 : (Value.type "str" == Value.type "tuple") = false := by decide
  simp only [h1, h2, h3, Bool.or_false, Bool.false_eq_true, if_false]
  refine wpAny_bind (hit _ _ ?_)
  have hS₁ := Heap.get?_push_of_some oI hS
  refine wpAny_bind (wpAny_holding (hint_str ?_))
  refine wpAny_ite_split (fun _ => ?_) (fun _ => wpAny_pure ⟨plainId_quiet PySem.F.plain_extend_loop _, key _ c₀ _ st (fun b o _ e => Heap.get?_push_of_some _ e) hS₁⟩)
  refine wpAny_bind (wpAny_rule ?_)
  refine wpAny_bind ?_
  show wpAny _ _ (updateSeq S (·.push .none) >>= fun _ => updateSeq S (·.pop)) _ _ _
  refine wpAny_bind (wpAny_updateSeq hS₁ rfl ?_)
  have hS₂ := Heap.get?_update_self (Obj.mapSeq (·.push Value.none)) hS₁ rfl
  refine wpAny_updateSeq (hz := by seq_fits) hS₂ rfl ?_
  have hS₃ := Heap.get?_update_self (Obj.mapSeq (·.pop)) hS₂ rfl
  refine wpAny_pure ⟨plainId_quiet PySem.F.plain_extend_loop _, key _ _ _ ?_ (fun b o hb e => ?_) hS₃⟩
  · refine W.frame 0 _ _ st fun b hb o e => ?_
    have hbS : b ≠ S := fun h => hSf (h ▸ hb)
    exact (Heap.get?_update_other _ _ (Ne.symm hbS)).trans ((Heap.get?_update_other _ _ (Ne.symm hbS)).trans e)
  · exact (Heap.get?_update_other _ _ (Ne.symm hb)).trans ((Heap.get?_update_other _ _ (Ne.symm hb)).trans (Heap.get?_push_of_some _ e))
theorem init_str {R : Result → Shared → Prop} (hh : A.handled = none) (S : Addr) (hS : s.heap.get? S = some { cls := .type "list", data := .seq #[] })
    (hR : ∀ h' tk acc' c', (∀ b o, b ≠ S → s.heap.get? b = some o → h'.get? b = some o) → h'.get? S = some { cls := .type "list", dict := none, data := .seq acc' c', slots := #[] } → ItemsOf (SignAt x) acc' x.cps.size → R (.ok (.ret .none)) { s with heap := h', toks := tk }) (hn : x.cps.size ≤ sizeLine) :
    wpAny (model prog w) A.in1 (Builtin.«list.__init__» ⟨[.ref S, .str x t], []⟩)
      (fun fin s' => match fin with | .done f => R (.ok f) s' | .again c' => c'.quiet = true ∧ codeAny (model prog w) A c' R s') (fun e s' => R (.error e) s') s := by
  show wpAny _ _ (do let old ← Builtin.List.listItems (.ref S); Builtin.List.listUpdate (.ref S) (fun _ => #[]); letGo old.toList.reverse; Builtin.List.listExtendWith (.ref S) (.str x t) .none) _ _ s
  refine wpAny_bind ?_
  unfold Builtin.List.listItems
  refine wpAny_bind (wpAny_seqItems hS rfl (wpAny_pure ?_))
  show wpAny _ _ (updateSeq S (fun _ => #[]) >>= fun _ => letGo (#[] : Array Value).toList.reverse >>= fun _ => Builtin.List.listExtendWith (.ref S) (.str x t) .none) _ _ s
  refine wpAny_bind (wpAny_updateSeq hS rfl ?_)
  have hS₂ := Heap.get?_update_self (Obj.mapSeq (fun _ => (#[] : Array Value))) hS rfl
  have oth : ∀ b o, b ≠ S → s.heap.get? b = some o → (s.heap.update S (Obj.mapSeq (fun _ => (#[] : Array Value)))).get? b = some o :=
    fun b o hb e => (Heap.get?_update_other _ _ (Ne.symm hb)).trans e
  refine wpAny_bind (wpAny_letGo ?_)
  refine extend_str hh S .none _ hS₂ (fun h' tk acc' c' hk hS' hacc => ?_) hn
  exact hR h' tk acc' c' (fun b o hb e => hk b o hb (oth b o hb e)) hS' hacc
theorem list_of_str {Q : Value → Shared → Prop} (hh : A.handled = none) (hn : x.cps.size ≤ sizeLine)
    (hQ : ∀ h' tk acc' c', (∀ b o, s.heap.get? b = some o → h'.get? b = some o) → h'.get? s.heap.objs.size = some { cls := .type "list", dict := none, data := .seq acc' c', slots := #[] } → ItemsOf (SignAt x) acc' x.cps.size → Q (.ref s.heap.objs.size) { s with heap := h', toks := tk }) :
    wpAny (model prog w) A (call (.type "list") [.str x t]) Q E s := by
  refine callType_codes (Q₁ := fun obj s₁ => obj = .ref s.heap.objs.size ∧ s₁ = { s with heap := s.heap.push { cls := .type "list", data := .seq #[] } }) PySem.F.called_list (PySem.F.typeCall_list_1 _) PySem.F.entry_list_init
    (code_list_new _ ⟨rfl, rfl⟩) fun obj s₁ h₁ => ?_
  obtain ⟨rfl, rfl⟩ := h₁
  have hS : (s.heap.push { cls := .type "list", data := .seq #[] }).get? s.heap.objs.size = some { cls := .type "list", data := .seq #[] } := Heap.get?_push_size _ rfl
  refine ⟨⟨_, hS, rfl⟩, PySem.F.args_list_init_2 _ _, init_str (A := A.in1) hh _ hS (fun h' tk acc' c' hk hS' hacc => ?_) hn⟩
  exact ⟨rfl, hQ h' tk acc' c' (fun b o e => hk b o (Nat.ne_of_lt (Heap.lt_size e)) (Heap.get?_push_of_some _ e)) hS' hacc⟩
end
def signs (z : Str) : List Str := z.cps.toList.map fun c => ⟨#[c]⟩
theorem vals_signs : ∀ (zs : List Nat) (us : List Value), us.length = zs.length → (∀ (i : Nat) (v : Value), us[i]? = some v → ∃ c u, zs[i]? = some c ∧ v = .str ⟨#[c]⟩ u) → Vals ((zs.map fun c => (⟨#[c]⟩ : Str)).map V.str) us
  | [], [], _, _ => .nil
  | [], _ :: _, e, _ => by simp at e
  | _ :: _, [], e, _ => by simp at e
  | z :: zs, u :: us, e, h => by
    obtain ⟨c, t, h1, h2⟩ := h 0 u rfl
    have h1 : z = c := by simpa using h1
    subst h1
    refine .cons ⟨t, h2⟩ (vals_signs zs us (by simpa using e) fun i v hv => ?_)
    obtain ⟨c, t', a, b⟩ := h (i + 1) v (by simpa using hv)
    exact ⟨c, t', by simpa using a, b⟩
theorem call_list_str {X : Cx} (hc : X.calm = true) : CallR X (.type "list") (fun xs H Q => ∃ z : Str, xs = [.str z] ∧ z.cps.size ≤ sizeLine ∧ ∀ l, H l = none → Q (.ref l) (upd H l (.lst ((signs z).map V.str)))) := by
  intro pins s σ H xs us Q I r h
  obtain ⟨z, rfl, hz, q⟩ := h
  obtain ⟨u, rfl, t, rfl⟩ := vals1 r
  refine list_of_str (I.ok.hd hc) hz fun h' tk acc' c' kp e it => ?_
  have vs : Vals ((signs z).map V.str) acc'.toList := by
    refine vals_signs z.cps.toList acc'.toList (by rw [Array.length_toList, Array.length_toList]; exact it.1) fun i v hv => ?_
    obtain ⟨c, u, a, b⟩ := it.2 i v (by rw [← Array.getElem?_toList]; exact hv)
    exact ⟨c, u, by rw [Array.getElem?_toList]; exact a, b⟩
  have hl : ((signs z).map V.str).length ≤ sizeLine := by
    rw [List.length_map, signs, List.length_map, Array.length_toList]; exact hz
  refine ⟨.ref s.heap.objs.size, _, I.laid (t' := tk) kp (Nat.le_refl _) (show ObjOk X.prog X.w _ h' _ (.lst _) from ⟨hl, acc'.toList, c', vs, by rw [e]⟩), rfl, q _ (I.hok.fresh (Nat.le_refl _))⟩

end Cs
namespace Cs
open PySem L2
open PyProof.Rows (envOfC)
/-! texts as lists of codes -/
abbrev S (l : List Nat) : Str := ⟨l.toArray⟩
theorem S_len (a : List Nat) : (S a).length = a.length := by simp [S, Str.length]
theorem S_cps (x : Str) : S x.cps.toList = x := by cases x; rfl
theorem S_inj {a b : List Nat} (h : S a = S b) : a = b := congrArg (fun x : Str => x.cps.toList) h
theorem signs_S (l : List Nat) : signs (S l) = l.map fun c => S [c] := rfl
theorem joinL_nil : ∀ ys : List (List Nat), TL.joinL [] ys = ys.flatten
  | [] => rfl
  | [p] => by show p = [p].flatten; simp
  | p :: q :: r => by
    show p ++ ([] ++ TL.joinL [] (q :: r)) = (p :: q :: r).flatten
    rw [joinL_nil (q :: r)]; simp
theorem map_tl_S : ∀ l : List (List Nat), (l.map S).map TL.tl = l
  | [] => rfl
  | x :: l => congrArg (fun z => x :: z) (map_tl_S l)
theorem join_nil (ys : List (List Nat)) : Txt.join (S []) (ys.map S) = S ys.flatten := by
  have e := TL.tl_join (S []) (ys.map S)
  rw [map_tl_S] at e
  have e2 : TL.tl (Txt.join (S []) (ys.map S)) = TL.tl (S (TL.joinL [] ys)) := (congrArg TL.tl (TL.join_eq (S []) (ys.map S))).trans e
  exact (TL.ext_tl e2).trans (by rw [joinL_nil])
theorem flat1 : ∀ cs : List Nat, (cs.map fun c => [c]).flatten = cs
  | [] => rfl
  | c :: cs => by
    show [c] ++ (cs.map fun c => [c]).flatten = c :: cs
    rw [flat1 cs]; rfl
theorem join_signs (cs : List Nat) : Txt.join (S []) (cs.map fun c => S [c]) = S cs := by
  have e := join_nil (cs.map fun c => [c])
  rw [flat1, List.map_map] at e
  exact e
theorem sum_signs (cs : List Nat) : ((cs.map fun c => S [c]).map (·.length)).sum = cs.length := by
  induction cs with
  | nil => rfl
  | cons c cs ih =>
    show 1 + ((cs.map fun c => S [c]).map (·.length)).sum = cs.length + 1
    omega
theorem empty_S : Str.ofString "" = S [] := by decide +kernel
/-- a heap that keeps all but a, and lays what was not there -/
theorem Kp.lay {a p : Addr} {H0 H : Hp} {o : HO} (k : Kp a H0 H) (n : H0 p = none) : Kp a H0 (upd H p o) := fun b u e => by
  obtain ⟨nb, e0⟩ := hid_sub e
  have q : b ≠ p := fun z => by rw [z, n] at e0; cases e0
  have z := k b u e
  obtain ⟨_, z⟩ := hid_sub z
  rw [hid_ne nb, upd_ne q]; exact z
theorem Kp.none {a b : Addr} {H H' : Hp} (k : Kp a H H') (n : b ≠ a) (h : H' b = none) : H b = none := by
  cases e : H b with
  | none => rfl
  | some o => rw [k.at n e] at h; cases h
theorem Src.lay {a p : Addr} {n : Nat} {H : Hp} {o : HO} (h : Src a n H) (e : p ≠ a) : Src a n (upd H p o) := by
  obtain ⟨d, s, c, q, r⟩ := h
  exact ⟨d, s, c, by rw [upd_ne (Ne.symm e)]; exact q, r⟩
theorem Same.lay {p : Addr} {H : Hp} {o : HO} (n : H p = none) : Same H (upd H p o) := fun b u e => by rw [upd_ne (ne_of_none e n)]; exact e
theorem Same.lay2 {p : Addr} {H0 H : Hp} {o : HO} (k : Same H0 H) (n : H0 p = none) : Same H0 (upd H p o) := fun b u e => by rw [upd_ne (ne_of_none e n)]; exact k b u e
/-- an alphabet: distinct small codes -/
structure Alp (al : List Nat) : Prop where
  nd : al.Nodup
  lo : 1 ≤ al.length
  hi : al.length ≤ 6
  asc : ∀ c ∈ al, c ∈ [97, 98, 99, 100, 101, 102, 103, 104, 105, 106, 107, 108, 109, 110, 111, 112, 113, 114, 115, 116, 117, 118, 119, 120, 121, 122, 48, 49, 50, 51, 52, 53, 54, 55, 56, 57, 32, 45, 46, 95]
theorem seqIx {j n : Nat} (h : j < n) : seqIndex? (j : Int) n = some j := by
  unfold seqIndex?
  have a : ¬ ((j : Int) < 0) := by omega
  simp only [a, if_false]
  have b : (decide (0 ≤ (j : Int)) && decide ((j : Int) < (n : Int))) = true := by simp; omega
  rw [if_pos b]; simp
theorem map_erase {α β : Type} (f : α → β) : ∀ (l : List α) (j : Nat), (l.map f).eraseIdx j = (l.eraseIdx j).map f
  | [], _ => rfl
  | _ :: _, 0 => rfl
  | a :: l, j + 1 => congrArg (fun z => f a :: z) (map_erase f l j)

end Cs
namespace Cs
open PySem L2
open PyProof.Rows (envOfC)
/-! a draw: some number below m, one draw less -/
def sp_draw : Sp := fun vs H Q _ => ∃ (a : Addr) (m : Int) (n : Nat), vs = [.ref a, .int m] ∧ Src a (n + 1) H ∧ 0 < m ∧ m < 2 ^ 30 ∧ ∀ (i : Int) (H' : Hp), 0 ≤ i → i < m → Src a n H' → Kp a H H' → Q (.int i) H'
theorem use_draw {a : Addr} {m : Int} {n : Nat} {H : Hp} {Q : VK} {E : XK} (h : Src a (n + 1) H) (h0 : 0 < m) (h1 : m < 2 ^ 30) (k : ∀ (i : Int) (H' : Hp), 0 ≤ i → i < m → Src a n H' → Kp a H H' → Q (.int i) H') : sp_draw [.ref a, .int m] H Q E :=
  ⟨a, m, n, rfl, h, h0, h1, k⟩
theorem cpow5 {s c : Int} (h1 : 0 ≤ s) (h2 : s < 2 ^ 40) (h3 : 0 ≤ c) (h4 : c ≤ 2 ^ 40) : CPow (s + 7919 * c) 5 := by
  refine ⟨by decide, by decide, ?_⟩
  omega
section
variable {P : Program} {w : World} {K : PySem.W.Frag} {mg : Str → Option Value} {base : Heap}
theorem ok_draw (F : At K mg "_law_draw" s__law_draw ["_law_source_here", "_law_many"]) : Cal P w K mg base 1 "_law_draw" ["_law_source_here", "_law_many"] sp_draw := by
  refine F.ok sc__law_draw (fun vs H Q E h => ?_) (fun f cdv A outer s H vs Q E hr h => ?_)
  · obtain ⟨a, m, n, rfl, _⟩ := h
    rfl
  · obtain ⟨a, m, n, rfl, ⟨d, s', c, e, h1, h2, h3, h4⟩, m0, m1, k⟩ := h
    refine ⟨_, (pss_cons (ps_asg (pe_op op_add (pe_ix (ix_listK (K := K) (by rfl)) (pv 0) pe_int (fun _ _ => rfl)) pe_int) (pg_sub (pv 0) pe_int set_list))
    (pss_cons (ps_if (pt_cmpR op_gt (pe_ix (ix_listK (K := K) (by rfl)) (pv 0) pe_int (fun _ _ => rfl)) pe_int (nomark _))
    (pss_cons (ps_set (i := 2) sc__law_draw.nd rfl (Or.inl rfl) (pe_op op_mod (pe_ix (ix_listK (K := K) (by rfl)) (pv 0) pe_int (fun _ _ => rfl)) (pv 1)))
    (pss_cons (ps_asg (pe_op op_fdiv (pe_ix (ix_listK (K := K) (by rfl)) (pv 0) pe_int (fun _ _ => rfl)) (pv 1)) (pg_sub (pv 0) pe_int set_list))
    (pss_one (ps_ret (pv 2)))))
    pss_nil)
    (pss_cons (ps_set (i := 3) sc__law_draw.nd rfl (Or.inl rfl) (pe_op op_mod (pe_op op_pow (pe_op op_add (pe_ix (ix_listK (K := K) (by rfl)) (pv 0) pe_int (fun _ _ => rfl)) (pe_op op_mul pe_int (pe_ix (ix_listK (K := K) (by rfl)) (pv 0) pe_int (fun _ _ => rfl)))) pe_int) pe_int))
    (pss_one (ps_ret (pe_op op_mod (pe_op op_fdiv (pe_op op_mod (pe_op op_mul (pe_op op_add (pv 3) (pe_ix (ix_listK (K := K) (by rfl)) (pv 0) pe_int (fun _ _ => rfl))) pe_int) pe_int) pe_int) (pv 1))))))), ?_⟩
    walk_at "go"
    refine rd_ixl (SqL.of e) (at_of (j := 2) rfl rfl) ?_
    walk_at "go"
    refine rd_setl e (j := 2) rfl ?_
    have e1 : upd H a (.lst ([V.int d, .int s', .int c].set 2 (.int (c + 1)))) a = some (.lst [.int d, .int s', .int (c + 1)]) := upd_same
    have k1 : Kp a H (upd H a (.lst ([V.int d, .int s', .int c].set 2 (.int (c + 1))))) := Kp.set
    generalize upd H a (.lst ([V.int d, .int s', .int c].set 2 (.int (c + 1)))) = H1 at e1 k1
    walk_at "go"
    refine rd_ixl (SqL.of e1) (at_of (j := 0) rfl rfl) ?_
    walk_at "go"
    refine ite2 (fun hd => ?_) (fun hd => ?_)
    · walk_at "go"
      refine rd_ixl (SqL.of e1) (at_of (j := 0) rfl rfl) ?_
      walk_at "go"
      refine rd_i m0 ?_
      walk_at "go"
      refine rd_ixl (SqL.of e1) (at_of (j := 0) rfl rfl) ?_
      walk_at "go"
      refine rd_i ⟨m0, by omega⟩ ?_
      walk_at "go"
      refine rd_setl e1 (j := 0) rfl ?_
      walk_at "go"
      refine k _ _ (Int.emod_nonneg _ (by omega)) (Int.emod_lt_of_pos _ m0) ⟨d / m, s', c + 1, upd_same, h1, h2, by omega, by omega⟩ (k1.trans Kp.set)
    · walk_at "go"
      refine rd_ixl (SqL.of e1) (at_of (j := 1) rfl rfl) ?_
      walk_at "go"
      refine rd_ixl (SqL.of e1) (at_of (j := 2) rfl rfl) ?_
      refine rd_i (.inl ⟨by decide, by decide⟩) ?_
      walk_at "go"
      refine rd_i (cpow5 h1 h2 (by omega) (by omega)) ?_
      walk_at "go"
      refine rd_i (by decide) ?_
      walk_at "go"
      refine rd_ixl (SqL.of e1) (at_of (j := 2) rfl rfl) ?_
      walk_at "go"
      refine rd_i (.inr ⟨by decide, by decide⟩) ?_
      walk_at "go"
      refine rd_i (by decide) ?_
      walk_at "go"
      refine rd_i ⟨by decide, by decide⟩ ?_
      walk_at "go"
      refine rd_i m0 ?_
      exact k _ _ (Int.emod_nonneg _ (by omega)) (Int.emod_lt_of_pos _ m0) ⟨d, s', c + 1, e1, h1, h2, by omega, by omega⟩ k1
end

end Cs
namespace Cs
open PySem L2
open PyProof.Rows (envOfC)
/-! data beside the source -/
theorem at_mem {xs : List V} {i : Int} (h0 : 0 ≤ i) (h1 : i < xs.length) : ∃ v, atI xs i = some v ∧ v ∈ xs := by
  obtain ⟨j, rfl⟩ : ∃ j : Nat, i = (j : Int) := ⟨i.toNat, by omega⟩
  have hj : j < xs.length := by omega
  exact ⟨xs[j], atI_nat (List.getElem?_eq_getElem hj), List.getElem_mem hj⟩
theorem hid_at {a b : Addr} {H : Hp} {o : HO} (n : b ≠ a) (e : H b = some o) : hid a H b = some o := by rw [hid_ne n]; exact e
abbrev DV (K : PySem.W.Frag) (a : Addr) (H : Hp) (v : V) (d : PyData) : Prop := Dp K (hid a H) v d
theorem DV.tup {K : PySem.W.Frag} {a p : Addr} {H : Hp} {xs : List V} {ds : List PyData} (n : p ≠ a) (e : H p = some (.tup xs)) (h : DpAll K (hid a H) xs ds) : DV K a H (.ref p) (.tuple ds) := L2.Dp.tup (SqT.of (hid_at n e)) h
theorem DV.lst {K : PySem.W.Frag} {a p : Addr} {H : Hp} {xs : List V} {ds : List PyData} (n : p ≠ a) (e : H p = some (.lst xs)) (h : DpAll K (hid a H) xs ds) : DV K a H (.ref p) (.list ds) := L2.Dp.lst (SqL.of (hid_at n e)) h
theorem DV.kp {K : PySem.W.Frag} {a : Addr} {H H' : Hp} {v : V} {d : PyData} (k : Kp a H H') (h : DV K a H v d) : DV K a H' v d := Dp.mono k h
theorem DV.at {K : PySem.W.Frag} {a : Addr} {H : Hp} {v : V} {d : PyData} (h : DV K a H v d) : Dp K H v d := Dp.mono hid_le h
theorem DVs.kp {K : PySem.W.Frag} {a : Addr} {H H' : Hp} {v : List V} {d : List PyData} (k : Kp a H H') (h : DpAll K (hid a H) v d) : DpAll K (hid a H') v d := DpAll.mono k h
/-- a new object, beside the source and what is kept -/
theorem rd_newK {a : Addr} {n : Nat} {H : Hp} {o : HO} {R : Addr → Hp → Prop} (hS : Src a n H) (k : ∀ p H', p ≠ a → H p = none → H' p = some o → Src a n H' → Kp a H H' → R p H') : New H o R := fun p hp =>
  k p _ (hS.ne hp) hp upd_same (hS.lay (hS.ne hp)) (Kp.refl.lay hp)
def dSet (cs : List Nat) : PyData := .tuple [.str (Str.ofString "set"), .str (S cs)]
theorem at_c {α : Type} {xs : List α} {z : Int} {j : Nat} {v : α} (e : z = 0 + (j : Int)) (h : xs[j]? = some v) : atI xs z = some v := by
  rw [e, Int.zero_add]
  exact atI_nat h
/-! data without lists: tuples that stand -/
def TS (H H' : Hp) : Prop := ∀ b xs, H b = some (.tup xs) → H' b = some (.tup xs)
theorem TS.refl {H : Hp} : TS H H := fun _ _ e => e
theorem TS.trans {H H1 H2 : Hp} (x : TS H H1) (y : TS H1 H2) : TS H H2 := fun b xs e => y b xs (x b xs e)
theorem TS.same {H H' : Hp} (s : Same H H') : TS H H' := fun b xs e => s b _ e
theorem TS.kp {a : Addr} {n : Nat} {H H' : Hp} (hS : Src a n H) (k : Kp a H H') : TS H H' := fun b xs e => by
  refine k.at (fun z => ?_) e
  obtain ⟨_, _, _, q, _⟩ := hS
  rw [z, q] at e; cases e
theorem TS.lay {p : Addr} {H : Hp} {o : HO} (n : H p = none) : TS H (upd H p o) := TS.same (Same.lay n)
theorem TS.set {p : Addr} {H : Hp} {xs : List V} {o : HO} (e : H p = some (.lst xs)) : TS H (upd H p o) := fun b ys q => by
  rw [upd_ne (fun z => by rw [z, e] at q; cases q)]; exact q
mutual
inductive Tp (H : Hp) : V → PyData → Prop
  | non : Tp H .non .none
  | bl (b : Bool) : Tp H (.bl b) (.bool b)
  | int (i : Int) : Tp H (.int i) (.int i)
  | str (x : Str) : Tp H (.str x) (.str x)
  | tup {a : Addr} {xs : List V} {ds : List PyData} : H a = some (.tup xs) → TpAll H xs ds → Tp H (.ref a) (.tuple ds)
inductive TpAll (H : Hp) : List V → List PyData → Prop
  | nil : TpAll H [] []
  | cons {v : V} {vs : List V} {d : PyData} {ds : List PyData} : Tp H v d → TpAll H vs ds → TpAll H (v :: vs) (d :: ds)
end
mutual
theorem Tp.ts {H H' : Hp} (s : TS H H') : ∀ {v : V} {d : PyData}, Tp H v d → Tp H' v d
  | _, _, .non => .non
  | _, _, .bl b => .bl b
  | _, _, .int i => .int i
  | _, _, .str x => .str x
  | _, _, .tup h t => .tup (s _ _ h) (TpAll.ts s t)
theorem TpAll.ts {H H' : Hp} (s : TS H H') : ∀ {vs : List V} {ds : List PyData}, TpAll H vs ds → TpAll H' vs ds
  | _, _, .nil => .nil
  | _, _, .cons h t => .cons (Tp.ts s h) (TpAll.ts s t)
end
mutual
theorem Tp.dp {K : PySem.W.Frag} {H : Hp} : ∀ {v : V} {d : PyData}, Tp H v d → Dp K H v d
  | _, _, .non => .non
  | _, _, .bl b => .bl b
  | _, _, .int i => .int i
  | _, _, .str x => .str x
  | _, _, .tup h t => .tup (SqT.of h) (TpAll.dp t)
theorem TpAll.dp {K : PySem.W.Frag} {H : Hp} : ∀ {vs : List V} {ds : List PyData}, TpAll H vs ds → DpAll K H vs ds
  | _, _, .nil => .nil
  | _, _, .cons h t => .cons (Tp.dp h) (TpAll.dp t)
end
theorem TS.hid {a : Addr} {n : Nat} {H : Hp} (hS : Src a n H) : TS H (Cs.hid a H) := fun b xs e => by
  rw [hid_ne (fun z => ?_)]; exact e
  obtain ⟨_, _, _, q, _⟩ := hS
  rw [z, q] at e; cases e
theorem Tp.dv {K : PySem.W.Frag} {a : Addr} {n : Nat} {H : Hp} {v : V} {d : PyData} (hS : Src a n H) (h : Tp H v d) : DV K a H v d := Tp.dp (Tp.ts (TS.hid hS) h)
theorem TpAll.length {H : Hp} : ∀ {vs : List V} {ds : List PyData}, TpAll H vs ds → vs.length = ds.length
  | _, _, .nil => rfl
  | _, _, .cons _ t => by rw [List.length_cons, List.length_cons, TpAll.length t]
theorem TpAll.app {H : Hp} : ∀ {vs ws : List V} {ds es : List PyData}, TpAll H vs ds → TpAll H ws es → TpAll H (vs ++ ws) (ds ++ es)
  | _, _, _, _, .nil, t => t
  | _, _, _, _, .cons h t, u => .cons h (TpAll.app t u)
theorem TpAll.drop {H : Hp} : ∀ {vs : List V} {ds : List PyData} (n : Nat), TpAll H vs ds → TpAll H (vs.drop n) (ds.drop n)
  | _, _, 0, t => t
  | _, _, _ + 1, .nil => .nil
  | _, _, n + 1, .cons _ t => TpAll.drop n t

end Cs
namespace Cs
open PySem L2
open PyProof.Rows (envOfC)
/-! bits of a set of places; pieces of an automaton, their languages -/
abbrev Lg := List Nat → Prop
def Pw (A : Lg) : Nat → Lg
  | 0, w => w = []
  | n + 1, w => ∃ u v, w = u ++ v ∧ A u ∧ Pw A n v
def RowL : List Lg → Lg
  | [], w => w = []
  | A :: As, w => ∃ u v, w = u ++ v ∧ A u ∧ RowL As v
abbrev Ed (f : List Nat) (k m : Nat) : Prop := (f.getD k 0).testBit m = true
def Qa (f : List Nat) (r : Nat → Nat) (l : Nat) : List Nat → Nat → Prop
  | [], k => l.testBit k = true
  | c :: w, k => ∃ m, Ed f k m ∧ (r c).testBit m = true ∧ Qa f r l w m
def PL (f : List Nat) (r : Nat → Nat) (e : Bool) (F L : Nat) : Lg
  | [] => e = true
  | c :: w => ∃ m, F.testBit m = true ∧ (r c).testBit m = true ∧ Qa f r L w m
structure POk (f : List Nat) (a b F L : Nat) : Prop where
  le : a ≤ b
  F : ∀ m, F.testBit m = true → a ≤ m ∧ m < b
  L : ∀ m, L.testBit m = true → a ≤ m ∧ m < b
  E : ∀ k m, a ≤ k → k < b → Ed f k m → a ≤ m ∧ m < b
/-- two machines agree on the places from a on ahead of b -/
structure Agr (f f' : List Nat) (r r' : Nat → Nat) (a b : Nat) : Prop where
  f : ∀ k, a ≤ k → k < b → f'.getD k 0 = f.getD k 0
  r : ∀ c m, a ≤ m → m < b → (r' c).testBit m = (r c).testBit m
theorem Agr.refl {f : List Nat} {r : Nat → Nat} {a b : Nat} : Agr f f r r a b := ⟨fun _ _ _ => rfl, fun _ _ _ _ => rfl⟩
theorem Agr.trans {f f' f'' : List Nat} {r r' r'' : Nat → Nat} {a b : Nat} (x : Agr f f' r r' a b) (y : Agr f' f'' r' r'' a b) : Agr f f'' r r'' a b :=
  ⟨fun k h1 h2 => (y.f k h1 h2).trans (x.f k h1 h2), fun c m h1 h2 => (y.r c m h1 h2).trans (x.r c m h1 h2)⟩
theorem Agr.sub {f f' : List Nat} {r r' : Nat → Nat} {a b a' b' : Nat} (x : Agr f f' r r' a b) (h1 : a ≤ a') (h2 : b' ≤ b) : Agr f f' r r' a' b' :=
  ⟨fun k q1 q2 => x.f k (Nat.le_trans h1 q1) (Nat.lt_of_lt_of_le q2 h2), fun c m q1 q2 => x.r c m (Nat.le_trans h1 q1) (Nat.lt_of_lt_of_le q2 h2)⟩
section
variable {f f' : List Nat} {r r' : Nat → Nat} {a b F L : Nat}
theorem Qa_agr (E : ∀ k m, a ≤ k → k < b → Ed f k m → a ≤ m ∧ m < b) (g : Agr f f' r r' a b) {l l' : Nat} (hl : ∀ m, a ≤ m → m < b → l'.testBit m = l.testBit m) : ∀ w k, a ≤ k → k < b → (Qa f' r' l' w k ↔ Qa f r l w k)
  | [], k, h1, h2 => by show l'.testBit k = true ↔ l.testBit k = true; rw [hl k h1 h2]
  | c :: w, k, h1, h2 => by
    constructor
    · rintro ⟨m, e, rc, q⟩
      have e' : Ed f k m := by unfold Ed at e ⊢; rw [← g.f k h1 h2]; exact e
      obtain ⟨m1, m2⟩ := E k m h1 h2 e'
      exact ⟨m, e', by rw [← g.r c m m1 m2]; exact rc, (Qa_agr E g hl w m m1 m2).mp q⟩
    · rintro ⟨m, e, rc, q⟩
      obtain ⟨m1, m2⟩ := E k m h1 h2 e
      exact ⟨m, by unfold Ed at e ⊢; rw [g.f k h1 h2]; exact e, by rw [g.r c m m1 m2]; exact rc, (Qa_agr E g hl w m m1 m2).mpr q⟩
theorem POk.agr (p : POk f a b F L) (g : Agr f f' r r' a b) : POk f' a b F L :=
  ⟨p.le, p.F, p.L, fun k m h1 h2 e => p.E k m h1 h2 (by unfold Ed at e ⊢; rw [← g.f k h1 h2]; exact e)⟩
theorem POk.pl (p : POk f a b F L) (g : Agr f f' r r' a b) {e : Bool} : ∀ w, PL f' r' e F L w ↔ PL f r e F L w
  | [] => Iff.rfl
  | c :: w => by
    constructor
    · rintro ⟨m, h, rc, q⟩
      obtain ⟨m1, m2⟩ := p.F m h
      exact ⟨m, h, by rw [← g.r c m m1 m2]; exact rc, (Qa_agr p.E g (fun _ _ _ => rfl) w m m1 m2).mp q⟩
    · rintro ⟨m, h, rc, q⟩
      obtain ⟨m1, m2⟩ := p.F m h
      exact ⟨m, h, by rw [g.r c m m1 m2]; exact rc, (Qa_agr p.E g (fun _ _ _ => rfl) w m m1 m2).mpr q⟩
end
/-! ### edges added -/
def linkF (f : List Nat) (b a : Nat) : List Nat := f.mapIdx fun k x => if b.testBit k then x ||| a else x
theorem linkF_len (f : List Nat) (b a : Nat) : (linkF f b a).length = f.length := by simp [linkF]
theorem linkF_get (f : List Nat) (b a k : Nat) (h : k < f.length) : (linkF f b a).getD k 0 = if b.testBit k then f.getD k 0 ||| a else f.getD k 0 := by
  simp [linkF, List.getD_eq_getElem?_getD, List.getElem?_mapIdx, h]
theorem linkF_no (f : List Nat) (b a k : Nat) (h : b.testBit k = false) : (linkF f b a).getD k 0 = f.getD k 0 := by
  by_cases q : k < f.length
  · rw [linkF_get _ _ _ _ q, h]; rfl
  · simp [linkF, List.getD_eq_getElem?_getD, List.getElem?_mapIdx, q]
theorem linkF_ed {f : List Nat} {b a k m : Nat} (h : k < f.length) : Ed (linkF f b a) k m ↔ Ed f k m ∨ (b.testBit k = true ∧ a.testBit m = true) := by
  unfold Ed
  rw [linkF_get _ _ _ _ h]
  cases e : b.testBit k
  · simp
  · simp [Nat.testBit_or]
theorem linkF_agr {f : List Nat} {r : Nat → Nat} {b a x y : Nat} (h : ∀ k, b.testBit k = true → ¬ (x ≤ k ∧ k < y)) : Agr f (linkF f b a) r r x y :=
  ⟨fun k h1 h2 => linkF_no _ _ _ _ (by cases e : b.testBit k with | false => rfl | true => exact absurd ⟨h1, h2⟩ (h k e)), fun _ _ _ _ => rfl⟩
theorem or_bit {x y m : Nat} : (x ||| y).testBit m = true ↔ x.testBit m = true ∨ y.testBit m = true := by simp [Nat.testBit_or]
theorem if_bit {c : Bool} {x y m : Nat} : (if c then x else y).testBit m = true ↔ (c = true ∧ x.testBit m = true) ∨ (c = false ∧ y.testBit m = true) := by cases c <;> simp
/-! ### one piece behind another -/
section
variable {f : List Nat} {r : Nat → Nat} {x y z F L F2 L2 : Nat} {e e2 : Bool} {A B : Lg}
theorem chain_q (p : POk f x y F L) (q : POk f y z F2 L2) (hz : z ≤ f.length) (hB : ∀ w, PL f r e2 F2 L2 w ↔ B w) :
    ∀ w k, x ≤ k → k < y → (Qa (linkF f L F2) r (if e2 then L ||| L2 else L2) w k ↔ ∃ u v, w = u ++ v ∧ Qa f r L u k ∧ B v)
  | [], k, h1, h2 => by
    have nk : L2.testBit k = false := by
      cases e : L2.testBit k with
      | false => rfl
      | true => have := (q.L k e).1; omega
    constructor
    · intro h
      have h : (if e2 then L ||| L2 else L2).testBit k = true := h
      rw [if_bit, or_bit, nk] at h
      rcases h with ⟨he, h | h⟩ | ⟨_, h⟩
      · exact ⟨[], [], rfl, h, (hB []).mp he⟩
      · cases h
      · cases h
    · rintro ⟨u, v, ew, h, hb⟩
      obtain ⟨rfl, rfl⟩ := List.append_eq_nil_iff.mp ew.symm
      have he : e2 = true := (hB []).mpr hb
      show (if e2 then L ||| L2 else L2).testBit k = true
      rw [if_bit, or_bit]
      exact .inl ⟨he, .inl h⟩
  | c :: w, k, h1, h2 => by
    have hk : k < f.length := by have := q.le; omega
    have ag : Agr f (linkF f L F2) r r y z := linkF_agr fun j hj => by have := p.L j hj; omega
    have sec : ∀ w m, y ≤ m → m < z → (Qa (linkF f L F2) r (if e2 then L ||| L2 else L2) w m ↔ Qa f r L2 w m) := fun w m m1 m2 => by
      refine Qa_agr q.E ag (fun j j1 j2 => ?_) w m m1 m2
      have nj : L.testBit j = false := by
        cases e : L.testBit j with
        | false => rfl
        | true => have := (p.L j e).2; omega
      cases e2
      · rfl
      · show (L ||| L2).testBit j = L2.testBit j
        rw [Nat.testBit_or, nj]; rfl
    constructor
    · rintro ⟨m, he, hr, hq⟩
      rcases (linkF_ed hk).mp he with he | ⟨hl, hf⟩
      · obtain ⟨m1, m2⟩ := p.E k m h1 h2 he
        obtain ⟨u, v, rfl, hu, hv⟩ := (chain_q p q hz hB w m m1 m2).mp hq
        exact ⟨c :: u, v, rfl, ⟨m, he, hr, hu⟩, hv⟩
      · obtain ⟨m1, m2⟩ := q.F m hf
        exact ⟨[], c :: w, rfl, hl, (hB (c :: w)).mp ⟨m, hf, hr, (sec w m m1 m2).mp hq⟩⟩
    · rintro ⟨u, v, ew, hu, hv⟩
      cases u with
      | nil =>
        have ev : v = c :: w := ew.symm
        subst ev
        obtain ⟨m, hf, hr, hq⟩ := (hB (c :: w)).mpr hv
        obtain ⟨m1, m2⟩ := q.F m hf
        exact ⟨m, (linkF_ed hk).mpr (.inr ⟨hu, hf⟩), hr, (sec w m m1 m2).mpr hq⟩
      | cons d u =>
        obtain ⟨ed, ew2⟩ := List.cons.inj ew
        cases ed; subst ew2
        obtain ⟨m, he, hr, hq⟩ := hu
        obtain ⟨m1, m2⟩ := p.E k m h1 h2 he
        exact ⟨m, (linkF_ed hk).mpr (.inl he), hr, (chain_q p q hz hB (u ++ v) m m1 m2).mpr ⟨u, v, rfl, hq, hv⟩⟩
theorem chain_step (p : POk f x y F L) (q : POk f y z F2 L2) (hz : z ≤ f.length) (hA : ∀ w, PL f r e F L w ↔ A w) (hB : ∀ w, PL f r e2 F2 L2 w ↔ B w) :
    POk (linkF f L F2) x z (if e then F ||| F2 else F) (if e2 then L ||| L2 else L2) ∧ ∀ w, PL (linkF f L F2) r (e && e2) (if e then F ||| F2 else F) (if e2 then L ||| L2 else L2) w ↔ ∃ u v, w = u ++ v ∧ A u ∧ B v := by
  have l1 := p.le
  have l2 := q.le
  refine ⟨⟨by omega, fun m h => ?_, fun m h => ?_, fun k m h1 h2 h => ?_⟩, fun w => ?_⟩
  · rw [if_bit, or_bit] at h
    rcases h with ⟨_, h | h⟩ | ⟨_, h⟩
    · have := p.F m h; omega
    · have := q.F m h; omega
    · have := p.F m h; omega
  · rw [if_bit, or_bit] at h
    rcases h with ⟨_, h | h⟩ | ⟨_, h⟩
    · have := p.L m h; omega
    · have := q.L m h; omega
    · have := q.L m h; omega
  · rcases (linkF_ed (by omega)).mp h with h | ⟨h, h'⟩
    · by_cases hk : k < y
      · have := p.E k m h1 hk h; omega
      · have := q.E k m (by omega) h2 h; omega
    · have := q.F m h'; omega
  · have cq := chain_q (e2 := e2) p q hz hB
    cases w with
    | nil =>
      constructor
      · intro h
        have h : (e && e2) = true := h
        rw [Bool.and_eq_true] at h
        exact ⟨[], [], rfl, (hA []).mp h.1, (hB []).mp h.2⟩
      · rintro ⟨u, v, ew, ha, hb⟩
        obtain ⟨rfl, rfl⟩ := List.append_eq_nil_iff.mp ew.symm
        show (e && e2) = true
        rw [Bool.and_eq_true]
        exact ⟨(hA []).mpr ha, (hB []).mpr hb⟩
    | cons c w =>
      have ag : Agr f (linkF f L F2) r r y z := linkF_agr fun j hj => by have := p.L j hj; omega
      have sec : ∀ w m, y ≤ m → m < z → (Qa (linkF f L F2) r (if e2 then L ||| L2 else L2) w m ↔ Qa f r L2 w m) := fun w m m1 m2 => by
        refine Qa_agr q.E ag (fun j j1 j2 => ?_) w m m1 m2
        have nj : L.testBit j = false := by
          cases e : L.testBit j with
          | false => rfl
          | true => have := (p.L j e).2; omega
        cases e2
        · rfl
        · show (L ||| L2).testBit j = L2.testBit j
          rw [Nat.testBit_or, nj]; rfl
      constructor
      · rintro ⟨m, hf, hr, hq⟩
        rw [if_bit, or_bit] at hf
        have one : F.testBit m = true → ∃ u v, c :: w = u ++ v ∧ A u ∧ B v := fun hf => by
          obtain ⟨m1, m2⟩ := p.F m hf
          obtain ⟨u, v, rfl, hu, hv⟩ := (cq w m m1 m2).mp hq
          exact ⟨c :: u, v, rfl, (hA _).mp ⟨m, hf, hr, hu⟩, hv⟩
        rcases hf with ⟨he, hf | hf⟩ | ⟨_, hf⟩
        · exact one hf
        · obtain ⟨m1, m2⟩ := q.F m hf
          exact ⟨[], c :: w, rfl, (hA []).mp he, (hB _).mp ⟨m, hf, hr, (sec w m m1 m2).mp hq⟩⟩
        · exact one hf
      · rintro ⟨u, v, ew, hu, hv⟩
        cases u with
        | nil =>
          have ev : v = c :: w := ew.symm
          subst ev
          have he : e = true := (hA []).mpr hu
          obtain ⟨m, hf, hr, hq⟩ := (hB (c :: w)).mpr hv
          obtain ⟨m1, m2⟩ := q.F m hf
          exact ⟨m, by rw [if_bit, or_bit]; exact .inl ⟨he, .inr hf⟩, hr, (sec w m m1 m2).mpr hq⟩
        | cons d u =>
          obtain ⟨ed, ew2⟩ := List.cons.inj ew
          cases ed; subst ew2
          obtain ⟨m, hf, hr, hq⟩ := (hA (c :: u)).mpr hu
          obtain ⟨m1, m2⟩ := p.F m hf
          refine ⟨m, ?_, hr, (cq (u ++ v) m m1 m2).mpr ⟨u, v, rfl, hq, hv⟩⟩
          rw [if_bit, or_bit]
          cases e
          · exact .inr ⟨rfl, hf⟩
          · exact .inl ⟨rfl, .inl hf⟩
/-! ### one piece or another -/
theorem choice_step (p : POk f x y F L) (q : POk f y z F2 L2) (hA : ∀ w, PL f r e F L w ↔ A w) (hB : ∀ w, PL f r e2 F2 L2 w ↔ B w) :
    POk f x z (F ||| F2) (L ||| L2) ∧ ∀ w, PL f r (e || e2) (F ||| F2) (L ||| L2) w ↔ A w ∨ B w := by
  have l1 := p.le
  have l2 := q.le
  refine ⟨⟨by omega, fun m h => ?_, fun m h => ?_, fun k m h1 h2 h => ?_⟩, fun w => ?_⟩
  · rw [or_bit] at h
    rcases h with h | h
    · have := p.F m h; omega
    · have := q.F m h; omega
  · rw [or_bit] at h
    rcases h with h | h
    · have := p.L m h; omega
    · have := q.L m h; omega
  · by_cases hk : k < y
    · have := p.E k m h1 hk h; omega
    · have := q.E k m (by omega) h2 h; omega
  · cases w with
    | nil =>
      have := hA []
      have := hB []
      simp only [PL, Bool.or_eq_true] at *
      rw [← hA [], ← hB []]
    | cons c w =>
      have fir : ∀ w m, x ≤ m → m < y → (Qa f r (L ||| L2) w m ↔ Qa f r L w m) := fun w m m1 m2 => by
        refine Qa_agr p.E .refl (fun j j1 j2 => ?_) w m m1 m2
        have nj : L2.testBit j = false := by
          cases e : L2.testBit j with
          | false => rfl
          | true => have := (q.L j e).1; omega
        rw [Nat.testBit_or, nj]; simp
      have sec : ∀ w m, y ≤ m → m < z → (Qa f r (L ||| L2) w m ↔ Qa f r L2 w m) := fun w m m1 m2 => by
        refine Qa_agr q.E .refl (fun j j1 j2 => ?_) w m m1 m2
        have nj : L.testBit j = false := by
          cases e : L.testBit j with
          | false => rfl
          | true => have := (p.L j e).2; omega
        rw [Nat.testBit_or, nj]; rfl
      constructor
      · rintro ⟨m, hf, hr, hq⟩
        rw [or_bit] at hf
        rcases hf with hf | hf
        · obtain ⟨m1, m2⟩ := p.F m hf
          exact .inl ((hA _).mp ⟨m, hf, hr, (fir w m m1 m2).mp hq⟩)
        · obtain ⟨m1, m2⟩ := q.F m hf
          exact .inr ((hB _).mp ⟨m, hf, hr, (sec w m m1 m2).mp hq⟩)
      · rintro (h | h)
        · obtain ⟨m, hf, hr, hq⟩ := (hA (c :: w)).mpr h
          obtain ⟨m1, m2⟩ := p.F m hf
          exact ⟨m, or_bit.mpr (.inl hf), hr, (fir w m m1 m2).mpr hq⟩
        · obtain ⟨m, hf, hr, hq⟩ := (hB (c :: w)).mpr h
          obtain ⟨m1, m2⟩ := q.F m hf
          exact ⟨m, or_bit.mpr (.inr hf), hr, (sec w m m1 m2).mpr hq⟩
/-! ### a piece again and again -/
theorem pow_cons {A : Lg} : ∀ {n : Nat} {c : Nat} {w : List Nat}, Pw A n (c :: w) → ∃ u v j, w = u ++ v ∧ A (c :: u) ∧ Pw A j v ∧ j < n ∧ (A [] ∨ j + 1 = n)
  | 0, _, _, h => by cases h
  | n + 1, c, w, ⟨u, v, ew, ha, hp⟩ => by
    cases u with
    | nil =>
      have ev : v = c :: w := ew.symm
      subst ev
      obtain ⟨u, v, j, h1, h2, h3, h4, h5⟩ := pow_cons hp
      exact ⟨u, v, j, h1, h2, h3, by omega, .inl ha⟩
    | cons d u =>
      obtain ⟨ed, ew2⟩ := List.cons.inj ew
      cases ed; subst ew2
      exact ⟨u, v, n, rfl, ha, hp, by omega, .inr rfl⟩
theorem loop_q (p : POk f x y F L) (hy : y ≤ f.length) (hA : ∀ w, PL f r e F L w ↔ A w) :
    ∀ w k, x ≤ k → k < y → (Qa (linkF f L F) r L w k ↔ ∃ u v, w = u ++ v ∧ Qa f r L u k ∧ ∃ n, Pw A n v)
  | [], k, h1, h2 => by
    constructor
    · intro h; exact ⟨[], [], rfl, h, 0, rfl⟩
    · rintro ⟨u, v, ew, h, _⟩
      obtain ⟨rfl, rfl⟩ := List.append_eq_nil_iff.mp ew.symm
      exact h
  | c :: w, k, h1, h2 => by
    have hk : k < f.length := by omega
    constructor
    · rintro ⟨m, he, hr, hq⟩
      rcases (linkF_ed hk).mp he with he | ⟨hl, hf⟩
      · obtain ⟨m1, m2⟩ := p.E k m h1 h2 he
        obtain ⟨u, v, rfl, hu, hv⟩ := (loop_q p hy hA w m m1 m2).mp hq
        exact ⟨c :: u, v, rfl, ⟨m, he, hr, hu⟩, hv⟩
      · obtain ⟨m1, m2⟩ := p.F m hf
        obtain ⟨u, v, rfl, hu, n, hv⟩ := (loop_q p hy hA w m m1 m2).mp hq
        exact ⟨[], c :: (u ++ v), rfl, hl, n + 1, c :: u, v, rfl, (hA _).mp ⟨m, hf, hr, hu⟩, hv⟩
    · rintro ⟨u, v, ew, hu, n, hv⟩
      cases u with
      | nil =>
        have ev : v = c :: w := ew.symm
        subst ev
        obtain ⟨u, v, j, rfl, ha, hj, _⟩ := pow_cons hv
        obtain ⟨m, hf, hr, hq⟩ := (hA (c :: u)).mpr ha
        obtain ⟨m1, m2⟩ := p.F m hf
        exact ⟨m, (linkF_ed hk).mpr (.inr ⟨hu, hf⟩), hr, (loop_q p hy hA (u ++ v) m m1 m2).mpr ⟨u, v, rfl, hq, j, hj⟩⟩
      | cons d u =>
        obtain ⟨ed, ew2⟩ := List.cons.inj ew
        cases ed; subst ew2
        obtain ⟨m, he, hr, hq⟩ := hu
        obtain ⟨m1, m2⟩ := p.E k m h1 h2 he
        exact ⟨m, (linkF_ed hk).mpr (.inl he), hr, (loop_q p hy hA (u ++ v) m m1 m2).mpr ⟨u, v, rfl, hq, n, hv⟩⟩
theorem loop_step (p : POk f x y F L) (hy : y ≤ f.length) (hA : ∀ w, PL f r e F L w ↔ A w) :
    POk (linkF f L F) x y F L ∧ ∀ w, PL (linkF f L F) r true F L w ↔ ∃ n, Pw A n w := by
  refine ⟨⟨p.le, p.F, p.L, fun k m h1 h2 h => ?_⟩, fun w => ?_⟩
  · rcases (linkF_ed (by omega)).mp h with h | ⟨_, h⟩
    · exact p.E k m h1 h2 h
    · exact p.F m h
  · cases w with
    | nil => exact ⟨fun _ => ⟨0, rfl⟩, fun _ => rfl⟩
    | cons c w =>
      constructor
      · rintro ⟨m, hf, hr, hq⟩
        obtain ⟨m1, m2⟩ := p.F m hf
        obtain ⟨u, v, rfl, hu, n, hv⟩ := (loop_q p hy hA w m m1 m2).mp hq
        exact ⟨n + 1, c :: u, v, rfl, (hA _).mp ⟨m, hf, hr, hu⟩, hv⟩
      · rintro ⟨n, h⟩
        obtain ⟨u, v, j, rfl, ha, hj, _⟩ := pow_cons h
        obtain ⟨m, hf, hr, hq⟩ := (hA (c :: u)).mpr ha
        obtain ⟨m1, m2⟩ := p.F m hf
        exact ⟨m, hf, hr, (loop_q p hy hA (u ++ v) m m1 m2).mpr ⟨u, v, rfl, hq, j, hj⟩⟩
/-- with e true, the empty text too -/
theorem pl_true (hA : ∀ w, PL f r e F L w ↔ A w) (w : List Nat) : PL f r true F L w ↔ w = [] ∨ A w := by
  cases w with
  | nil => exact ⟨fun _ => .inl rfl, fun _ => rfl⟩
  | cons c w =>
    rw [← hA (c :: w)]
    exact ⟨fun h => .inr h, fun h => h.elim (fun q => nomatch q) id⟩
end

end Cs
namespace Cs
open PySem L2
open PyProof.Rows (envOfC)
/-! patterns as trees and the texts that they match -/
inductive Pt
  | set (cs : List Nat)
  | row (ps : List Pt)
  | any (ps : List Pt)
  | all (ps : List Pt)
  | no (p : Pt)
  | again (p : Pt) (lo : Nat) (hi : Option Nat)
mutual
def Pt.L : Pt → Lg
  | .set cs, w => ∃ c, c ∈ cs ∧ w = [c]
  | .row ps, w => Pt.LRow ps w
  | .any ps, w => Pt.LAny ps w
  | .all ps, w => Pt.LAll ps w
  | .no p, w => ¬ Pt.L p w
  | .again p lo hi, w => ∃ n, lo ≤ n ∧ (∀ h, hi = some h → n ≤ h) ∧ Pw (Pt.L p) n w
def Pt.LRow : List Pt → Lg
  | [], w => w = []
  | p :: ps, w => ∃ u v, w = u ++ v ∧ Pt.L p u ∧ Pt.LRow ps v
def Pt.LAny : List Pt → Lg
  | [], _ => False
  | p :: ps, w => Pt.L p w ∨ Pt.LAny ps w
def Pt.LAll : List Pt → Lg
  | [], _ => True
  | p :: ps, w => Pt.L p w ∧ Pt.LAll ps w
end
theorem Pt.LRow_eq : ∀ (ps : List Pt) (w : List Nat), Pt.LRow ps w ↔ RowL (ps.map Pt.L) w
  | [], w => by simp [Pt.LRow, RowL]
  | p :: ps, w => by simp only [Pt.LRow, List.map_cons, RowL, Pt.LRow_eq ps]
theorem Pt.LAny_eq : ∀ (ps : List Pt) (w : List Nat), Pt.LAny ps w ↔ ∃ A ∈ ps.map Pt.L, A w
  | [], w => by simp [Pt.LAny]
  | p :: ps, w => by
    rw [Pt.LAny, List.map_cons, Pt.LAny_eq ps]
    constructor
    · rintro (h | ⟨A, h, q⟩)
      · exact ⟨_, List.mem_cons_self, h⟩
      · exact ⟨A, List.mem_cons_of_mem _ h, q⟩
    · rintro ⟨A, h, q⟩
      rcases List.mem_cons.mp h with rfl | h
      · exact .inl q
      · exact .inr ⟨A, h, q⟩
/-! ### pieces side by side -/
inductive Pcs (f : List Nat) (r : Nat → Nat) : Nat → List (Bool × Nat × Nat) → Nat → List Lg → Prop
  | nil {a : Nat} : Pcs f r a [] a []
  | cons {a b c : Nat} {e : Bool} {F L : Nat} {A : Lg} {ps : List (Bool × Nat × Nat)} {As : List Lg} : POk f a b F L → (∀ w, PL f r e F L w ↔ A w) → Pcs f r b ps c As → Pcs f r a ((e, F, L) :: ps) c (A :: As)
theorem Pcs.le {f : List Nat} {r : Nat → Nat} : ∀ {a b : Nat} {ps : List (Bool × Nat × Nat)} {As : List Lg}, Pcs f r a ps b As → a ≤ b
  | _, _, _, _, .nil => Nat.le_refl _
  | _, _, _, _, .cons p _ t => Nat.le_trans p.le t.le
theorem Pcs.agr {f f' : List Nat} {r r' : Nat → Nat} : ∀ {a b : Nat} {ps : List (Bool × Nat × Nat)} {As : List Lg}, Pcs f r a ps b As → Agr f f' r r' a b → Pcs f' r' a ps b As
  | _, _, _, _, .nil, _ => .nil
  | _, _, _, _, .cons p q t, g => .cons (p.agr (g.sub (Nat.le_refl _) t.le)) (fun w => (p.pl (g.sub (Nat.le_refl _) t.le) w).trans (q w)) (t.agr (g.sub p.le (Nat.le_refl _)))
theorem Pcs.snoc {f : List Nat} {r : Nat → Nat} {b c : Nat} {e : Bool} {F L : Nat} {A : Lg} (p : POk f b c F L) (q : ∀ w, PL f r e F L w ↔ A w) : ∀ {a : Nat} {ps : List (Bool × Nat × Nat)} {As : List Lg}, Pcs f r a ps b As → Pcs f r a (ps ++ [(e, F, L)]) c (As ++ [A])
  | _, _, _, .nil => .cons p q .nil
  | _, _, _, .cons p' q' t => .cons p' q' (t.snoc p q)
theorem Pcs.app {f : List Nat} {r : Nat → Nat} : ∀ {a b c : Nat} {ps qs : List (Bool × Nat × Nat)} {As Bs : List Lg}, Pcs f r a ps b As → Pcs f r b qs c Bs → Pcs f r a (ps ++ qs) c (As ++ Bs)
  | _, _, _, _, _, _, _, .nil, u => u
  | _, _, _, _, _, _, _, .cons p q t, u => .cons p q (t.app u)
theorem Pcs.length {f : List Nat} {r : Nat → Nat} : ∀ {a b : Nat} {ps : List (Bool × Nat × Nat)} {As : List Lg}, Pcs f r a ps b As → ps.length = As.length
  | _, _, _, _, .nil => rfl
  | _, _, _, _, .cons _ _ t => congrArg Nat.succ t.length
/-- each may be missing -/
theorem Pcs.opt {f : List Nat} {r : Nat → Nat} : ∀ {a b : Nat} {ps : List (Bool × Nat × Nat)} {As : List Lg}, Pcs f r a ps b As → Pcs f r a (ps.map fun x => (true, x.2.1, x.2.2)) b (As.map fun A w => w = [] ∨ A w)
  | _, _, _, _, .nil => .nil
  | _, _, _, _, .cons p q t => .cons p (pl_true q) t.opt
/-- the machine grows: what was there stays, but for the edges from the first place -/
structure Grow (f f' : List Nat) (r r' : Nat → Nat) : Prop where
  len : f.length ≤ f'.length
  fe : ∀ k, k < f.length → f'.getD k 0 = f.getD k 0
  re : ∀ c m, m < f.length → (r' c).testBit m = (r c).testBit m
theorem Grow.refl {f : List Nat} {r : Nat → Nat} : Grow f f r r := ⟨Nat.le_refl _, fun _ _ => rfl, fun _ _ _ => rfl⟩
theorem Grow.trans {f f' f'' : List Nat} {r r' r'' : Nat → Nat} (x : Grow f f' r r') (y : Grow f' f'' r' r'') : Grow f f'' r r'' :=
  ⟨Nat.le_trans x.len y.len, fun k h => (y.fe k (Nat.lt_of_lt_of_le h x.len)).trans (x.fe k h), fun c m h => (y.re c m (Nat.lt_of_lt_of_le h x.len)).trans (x.re c m h)⟩
theorem Grow.agr {f f' : List Nat} {r r' : Nat → Nat} (x : Grow f f' r r') {a b : Nat} (h : b ≤ f.length) : Agr f f' r r' a b := ⟨fun k _ k2 => x.fe k (Nat.lt_of_lt_of_le k2 h), fun c m _ m2 => x.re c m (Nat.lt_of_lt_of_le m2 h)⟩
/-- what stands: no place is read that is not there, no edge leads out of the machine or to its first place, and but for the edges from there none crosses into the places from n on -/
structure Mach (f : List Nat) (r : Nat → Nat) : Prop where
  r : ∀ c m, (r c).testBit m = true → m < f.length
  e : ∀ k m, Ed f k m → 1 ≤ m ∧ m < f.length
  one : 1 ≤ f.length
theorem Grow.link {f : List Nat} {r : Nat → Nat} {b a n : Nat} (h : ∀ k, b.testBit k = true → n ≤ k) (hn : n ≤ f.length) {f0 : List Nat} {r0 : Nat → Nat} (h0 : f0.length = n) (g : Grow f0 f r0 r) : Grow f0 (linkF f b a) r0 r :=
  ⟨by rw [linkF_len]; exact g.len, fun k hk => by
    rw [linkF_no _ _ _ _ (by
      cases e : b.testBit k with
      | false => rfl
      | true => have := h k e; omega)]
    exact g.fe k hk, g.re⟩
theorem Mach.link {f : List Nat} {r : Nat → Nat} {b a x y : Nat} (M : Mach f r) (h : ∀ m, a.testBit m = true → x ≤ m ∧ m < y) (hx : 1 ≤ x) (hy : y ≤ f.length) : Mach (linkF f b a) r :=
  ⟨fun c m q => by rw [linkF_len]; exact M.r c m q, fun k m q => by
    rw [linkF_len]
    by_cases hk : k < f.length
    · rcases (linkF_ed hk).mp q with q | ⟨_, q⟩
      · exact M.e k m q
      · have := h m q; omega
    · unfold Ed at q
      rw [List.getD_eq_getElem?_getD, List.getElem?_eq_none (by rw [linkF_len]; omega)] at q
      simp at q, by rw [linkF_len]; exact M.one⟩
/-! ### a set -/
def addR (r : Nat → Nat) (cs : List Nat) (b : Nat) : Nat → Nat := fun c => if c ∈ cs then r c ||| b else r c
theorem pow2_bit {n m : Nat} : (2 ^ n).testBit m = true ↔ m = n := by
  rw [Nat.testBit_two_pow]; simp [eq_comm]
theorem set_piece {f : List Nat} {r : Nat → Nat} {cs : List Nat} (M : Mach f r) :
    Grow f (f ++ [0]) r (addR r cs (2 ^ f.length)) ∧ Mach (f ++ [0]) (addR r cs (2 ^ f.length)) ∧ POk (f ++ [0]) f.length (f.length + 1) (2 ^ f.length) (2 ^ f.length) ∧
    ∀ w, PL (f ++ [0]) (addR r cs (2 ^ f.length)) false (2 ^ f.length) (2 ^ f.length) w ↔ (Pt.set cs).L w := by
  have hbit : ∀ c m, (addR r cs (2 ^ f.length) c).testBit m = true ↔ (r c).testBit m = true ∨ (c ∈ cs ∧ m = f.length) := fun c m => by
    unfold addR
    by_cases h : c ∈ cs
    · rw [if_pos h, or_bit, pow2_bit]; simp [h]
    · rw [if_neg h]; simp [h]
  have hno : ∀ c, (r c).testBit f.length = false := fun c => by
    cases e : (r c).testBit f.length with
    | false => rfl
    | true => have := M.r c _ e; omega
  have g0 : ∀ k, (f ++ [0]).getD k 0 = f.getD k 0 := fun k => by
    rw [List.getD_eq_getElem?_getD, List.getD_eq_getElem?_getD]
    by_cases h : k < f.length
    · rw [List.getElem?_append_left h]
    · rw [List.getElem?_append_right (by omega), List.getElem?_eq_none (l := f) (by omega)]
      cases q : k - f.length <;> simp
  refine ⟨⟨by simp, fun k hk => g0 k, fun c m hm => ?_⟩, ⟨fun c m h => ?_, fun k m h => ?_, by simp⟩, ⟨by omega, fun m h => ?_, fun m h => ?_, fun k m h1 h2 h => ?_⟩, fun w => ?_⟩
  · rw [Bool.eq_iff_iff, hbit]
    constructor
    · rintro (h | ⟨_, h⟩)
      · exact h
      · omega
    · exact .inl
  · rw [List.length_append, List.length_singleton]
    rcases (hbit c m).mp h with h | ⟨_, h⟩
    · have := M.r c m h; omega
    · omega
  · unfold Ed at h
    rw [g0] at h
    have := M.e k m h
    rw [List.length_append, List.length_singleton]; omega
  · rw [pow2_bit] at h; omega
  · rw [pow2_bit] at h; omega
  · unfold Ed at h
    rw [g0] at h
    have : k = f.length := by omega
    subst this
    rw [List.getD_eq_getElem?_getD, List.getElem?_eq_none (Nat.le_refl _)] at h
    simp at h
  · show _ ↔ Pt.L (Pt.set cs) w
    rw [Pt.L]
    cases w with
    | nil => simp [PL]
    | cons c w =>
      constructor
      · rintro ⟨m, h, hr, q⟩
        rw [pow2_bit] at h
        subst h
        rcases (hbit c _).mp hr with hr | ⟨hc, _⟩
        · rw [hno] at hr; cases hr
        · cases w with
          | nil => exact ⟨c, hc, rfl⟩
          | cons d w =>
            obtain ⟨m, h, _⟩ := q
            unfold Ed at h
            rw [g0, List.getD_eq_getElem?_getD, List.getElem?_eq_none (Nat.le_refl _)] at h
            simp at h
      · rintro ⟨d, hd, e⟩
        cases e
        exact ⟨f.length, pow2_bit.mpr rfl, (hbit c _).mpr (.inr ⟨hd, rfl⟩), pow2_bit.mpr rfl⟩
/-! ### again -/
theorem RowL_app : ∀ (As Bs : List Lg) (w : List Nat), RowL (As ++ Bs) w ↔ ∃ u v, w = u ++ v ∧ RowL As u ∧ RowL Bs v
  | [], Bs, w => by
    constructor
    · intro h; exact ⟨[], w, rfl, rfl, h⟩
    · rintro ⟨u, v, rfl, h, q⟩
      have : u = [] := h
      subst this
      exact q
  | A :: As, Bs, w => by
    constructor
    · rintro ⟨u, v, rfl, ha, h⟩
      obtain ⟨x, y, rfl, h1, h2⟩ := (RowL_app As Bs v).mp h
      exact ⟨u ++ x, y, by rw [List.append_assoc], ⟨u, x, rfl, ha, h1⟩, h2⟩
    · rintro ⟨u, v, rfl, ⟨x, y, rfl, ha, h1⟩, h2⟩
      exact ⟨x, y ++ v, by rw [List.append_assoc], ha, (RowL_app As Bs (y ++ v)).mpr ⟨y, v, rfl, h1, h2⟩⟩
theorem RowL_rep (A : Lg) : ∀ (n : Nat) (w : List Nat), RowL (List.replicate n A) w ↔ Pw A n w
  | 0, w => Iff.rfl
  | n + 1, w => by
    rw [List.replicate_succ]
    constructor
    · rintro ⟨u, v, h, ha, q⟩; exact ⟨u, v, h, ha, (RowL_rep A n v).mp q⟩
    · rintro ⟨u, v, h, ha, q⟩; exact ⟨u, v, h, ha, (RowL_rep A n v).mpr q⟩
theorem RowL_opt (A : Lg) : ∀ (n : Nat) (w : List Nat), RowL (List.replicate n fun w => w = [] ∨ A w) w ↔ ∃ j, j ≤ n ∧ Pw A j w
  | 0, w => ⟨fun h => ⟨0, Nat.le_refl _, h⟩, fun ⟨j, h, q⟩ => by
    have : j = 0 := by omega
    subst this; exact q⟩
  | n + 1, w => by
    rw [List.replicate_succ]
    constructor
    · rintro ⟨u, v, rfl, ha, q⟩
      obtain ⟨j, hj, q⟩ := (RowL_opt A n v).mp q
      rcases ha with rfl | ha
      · exact ⟨j, by omega, q⟩
      · exact ⟨j + 1, by omega, u, v, rfl, ha, q⟩
    · rintro ⟨j, hj, q⟩
      cases j with
      | zero =>
        have : w = [] := q
        subst this
        exact ⟨[], [], rfl, .inl rfl, (RowL_opt A n []).mpr ⟨0, by omega, rfl⟩⟩
      | succ j =>
        obtain ⟨u, v, rfl, ha, q⟩ := q
        exact ⟨u, v, rfl, .inr ha, (RowL_opt A n v).mpr ⟨j, by omega, q⟩⟩
theorem Pw_add (A : Lg) : ∀ (n m : Nat) (w : List Nat), Pw A (n + m) w ↔ ∃ u v, w = u ++ v ∧ Pw A n u ∧ Pw A m v := fun n m w => by
  rw [← RowL_rep, ← List.replicate_append_replicate, RowL_app]
  simp only [RowL_rep]
theorem again_some {p : Pt} {lo h : Nat} (hl : lo ≤ h) (w : List Nat) : RowL (List.replicate lo p.L ++ List.replicate (h - lo) fun w => w = [] ∨ p.L w) w ↔ (Pt.again p lo (some h)).L w := by
  rw [RowL_app, Pt.L]
  constructor
  · rintro ⟨u, v, rfl, h1, h2⟩
    obtain ⟨j, hj, q⟩ := (RowL_opt p.L _ v).mp h2
    exact ⟨lo + j, by omega, fun x e => by cases e; omega, (Pw_add _ _ _ _).mpr ⟨u, v, rfl, (RowL_rep _ _ _).mp h1, q⟩⟩
  · rintro ⟨n, h1, h2, q⟩
    have h3 := h2 h rfl
    obtain ⟨j, rfl⟩ := Nat.exists_eq_add_of_le h1
    obtain ⟨u, v, rfl, a, b⟩ := (Pw_add _ _ _ _).mp q
    exact ⟨u, v, rfl, (RowL_rep _ _ _).mpr a, (RowL_opt p.L _ v).mpr ⟨j, by omega, b⟩⟩
theorem again_none {p : Pt} {lo : Nat} (w : List Nat) : RowL (List.replicate lo p.L ++ [fun w => ∃ n, Pw p.L n w]) w ↔ (Pt.again p lo none).L w := by
  rw [RowL_app, Pt.L]
  constructor
  · rintro ⟨u, v, rfl, h1, x, y, rfl, ⟨n, q⟩, hy⟩
    have : y = [] := hy
    subst this
    rw [List.append_nil]
    exact ⟨lo + n, by omega, (fun _ e => nomatch e), (Pw_add _ _ _ _).mpr ⟨u, x, rfl, (RowL_rep _ _ _).mp h1, q⟩⟩
  · rintro ⟨n, h1, _, q⟩
    obtain ⟨j, rfl⟩ := Nat.exists_eq_add_of_le h1
    obtain ⟨u, v, rfl, a, b⟩ := (Pw_add _ _ _ _).mp q
    exact ⟨u, v, rfl, (RowL_rep _ _ _).mpr a, v, [], by simp, ⟨j, b⟩, rfl⟩
/-! ### what a state means -/
inductive Vd
  | ends (t : Nat)
  | any (vs : List Vd)
  | all (vs : List Vd)
  | no (v : Vd)
mutual
def Vd.h : Vd → Nat → Bool
  | .ends t, s => (t &&& s) != 0
  | .any vs, s => Vd.hAny vs s
  | .all vs, s => Vd.hAll vs s
  | .no v, s => !Vd.h v s
def Vd.hAny : List Vd → Nat → Bool
  | [], _ => false
  | v :: vs, s => Vd.h v s || Vd.hAny vs s
def Vd.hAll : List Vd → Nat → Bool
  | [], _ => true
  | v :: vs, s => Vd.h v s && Vd.hAll vs s
end
/-- one step of a state: all that follows -/
def stepB (f : List Nat) (s : Nat) : Nat := (List.range f.length).foldl (fun a k => if s.testBit k then a ||| f.getD k 0 else a) 0
def stepF (f : List Nat) (r : Nat → Nat) (s c : Nat) : Nat := stepB f s &&& r c
def runF (f : List Nat) (r : Nat → Nat) (w : List Nat) : Nat := w.foldl (stepF f r) 1
theorem fold_bit (f : List Nat) (s m : Nat) : ∀ (ks : List Nat) (a : Nat), (ks.foldl (fun a k => if s.testBit k then a ||| f.getD k 0 else a) a).testBit m = true ↔ a.testBit m = true ∨ ∃ k ∈ ks, s.testBit k = true ∧ Ed f k m
  | [], a => by simp
  | k :: ks, a => by
    rw [List.foldl_cons, fold_bit f s m ks]
    by_cases h : s.testBit k = true
    · rw [if_pos h, or_bit]
      constructor
      · rintro ((q | q) | ⟨j, hj, q⟩)
        · exact .inl q
        · exact .inr ⟨k, List.mem_cons_self, h, q⟩
        · exact .inr ⟨j, List.mem_cons_of_mem _ hj, q⟩
      · rintro (q | ⟨j, hj, q⟩)
        · exact .inl (.inl q)
        · rcases List.mem_cons.mp hj with rfl | hj
          · exact .inl (.inr q.2)
          · exact .inr ⟨j, hj, q⟩
    · rw [if_neg h]
      constructor
      · rintro (q | ⟨j, hj, q⟩)
        · exact .inl q
        · exact .inr ⟨j, List.mem_cons_of_mem _ hj, q⟩
      · rintro (q | ⟨j, hj, q⟩)
        · exact .inl q
        · rcases List.mem_cons.mp hj with rfl | hj
          · exact absurd q.1 h
          · exact .inr ⟨j, hj, q⟩
theorem stepF_bit {f : List Nat} {r : Nat → Nat} {s c m : Nat} : (stepF f r s c).testBit m = true ↔ (r c).testBit m = true ∧ ∃ k, s.testBit k = true ∧ Ed f k m := by
  unfold stepF stepB
  rw [Nat.testBit_and, Bool.and_eq_true, fold_bit]
  constructor
  · rintro ⟨h | ⟨k, _, hs, he⟩, hr⟩
    · simp at h
    · exact ⟨hr, k, hs, he⟩
  · rintro ⟨hr, k, hs, he⟩
    refine ⟨.inr ⟨k, ?_, hs, he⟩, hr⟩
    rw [List.mem_range]
    by_cases hk : k < f.length
    · exact hk
    · unfold Ed at he
      rw [List.getD_eq_getElem?_getD, List.getElem?_eq_none (by omega)] at he
      simp at he
/-- from a state on, the places [a, b) come to l just by one of its places there -/
theorem run_q {f : List Nat} {r : Nat → Nat} {a b l : Nat} (hl : ∀ m, l.testBit m = true → a ≤ m ∧ m < b) (I : ∀ k m, 1 ≤ k → Ed f k m → ((a ≤ k ∧ k < b) ↔ (a ≤ m ∧ m < b))) (one : ∀ k m, Ed f k m → 1 ≤ m) :
    ∀ (w : List Nat) (s : Nat), (s.testBit 0 = false) → ((l &&& w.foldl (stepF f r) s ≠ 0) ↔ ∃ k, s.testBit k = true ∧ (a ≤ k ∧ k < b) ∧ Qa f r l w k)
  | [], s, _ => by
    constructor
    · intro h
      obtain ⟨m, hm⟩ := Nat.exists_testBit_of_ne_zero h
      rw [List.foldl_nil, Nat.testBit_and, Bool.and_eq_true] at hm
      exact ⟨m, hm.2, hl m hm.1, hm.1⟩
    · rintro ⟨k, hs, _, q⟩ e
      have : (l &&& ([] : List Nat).foldl (stepF f r) s).testBit k = true := by
        rw [List.foldl_nil, Nat.testBit_and, Bool.and_eq_true]; exact ⟨q, hs⟩
      rw [e] at this
      simp at this
  | c :: w, s, h0 => by
    have n0 : (stepF f r s c).testBit 0 = false := by
      cases e : (stepF f r s c).testBit 0 with
      | false => rfl
      | true =>
        obtain ⟨_, k, _, he⟩ := stepF_bit.mp e
        have := one k 0 he
        omega
    rw [List.foldl_cons, run_q hl I one w _ n0]
    constructor
    · rintro ⟨m, hm, hr, q⟩
      obtain ⟨hc, k, hs, he⟩ := stepF_bit.mp hm
      have k1 : 1 ≤ k := by
        cases k with
        | zero => rw [h0] at hs; cases hs
        | succ k => omega
      exact ⟨k, hs, (I k m k1 he).mpr hr, m, he, hc, q⟩
    · rintro ⟨k, hs, hk, m, he, hc, q⟩
      have k1 : 1 ≤ k := by
        cases k with
        | zero => rw [h0] at hs; cases hs
        | succ k => omega
      exact ⟨m, stepF_bit.mpr ⟨hc, k, hs, he⟩, (I k m k1 he).mp hk, q⟩
/-- a leaf: its places [a, b), closed, and what the first place leads to there -/
structure Leaf (f : List Nat) (r : Nat → Nat) (a b t : Nat) (A : Lg) : Prop where
  one : 1 ≤ a
  bl : b ≤ f.length
  iso : ∀ k m, 1 ≤ k → Ed f k m → ((a ≤ k ∧ k < b) ↔ (a ≤ m ∧ m < b))
  ex : ∃ e F L, t = (if e then L ||| 1 else L) ∧ POk f a b F L ∧ (∀ w, PL f r e F L w ↔ A w) ∧ ∀ m, a ≤ m → m < b → (Ed f 0 m ↔ F.testBit m = true)
theorem one_bit {m : Nat} : (1 : Nat).testBit m = true ↔ m = 0 := by
  have := pow2_bit (n := 0) (m := m)
  rwa [Nat.pow_zero] at this
theorem Leaf.run {f : List Nat} {r : Nat → Nat} {a b t : Nat} {A : Lg} (M : Mach f r) (h : Leaf f r a b t A) (w : List Nat) : (t &&& runF f r w ≠ 0) ↔ A w := by
  obtain ⟨e, F, L, rfl, p, q, s⟩ := h.ex
  have h1 := h.one
  rw [← q w]
  cases w with
  | nil =>
    show ((if e then L ||| 1 else L) &&& 1 ≠ 0) ↔ e = true
    have L0 : L.testBit 0 = false := by
      cases z : L.testBit 0 with
      | false => rfl
      | true => have := p.L 0 z; omega
    constructor
    · intro hn
      obtain ⟨m, hm⟩ := Nat.exists_testBit_of_ne_zero hn
      rw [Nat.testBit_and, Bool.and_eq_true, one_bit] at hm
      obtain ⟨hm, rfl⟩ := hm
      cases e
      · rw [if_neg (by decide), L0] at hm; cases hm
      · rfl
    · rintro rfl z
      have : ((if true = true then L ||| 1 else L) &&& 1).testBit 0 = true := by
        rw [if_pos rfl, Nat.testBit_and, Nat.testBit_or]; simp
      rw [z] at this
      simp at this
  | cons c w =>
    have n0 : (stepF f r 1 c).testBit 0 = false := by
      cases z : (stepF f r 1 c).testBit 0 with
      | false => rfl
      | true =>
        obtain ⟨_, k, _, he⟩ := stepF_bit.mp z
        have := (M.e k 0 he).1
        omega
    have run0 : ∀ (w : List Nat) (s : Nat), s.testBit 0 = false → (w.foldl (stepF f r) s).testBit 0 = false := by
      intro w
      induction w with
      | nil => intro s h; exact h
      | cons d w ih =>
        intro s h
        refine ih _ ?_
        cases z : (stepF f r s d).testBit 0 with
        | false => rfl
        | true =>
          obtain ⟨_, k, _, he⟩ := stepF_bit.mp z
          have := (M.e k 0 he).1
          omega
    have tl : ((if e then L ||| 1 else L) &&& w.foldl (stepF f r) (stepF f r 1 c)) = (L &&& w.foldl (stepF f r) (stepF f r 1 c)) := by
      cases e
      · rfl
      · rw [if_pos rfl]
        refine Nat.eq_of_testBit_eq fun i => ?_
        rw [Nat.testBit_and, Nat.testBit_and, Nat.testBit_or]
        cases i with
        | zero => rw [run0 w _ n0]; simp
        | succ i =>
          have : (1 : Nat).testBit (i + 1) = false := by
            cases z : (1 : Nat).testBit (i + 1) with
            | false => rfl
            | true => have := one_bit.mp z; omega
          rw [this]; simp
    show ((if e then L ||| 1 else L) &&& (c :: w).foldl (stepF f r) 1 ≠ 0) ↔ _
    rw [List.foldl_cons, tl, run_q p.L h.iso (fun k m x => (M.e k m x).1) w _ n0]
    constructor
    · rintro ⟨k, hk, hr, hq⟩
      obtain ⟨hc, j, hj, he⟩ := stepF_bit.mp hk
      rw [one_bit] at hj
      subst hj
      exact ⟨k, (s k hr.1 hr.2).mp he, hc, hq⟩
    · rintro ⟨m, hf, hc, hq⟩
      obtain ⟨m1, m2⟩ := p.F m hf
      exact ⟨m, stepF_bit.mpr ⟨hc, 0, one_bit.mpr rfl, (s m m1 m2).mpr hf⟩, ⟨m1, m2⟩, hq⟩
/-- a verdict, of places ahead of n -/
inductive VOk (f : List Nat) (r : Nat → Nat) (n : Nat) : Vd → Lg → Prop
  | ends {a b t : Nat} {A : Lg} : Leaf f r a b t A → b ≤ n → VOk f r n (.ends t) A
  | any0 : VOk f r n (.any []) fun _ => False
  | any {v : Vd} {vs : List Vd} {A B : Lg} : VOk f r n v A → VOk f r n (.any vs) B → VOk f r n (.any (v :: vs)) fun w => A w ∨ B w
  | all0 : VOk f r n (.all []) fun _ => True
  | all {v : Vd} {vs : List Vd} {A B : Lg} : VOk f r n v A → VOk f r n (.all vs) B → VOk f r n (.all (v :: vs)) fun w => A w ∧ B w
  | no {v : Vd} {A : Lg} : VOk f r n v A → VOk f r n (.no v) fun w => ¬ A w
theorem VOk.run {f : List Nat} {r : Nat → Nat} (M : Mach f r) {n : Nat} {v : Vd} {A : Lg} (h : VOk f r n v A) (w : List Nat) : v.h (runF f r w) = true ↔ A w := by
  induction h with
  | ends l _ => rw [Vd.h, bne_iff_ne]; exact l.run M w
  | any0 => rw [Vd.h, Vd.hAny]; simp
  | any _ _ ih1 ih2 =>
    rw [Vd.h] at ih2 ⊢
    rw [Vd.hAny, Bool.or_eq_true, ih1, ih2]
  | all0 => rw [Vd.h, Vd.hAll]; simp
  | all _ _ ih1 ih2 =>
    rw [Vd.h] at ih2 ⊢
    rw [Vd.hAll, Bool.and_eq_true, ih1, ih2]
  | no _ ih => rw [Vd.h, Bool.not_eq_true', ← Bool.not_eq_true, ih]
/-- the machine grows behind a verdict: only the first place gets more edges, to new places -/
structure GrowV (f f' : List Nat) (r r' : Nat → Nat) : Prop where
  len : f.length ≤ f'.length
  fe : ∀ k, 1 ≤ k → k < f.length → f'.getD k 0 = f.getD k 0
  f0 : ∀ m, m < f.length → (Ed f' 0 m ↔ Ed f 0 m)
  new : ∀ k m, f.length ≤ k → Ed f' k m → f.length ≤ m
  re : ∀ c m, m < f.length → (r' c).testBit m = (r c).testBit m
theorem GrowV.refl {f : List Nat} {r : Nat → Nat} : GrowV f f r r := ⟨Nat.le_refl _, fun _ _ _ => rfl, fun _ _ => Iff.rfl, fun k m h e => by
  unfold Ed at e
  rw [List.getD_eq_getElem?_getD, List.getElem?_eq_none h] at e
  simp at e, fun _ _ _ => rfl⟩
theorem GrowV.trans {f f' f'' : List Nat} {r r' r'' : Nat → Nat} (x : GrowV f f' r r') (y : GrowV f' f'' r' r'') : GrowV f f'' r r'' where
  len := Nat.le_trans x.len y.len
  fe := fun k h1 h2 => (y.fe k h1 (Nat.lt_of_lt_of_le h2 x.len)).trans (x.fe k h1 h2)
  f0 := fun m h => (y.f0 m (Nat.lt_of_lt_of_le h x.len)).trans (x.f0 m h)
  new := fun k m h e => by
    by_cases q : k < f'.length
    · by_cases k1 : 1 ≤ k
      · refine x.new k m h ?_
        unfold Ed at e ⊢
        rw [← y.fe k k1 q]; exact e
      · have : k = 0 := by omega
        subst this
        omega
    · exact Nat.le_trans x.len (y.new k m (by omega) e)
  re := fun c m h => (y.re c m (Nat.lt_of_lt_of_le h x.len)).trans (x.re c m h)
theorem Leaf.grow {f f' : List Nat} {r r' : Nat → Nat} {a b t : Nat} {A : Lg} (M : Mach f r) (g : GrowV f f' r r') (h : Leaf f r a b t A) : Leaf f' r' a b t A := by
  obtain ⟨e, F, L, ht, p, q, s⟩ := h.ex
  have h1 := h.one
  have h2 := h.bl
  have ag : Agr f f' r r' a b := ⟨fun k k1 k2 => g.fe k (by omega) (by omega), fun c m _ m2 => g.re c m (by omega)⟩
  refine ⟨h1, Nat.le_trans h2 g.len, fun k m k1 he => ?_, e, F, L, ht, p.agr ag, fun w => (p.pl ag w).trans (q w), fun m m1 m2 => (g.f0 m (by omega)).trans (s m m1 m2)⟩
  by_cases hk : k < f.length
  · have he' : Ed f k m := by unfold Ed at he ⊢; rw [← g.fe k k1 hk]; exact he
    exact h.iso k m k1 he'
  · have := g.new k m (by omega) he
    omega
theorem VOk.grow {f f' : List Nat} {r r' : Nat → Nat} (M : Mach f r) (g : GrowV f f' r r') {n n' : Nat} (hn : n ≤ n') {v : Vd} {A : Lg} (h : VOk f r n v A) : VOk f' r' n' v A := by
  induction h with
  | ends l hb => exact .ends (l.grow M g) (Nat.le_trans hb hn)
  | any0 => exact .any0
  | any _ _ ih1 ih2 => exact .any ih1 ih2
  | all0 => exact .all0
  | all _ _ ih1 ih2 => exact .all ih1 ih2
  | no _ ih => exact .no ih
/-- the first place is joined with a piece -/
def setF (f : List Nat) (F : Nat) : List Nat := f.set 0 (f.getD 0 0 ||| F)
theorem leaf_new {f f' : List Nat} {r r' : Nat → Nat} {e : Bool} {F L : Nat} {A : Lg} (M : Mach f r) (M' : Mach f' r') (g : Grow f f' r r') (p : POk f' f.length f'.length F L) (q : ∀ w, PL f' r' e F L w ↔ A w) :
    Mach (setF f' F) r' ∧ GrowV f (setF f' F) r r' ∧ Leaf (setF f' F) r' f.length f'.length (if e then L ||| 1 else L) A ∧ (setF f' F).length = f'.length := by
  have hlen : (setF f' F).length = f'.length := by simp [setF]
  have h1 := M.one
  have h1' := M'.one
  have g0 : (setF f' F).getD 0 0 = f'.getD 0 0 ||| F := by
    have hp : 0 < f'.length := h1'
    simp [setF, List.getD_eq_getElem?_getD, List.getElem?_set, hp]
  have gs : ∀ k, 1 ≤ k → (setF f' F).getD k 0 = f'.getD k 0 := fun k hk => by
    have : ¬ (0 = k) := by omega
    simp [setF, List.getD_eq_getElem?_getD, List.getElem?_set, this]
  have E0 : ∀ m, Ed (setF f' F) 0 m ↔ Ed f' 0 m ∨ F.testBit m = true := fun m => by
    unfold Ed; rw [g0, or_bit]
  have Es : ∀ k m, 1 ≤ k → (Ed (setF f' F) k m ↔ Ed f' k m) := fun k m hk => by
    unfold Ed; rw [gs k hk]
  have old : ∀ k m, k < f.length → Ed f' k m → m < f.length := fun k m hk he => by
    have : Ed f k m := by unfold Ed at he ⊢; rw [← g.fe k hk]; exact he
    exact (M.e k m this).2
  refine ⟨⟨fun c m h => by rw [hlen]; exact M'.r c m h, fun k m h => ?_, by rw [hlen]; exact h1'⟩, ⟨by rw [hlen]; exact g.len, fun k k1 k2 => ?_, fun m hm => ?_, fun k m hk he => ?_, g.re⟩, ⟨h1, by rw [hlen]; exact Nat.le_refl _, fun k m k1 he => ?_, e, F, L, rfl, ?_⟩, hlen⟩
  · rw [hlen]
    by_cases k1 : 1 ≤ k
    · exact M'.e k m ((Es k m k1).mp h)
    · have : k = 0 := by omega
      subst this
      rcases (E0 m).mp h with h | h
      · exact M'.e 0 m h
      · have := p.F m h; omega
  · rw [gs k k1]; exact g.fe k k2
  · rw [E0]
    constructor
    · rintro (h | h)
      · unfold Ed at h ⊢; rw [← g.fe 0 (by omega)]; exact h
      · have := p.F m h; omega
    · intro h
      refine .inl ?_
      unfold Ed at h ⊢; rw [g.fe 0 (by omega)]; exact h
  · have k1 : 1 ≤ k := by omega
    have he := (Es k m k1).mp he
    by_cases q : k < f'.length
    · exact (p.E k m hk q he).1
    · unfold Ed at he
      rw [List.getD_eq_getElem?_getD, List.getElem?_eq_none (by omega)] at he
      simp at he
  · have he := (Es k m k1).mp he
    have hm := M'.e k m he
    by_cases q : k < f.length
    · have := old k m q he
      omega
    · have q2 : k < f'.length := by
        by_cases z : k < f'.length
        · exact z
        · unfold Ed at he
          rw [List.getD_eq_getElem?_getD, List.getElem?_eq_none (by omega)] at he
          simp at he
      have := p.E k m (by omega) q2 he
      omega
  · have ag : Agr f' (setF f' F) r' r' f.length f'.length := ⟨fun k k1 k2 => gs k (by omega), fun _ _ _ _ => rfl⟩
    refine ⟨p.agr ag, fun w => (p.pl ag w).trans (q w), fun m m1 m2 => ?_⟩
    rw [E0]
    constructor
    · rintro (h | h)
      · have := old 0 m (by omega) h; omega
      · exact h
    · exact .inr

end Cs
namespace Cs
open PySem L2
open PyProof.Rows (envOfC)
open PySem.F
/-! for i, c in enumerate(text) -/
def IteS (x : Str) : It := ⟨fun i _ => i < x.cps.size, fun i H v H' => ∃ T c, v = .ref T ∧ H T = none ∧ H' = upd H T (.tup [.int (i : Nat), .str ⟨#[c]⟩]) ∧ x.cps[i]? = some c, fun i _ => x.cps.size ≤ i⟩
theorem wpAny_pyNext_enumS_end {prog : Program} {w : World} {A : Around} {E : Value → Shared → Prop} {s : Shared} {e it : Addr} {x : Str} {t : Tok} {ty : String} {i : Nat} {old : Value} {Q : Option Value → Shared → Prop} (hh : A.handled = none)
    (he : IsEnum s.heap e it i old) (hit : s.heap.IsStrIter it ty x t i) (hty : ty = "str_ascii_iterator" ∨ ty = "str_iterator") (hx : x.cps[i]? = none)
    (hQ : ∀ h', Heap.ExtBut it s.heap h' → Q none { s with heap := h' }) : wpAny (model prog w) A (pyNext (.ref e)) Q E s := by
  have hT : s.TypeIs (.ref e) "enumerate" := ⟨_, he, rfl⟩
  unfold pyNext
  refine wpAny_bind (wpAny_attempt (wpAny_callSpecial?_slot (name := Str.ofString "__next__") hT F.slot_enumerate_next
    (wpAny_call_entry F.slot_enumerate_next hT F.entry_enumerate_next ?_ (F.args_enumerate_next_1 _))))
  show wpAny _ _ (field (.ref e) 2 >>= _) _ _ _
  refine wpAny_bind (wpAny_field he rfl (x := .ref it) rfl ?_)
  rcases hty with q | q
  · rw [q] at hit
    refine wpAny_bind (wpAny_nextOf_ascii_end hh hit hx fun h' x he' hx' => ?_)
    obtain ⟨o, ho, hc⟩ := hx'
    refine wpAny_bind (wpAny_isInstance (T := "StopIteration") (b := true) ⟨o, ho, hc⟩ isSubtype_stop ?_)
    exact wpAny_pure (hQ _ he')
  · rw [q] at hit
    refine wpAny_bind (wpAny_nextOf_wide_end hh hit hx fun h' x he' hx' => ?_)
    obtain ⟨o, ho, hc⟩ := hx'
    refine wpAny_bind (wpAny_isInstance (T := "StopIteration") (b := true) ⟨o, ho, hc⟩ isSubtype_stop ?_)
    exact wpAny_pure (hQ _ he')
theorem turn_enumS {P : Program} {w : World} {K : PySem.W.Frag} {elts : List Expr} {kk : Nat} {tpos : Pos} (e it : Addr) (x : Str) (t : Tok) (ty : String) (hty : ty = "str_ascii_iterator" ∨ ty = "str_iterator") :
    Turn P w K (.Tuple elts kk tpos) (IteS x) [e, it] e (fun i h => (∃ old, IsEnum h e it ((i : Nat) : Int) old) ∧ h.IsStrIter it ty x t i ∧ e ≠ it) where
  mem := by simp
  obj := fun i h st b hb => by
    obtain ⟨⟨old, he⟩, ⟨o, ho, hc, hd⟩, _⟩ := st
    have e' : b = e ∨ b = it := by simpa using hb
    rcases e' with z | z
    · rw [z]; exact ⟨_, he, fun v q => nomatch q⟩
    · rw [z]; exact ⟨o, ho, fun v q => by rw [hd] at q; cases q⟩
  keep := fun i h h' st k => let ⟨⟨old, he⟩, ⟨o, ho, r⟩, hne⟩ := st; ⟨⟨old, k e (by simp) _ he⟩, ⟨o, k it (by simp) o ho, r⟩, hne⟩
  item := by
    intro X hP hw hK hc i pins s σ H E I hf st hg
    subst hP hw hK
    obtain ⟨⟨old, he⟩, hit, hne⟩ := st
    have D : Draws X.prog X.w X.A.in1 it [it] x.cps.size (fun i v => ∃ c u, x.cps[i]? = some c ∧ v = .str ⟨#[c]⟩ u) (fun i h => h.IsStrIter it ty x t i) := by
      rcases hty with q | q
      · rw [q]; exact Draws.strAscii (show X.A.in1.handled = none from I.ok.hd hc) it x t
      · rw [q]; exact Draws.strWide (show X.A.in1.handled = none from I.ok.hd hc) it x t
    have hel : e < s.heap.objs.size := Heap.lt_size he
    have hil : it < s.heap.objs.size := by obtain ⟨_, q, _⟩ := hit; exact Heap.lt_size q
    refine wpAny_pyNext_enum_itemD D he hit hg hne (by simpa using hne) fun u h' tk hP ho hit' hT hsz hk => ?_
    obtain ⟨c, t0, hcx, rfl⟩ := hP
    refine ⟨_, rfl, wpAny_letOwnedTupleGo_enum (s := { s with heap := h', toks := tk + 1 }) ho fun h'' he' sb => ?_⟩
    have hT2 : h''.get? s.heap.objs.size = some { cls := .type "tuple", data := .seq #[.int i tk, .str ⟨#[c]⟩ t0] } := (sb.2 _ (Nat.ne_of_gt hel)).trans hT
    have new : ObjOk X.prog X.w (upd H s.heap.objs.size (.tup [.int (i : Nat), .str ⟨#[c]⟩])) h'' s.heap.objs.size (.tup [.int (i : Nat), .str ⟨#[c]⟩]) :=
      ⟨by show 2 ≤ sizeLine; decide, [.int i tk, .str ⟨#[c]⟩ t0], .cons ⟨_, rfl⟩ (.cons ⟨_, rfl⟩ .nil), ⟨_, hT2, rfl, _, rfl⟩⟩
    have I1 : Inv X pins σ (upd H s.heap.objs.size (.tup [.int (i : Nat), .str ⟨#[c]⟩])) { s with heap := h'', toks := tk + 1 } :=
      I.turnedNew (ch := [e, it]) (fun b ob hb q => (sb.2 b (fun z => hb (by simp [z]))).trans (hk b ob (fun z => hb (by simp [z])) (fun z => hb (by simp [z])) q)) hf (Nat.le_refl _) new
    refine ⟨.ref s.heap.objs.size, _, I1, rfl, ⟨_, c, rfl, I.hok.fresh (Nat.le_refl _), rfl, hcx⟩, ⟨⟨.str ⟨#[c]⟩ t0, ?_⟩, ?_, hne⟩, fun b hb => ?_⟩
    · have e1 : ((i + 1 : Nat) : Int) = (i : Int) + 1 := by omega
      rw [e1]; exact he'
    · obtain ⟨o, q, r⟩ := hit'
      exact ⟨o, (sb.2 it (Ne.symm hne)).trans q, r⟩
    · have hb' : b < s.heap.objs.size := by
        have e' : b = e ∨ b = it := by simpa using hb
        rcases e' with z | z
        · rw [z]; exact hel
        · rw [z]; exact hil
      rw [upd_ne (Nat.ne_of_lt hb')]
      exact (hf b hb).1
  done := by
    intro X hP hw hK hc i pins s σ H E I hf st hg
    subst hP hw hK
    obtain ⟨⟨old, he⟩, hit, hne⟩ := st
    obtain ⟨f0, f1, f2, f3, f4, f5⟩ := hf it (by simp)
    have hx : x.cps[i]? = none := Array.getElem?_eq_none hg
    exact wpAny_pyNext_enumS_end (I.ok.hd hc) he hit hty hx fun h' eb => ⟨rfl, I.turned (t' := s.toks) (fun b o hb q => eb b o hb q) f0 f1 f3 f4 f5⟩
  self := fun A i s Q E st h => let ⟨⟨_, he⟩, _⟩ := st; wpAny_pyIter_enum he h
def iEnumS (ta : TA) : TI := fun σ H R => ta σ H fun vs H1 => ∃ x, vs = [.str x] ∧ R (IteS x) H1
theorem pi_enumS {X : Cx} {e : Expr} {ta : TA} {p pos tpos : Pos} {elts : List Expr} {kk : Nat} (hg : Gl X "enumerate") (hm : X.mg "enumerate" = none) (ha : PA X [e] ta) (hs : starEach [e] X.env = [(false, eval e X.env)] := by rfl) :
    PI X (.Tuple elts kk tpos) (.Call (.Name "enumerate" p) [e] [] pos) (iEnumS ta) := by
  refine ⟨fun pins s σ H R I h => ?_⟩
  refine PyProof.Rows.Call_ (ld_blt I hg hm (show bootBuiltins "enumerate" = some (.type "enumerate") by decide +kernel) (PyProof.Rows.callWith_type1 (thn (ha.run pos pins s σ H _ I h) fun us s1 ⟨vs, H1, I1, r1, q1⟩ => ?_) hs rfl))
  obtain ⟨x, ex, q⟩ := q1
  subst ex
  cases r1 with
  | cons r rr =>
    cases rr
    obtain ⟨t, rfl⟩ := r
    refine call_enumerate_str fun h' he hit hsz hk => wpAny_pyIter_enum he ?_
    have I2 : Inv X pins σ H1 { s1 with heap := h' } := I1.kept (t' := s1.toks) hk
    have hty : strIterType x = "str_ascii_iterator" ∨ strIterType x = "str_iterator" := by unfold strIterType; split <;> simp
    refine ⟨s1.heap.objs.size + 1, [s1.heap.objs.size + 1, s1.heap.objs.size], _, _, H1, rfl, I2, turn_enumS (s1.heap.objs.size + 1) s1.heap.objs.size x t _ hty, ⟨⟨.none, he⟩, hit, Nat.succ_ne_self _⟩, fun b hb => ?_, q⟩
    have e' : b = s1.heap.objs.size + 1 ∨ b = s1.heap.objs.size := by simpa using hb
    have hle : s1.heap.objs.size ≤ b := by
      rcases e' with z | z
      · rw [z]; exact Nat.le_add_right _ _
      · rw [z]; exact Nat.le_refl _
    exact I1.fpOk hle (I1.hok.fresh hle)

end Cs
namespace Cs
open PySem L2
open PyProof.Rows (envOfC)
/-! objects with fields and methods: rules with K given -/
theorem hu1 {u : Nat} (h : u + 64 < cLine) : u + 1 < cLine := by omega
section
variable {X : Cx} {K : PySem.W.Frag}
theorem pe_fldK {e : Expr} {ta : TE} {f : Str} {pos : Pos} (h : X.K = K) (he : PE X e ta) (hb : attributeBase e f X.env (eval e X.env) = eval e X.env) : PE X (.Attribute e f pos) (tFld K ta f) := by subst h; exact pe_fld he hb
theorem ps_fldK {o value : Expr} {f : Str} {ta tv : TE} {pos pos' : Pos} (h : X.K = K) (ha : PE X o ta) (hv : PE X value tv) (hs : swapsWith value (some (.Attribute o f pos')) pos.line X.env = pure false) : PS X (.Assign [.Attribute o f pos'] value pos) (sFld K ta tv f) := by subst h; exact ps_fld ha hv hs
theorem pget_listK (h : X.K = K) : PGet X (rIxL K) := by
  subst h
  intro pins s σ H x y v u Q I rx ry h
  obtain ⟨p, xs, i, z, rfl, rfl, hq, he, q⟩ := h
  cases rx
  obtain ⟨t, rfl⟩ := ry
  obtain ⟨its, r, pl, hz⟩ := I.list hq
  obtain ⟨j, h1, h2, h3, h4, h5⟩ := atI_get he
  obtain ⟨w, ew, rw'⟩ := r.get h2
  have hl := r.length
  have hn := line63
  have fin : EP X pins σ Q w s := ⟨z, H, I, rw', q⟩
  by_cases h0 : 0 ≤ i
  · have hj : i.toNat = j := by
      rw [seqIndex_of h0 h5] at h1
      exact Option.some.inj h1
    exact wpAny_getItem_list pl.isList h0 (by omega) (by rw [hj]; simpa using ew) fin
  · have hj : (i + (its.toArray.size : Int)).toNat = j := by
      rw [seqIndex_neg (by omega) h4] at h1
      rw [List.size_toArray, ← hl]
      exact Option.some.inj h1
    exact wpAny_getItem_list_neg pl.isList (by omega) (by rw [List.size_toArray] <;> omega) (by omega) (by rw [hj]; simpa using ew) fin
theorem ip_or : PIp X .BitOr (rI0 fun i j => .int (Builtin.bitOr i j)) := fun pins s σ H x y v u Q I r1 r2 h => iop_or pins s σ H x y v u Q I r1 r2 h
/-- a method, by its promise -/
structure Mtd (P : Program) (w : World) (K : PySem.W.Frag) (mg : Str → Option Value) (base : Heap) (k : Nat) (C : Addr) (m : Str) (ps : List Str) (sp : Sp) : Prop where
  ex : ∃ f fd, Meth K C m f ∧ Binds K fd ps [] ∧ FnOk P w K mg base CX0 k f fd ps sp
theorem Mtd.mono {P : Program} {w : World} {mg : Str → Option Value} {base : Heap} {j k : Nat} {C : Addr} {m : Str} {ps : List Str} {sp : Sp} (M : Mtd P w K mg base j C m ps sp) (h : j ≤ k) : Mtd P w K mg base k C m ps sp := by
  obtain ⟨f, fd, a, b, c⟩ := M.ex
  exact ⟨f, fd, a, b, c.mono h⟩
theorem pe_md {C : Addr} {k : Nat} {m : Str} {ps : List Str} {sp : Sp} {o e : Expr} {es : List Expr} {to : TE} {t : TA} {apos pos : Pos} {pl : Sem Bool} (c : Cls X.K C) (M : Mtd X.prog X.w X.K X.mg X.base k C m ps sp) (hr : Room k X.A) (ho : PE X o to) (ha : PA X (e :: es) t)
    (hst : starEach (e :: es) X.env = (false, eval e X.env) :: starEach es X.env := by rfl) (hpl : (backTo pos (starEach es X.env)).any (·.1) = false := by rfl)
    (ht : eval (.Call (.Attribute o m apos) (e :: es) [] pos) X.env = (do
      let ov ← eval o X.env
      standAt apos.atName
      let (f, first) ← holding [ov] (getMethod ov m pl)
      callWith pos f first (backTo pos (starEach (e :: es) X.env)) (backToKw pos (keywordEach [] X.env))) := by rfl) : PE X (.Call (.Attribute o m apos) (e :: es) [] pos) (tMeth C m sp [] E0 to t) := by
  obtain ⟨f, fd, a, b, F⟩ := M.ex
  exact pe_meth ho c a F hr b .nil pass0 ha hst hpl ht
/-- C(..), C an own class with an __init__ -/
structure Mkr (P : Program) (w : World) (K : PySem.W.Frag) (mg : Str → Option Value) (base : Heap) (k : Nat) (x : Str) (C : Addr) (ps : List Str) (sp : Sp) : Prop where
  ex : ∃ f fd, Mk K C f ∧ Binds K fd ps [] ∧ FnOk P w K mg base CX0 k f fd ps sp ∧ mg x = some (.ref C)
theorem pe_mk {C : Addr} {k : Nat} {x : Str} {ps : List Str} {sp : Sp} {e : Expr} {es : List Expr} {t : TA} {p pos : Pos} (M : Mkr X.prog X.w X.K X.mg X.base k x C ps sp) (hr : Room (k + 1) X.A) (ha : PA X (e :: es) t) (hg : Gl X x := by rfl)
    (hdb : (x == ("__debug__" : Str)) = false := by decide) (he : starEach (e :: es) X.env = (false, eval e X.env) :: starEach es X.env := by rfl) (hpl : (backTo pos (starEach es X.env)).any (·.1) = false := by rfl) :
    PE X (.Call (.Name x p) (e :: es) [] pos) (tMake C sp [] E0 t) := by
  obtain ⟨f, fd, a, b, F, m⟩ := M.ex
  exact pe_make a F hr hg m b .nil pass0 ha hdb he hpl
end
section
variable {σ : St} {H : Hp} {D : Ends} {Q : VK} {ta tb tv : TE} {tas : TA} {K : PySem.W.Frag} {f m : Str} {C : Addr} {sp : Sp} {i j l : Nat}
theorem rd_fld (h : ta σ H fun x H1 => ∃ a C dx fs v, x = .ref a ∧ H1 a = some (.ins C dx fs) ∧ Cls K C ∧ NoAttr K C f ∧ fs.lookup f = some v ∧ Q v H1) : tFld K ta f σ H Q := h
theorem rd_sfld (h : tv σ H fun y H1 => ta σ H1 fun x H2 => ∃ a C dx fs, x = .ref a ∧ H2 a = some (.ins C dx fs) ∧ Cls K C ∧ NoAttr K C f ∧ fs.length < 1000 ∧ D.nx σ (upd H2 a (.ins C dx (putF f y fs)))) : sFld K ta tv f D σ H := h
theorem rd_meth {E : XK} (h : ta σ H fun x H1 => ∃ a dx fs, x = .ref a ∧ H1 a = some (.ins C dx fs) ∧ fs.lookup m = none ∧ tas σ H1 fun vs H2 => sp (x :: (vs ++ [])) H2 Q E) : tMeth C m sp [] E ta tas σ H Q := h
theorem rd_make {E : XK} (h : tas σ H fun vs H1 => ∀ x dx, H1 x = none → H1 dx = none → dx ≠ x → sp (.ref x :: (vs ++ [])) (upd (upd H1 dx (.own x)) x (.ins C dx [])) (fun v H2 => v = .non ∧ Q (.ref x) H2) E) : tMake C sp [] E tas σ H Q := h
theorem rd_par3 (h : tas σ H fun vs H1 => ∃ v w u, vs = [v, w, u] ∧ D.nx (((σ.set i (some v)).set j (some w)).set l (some u)) H1) : tPar3 i j l tas D σ H := h
theorem rd_par3j {a b c : V} {R : V → V → V → Prop} (q : R a b c) : ∃ v w u, ([a, b, c] : List V) = [v, w, u] ∧ R v w u := ⟨a, b, c, rfl, q⟩
theorem rd_augS {to ti te : TE} {tget : V → V → Hp → VK → Prop} {tip : TIp} {tset : TSet} (h : to σ H fun o H1 => ti σ H1 fun i H2 => tget o i H2 fun x H3 => te σ H3 fun y H4 => tip x y H4 fun z H5 => tset o i z H5 fun H6 => D.nx σ H6) : tAugS to ti te tget tip tset D σ H := h
theorem rd_daug {td ty : TE} {rd : V → V → Hp → VK → Prop} (h : td σ H fun x H1 => ty σ H1 fun y H2 => ∃ a v, x = .ref a ∧ DGet H2 a y (some v) ∧ tv σ H2 fun y2 H3 => rd v y2 H3 fun z H4 => ∃ H5, DPut H4 a y z H5 ∧ D.nx σ H5) : sDAug td ty tv rd D σ H := h
theorem rd_dget {td ty : TE} (h : td σ H fun x H1 => ty σ H1 fun y H2 => ∃ a v, x = .ref a ∧ DGet H2 a y (some v) ∧ Q v H2) : tDGet td ty σ H Q := h
theorem rd_dc {wi : TI} {g : TG} {tt : TT} {tk tv : TE} {vs : List Nat} (h : wi σ H fun J H1 => ∀ D, H1 D = none → ∃ W : Nat → Nat → Hp → Prop, (∃ m, W 0 m (upd H1 D (.dK []))) ∧ ∀ i m H, W i m H →
  (J.stop i H ∧ Q (.ref D) H) ∨ (J.go i H ∧ ∃ Nx : Hp → Prop, (∀ H', Nx H' → ∃ m', m' < m ∧ W (i + 1) m' H') ∧ ∀ x H', J.yld i H x H' → g x (wipe σ vs) H' fun σ2 H2 => wipe σ2 vs = wipe σ vs ∧ tt σ2 H2 fun b H3 =>
    if b = true then tk σ2 H3 fun y H4 => tv σ2 H4 fun z H5 => ∃ kvs k, y = kV k ∧ H5 D = some (.dK kvs) ∧ kvs.length < sizeLine ∧ Nx (upd H5 D (.dK (putK kvs k z))) else Nx H3)) : tDc wi g tt tk tv vs σ H Q := h
theorem rd_enumS {R : It → Hp → Prop} (h : tas σ H fun vs H1 => ∃ x, vs = [.str x] ∧ R (IteS x) H1) : iEnumS tas σ H R := h
theorem rd_enum {R : It → Hp → Prop} (h : tas σ H fun vs H1 => ∃ a xs, vs = [.ref a] ∧ SqL K H1 a xs ∧ R (Ite K a) H1) : iEnum K tas σ H R := h
end
/-! ### numbers as places -/
abbrev vn (n : Nat) : V := .int (n : Int)
theorem bitNot_n (n : Nat) : Builtin.bitNot (n : Int) = -(n : Int) - 1 := by unfold Builtin.bitNot; omega
theorem bor_n (a b : Nat) : Builtin.bitOr (a : Int) (b : Int) = ((a ||| b : Nat) : Int) := by
  unfold Builtin.bitOr Builtin.bitAnd
  have h1 : decide (0 ≤ Builtin.bitNot (a : Int)) = false := by rw [bitNot_n]; simp; omega
  have h2 : decide (0 ≤ Builtin.bitNot (b : Int)) = false := by rw [bitNot_n]; simp; omega
  rw [h1, h2]
  have e : ∀ n : Nat, (Builtin.bitNot (Builtin.bitNot (n : Int))).toNat = n := fun n => by rw [bitNot_n]; unfold Builtin.bitNot; omega
  have e2 : ∀ n : Nat, Builtin.bitNot (Builtin.bitNot (n : Int)) = (n : Int) := fun n => by rw [bitNot_n]; unfold Builtin.bitNot; omega
  show Builtin.bitNot (Builtin.bitNot ((((Builtin.bitNot (Builtin.bitNot (a : Int))).toNat ||| (Builtin.bitNot (Builtin.bitNot (b : Int))).toNat : Nat)) : Int)) = _
  rw [e, e, e2]
theorem band_n (a b : Nat) : Builtin.bitAnd (a : Int) (b : Int) = ((a &&& b : Nat) : Int) := by
  unfold Builtin.bitAnd
  have h1 : decide (0 ≤ (a : Int)) = true := by simp
  have h2 : decide (0 ≤ (b : Int)) = true := by simp
  rw [h1, h2]
  show (((a : Int).toNat &&& (b : Int).toNat : Nat) : Int) = _
  simp
theorem shr_n (a k : Nat) : (a : Int) / 2 ^ ((k : Int)).toNat = ((a >>> k : Nat) : Int) := by
  rw [Nat.shiftRight_eq_div_pow]
  simp
theorem bit_n (a k : Nat) : Builtin.bitAnd ((a : Int) / 2 ^ ((k : Int)).toNat) 1 = if a.testBit k then 1 else 0 := by
  rw [shr_n]
  have := band_n (a >>> k) 1
  rw [show ((1 : Nat) : Int) = 1 from rfl] at this
  rw [this, Nat.testBit_eq_decide_div_mod_eq, Nat.and_one_is_mod, Nat.shiftRight_eq_div_pow]
  by_cases h : a / 2 ^ k % 2 = 1
  · simp [h]
  · have : a / 2 ^ k % 2 = 0 := by omega
    simp [this]
theorem shl_n (k : Nat) : (1 : Int) * 2 ^ ((k : Int)).toNat = ((2 ^ k : Nat) : Int) := by simp

end Cs
local macro_rules | `(tactic| walk_at "go") => `(tactic| repeat (first
  | with_reducible refine Cs.rd_seq ?_ | with_reducible refine Cs.rd_asg ?_ | with_reducible refine Cs.rd_gname ?_ | with_reducible refine Cs.rd_var rfl ?_ | with_reducible refine Cs.rd_c ?_ | with_reducible refine Cs.rd_op ?_
  | with_reducible refine Cs.rd_i0 ?_ | with_reducible refine Cs.rd_cons ?_ | with_reducible refine Cs.rd_nil ?_ | with_reducible refine Cs.rd_call ?_ | with_reducible refine Cs.rd_cb ?_ | with_reducible refine Cs.rd_ret ?_ | with_reducible refine Cs.rd_ifs ?_
  | with_reducible refine Cs.rd_test ?_ | with_reducible refine Cs.rd_tB ?_ | with_reducible refine Cs.rd_bl ?_ | with_reducible refine Cs.rd_eq rfl ?_ | with_reducible refine Cs.rd_ne rfl ?_ | with_reducible refine Cs.rd_tup ?_ | with_reducible refine Cs.rd_lst ?_
  | with_reducible refine Cs.rd_bm0 ?_ | with_reducible refine Cs.rd_bm ?_ | with_reducible refine Cs.rd_gsub ?_ | with_reducible refine Cs.rd_and ?_ | with_reducible refine Cs.rd_or ?_ | with_reducible refine Cs.rd_not ?_ | with_reducible refine Cs.rd_andV ?_
  | with_reducible refine Cs.rd_orV ?_ | with_reducible refine Cs.rd_notV ?_ | with_reducible refine Cs.rd_ife ?_ | with_reducible refine Cs.rd_drop ?_ | with_reducible refine Cs.rd_next ?_ | with_reducible refine Cs.rd_un ?_ | with_reducible refine L2.iteT ?_ | with_reducible refine L2.iteF ?_
  | with_reducible refine Cs.rd_m1 ?_ | with_reducible refine Cs.rd_gcons ?_ | with_reducible refine Cs.rd_gnil ?_ | with_reducible refine Cs.rd_truth ?_ | with_reducible refine Cs.rd_yes ?_ | with_reducible refine Cs.rd_sl ?_ | with_reducible refine Cs.rd_nopart ?_ | with_reducible refine Cs.rd_part ?_ | with_reducible refine Cs.rd_int ?_ | with_reducible refine Cs.rd_strx ?_
  | with_reducible refine Cs.rd_rng1 ?_ | with_reducible refine Cs.rd_ilist ?_ | with_reducible refine Cs.rd_itup ?_ | with_reducible refine Cs.rd_istr ?_ | with_reducible refine Cs.rd_strj ?_ | with_reducible refine Cs.rd_lc ?_ | with_reducible refine Cs.rd_for ?_
  | with_reducible refine Cs.rd_chain ?_
  | with_reducible refine Cs.rd_par ?_ | with_reducible refine Cs.rd_parj ?_ | with_reducible refine Cs.rd_aug rfl ?_ | with_reducible refine Cs.rd_ipi ?_
  | with_reducible refine Cs.rd_fld ?_ | with_reducible refine Cs.rd_sfld ?_ | with_reducible refine Cs.rd_meth ?_ | with_reducible refine Cs.rd_make ?_ | with_reducible refine Cs.rd_par3 ?_ | with_reducible refine Cs.rd_par3j ?_ | with_reducible refine Cs.rd_augS ?_ | with_reducible refine Cs.rd_daug ?_ | with_reducible refine Cs.rd_dget ?_ | with_reducible refine Cs.rd_dc ?_ | with_reducible refine Cs.rd_enumS ?_ | with_reducible refine Cs.rd_enum ?_))
namespace Cs
open PySem L2
open PyProof.Rows (envOfC)
/-! walks over texts, and with their places -/
theorem for_str {x : List Nat} {g : TG} {tb : L2.TS} {D : Ends} {σ : St} {H : Hp} (Pv : Nat → St → Hp → Prop) (h0 : Pv 0 σ H)
    (hs : ∀ i c σ H, x[i]? = some c → Pv i σ H → g (.str (S [c])) σ H fun σ2 H2 => tb { D with nx := Pv (i + 1), ct := Pv (i + 1), bk := D.nx } σ2 H2) (hd : ∀ σ H, Pv x.length σ H → D.nx σ H) :
    ∃ W : Nat → Nat → St → Hp → Prop, (∃ m, W 0 m σ H) ∧ ∀ i m σ H, W i m σ H →
      ((Its (S x)).stop i H ∧ D.nx σ H) ∨ ((Its (S x)).go i H ∧ ∃ N : St → Hp → Prop, (∀ σ' H', N σ' H' → ∃ m', m' < m ∧ W (i + 1) m' σ' H') ∧ ∀ y H', (Its (S x)).yld i H y H' → g y σ H' fun σ2 H2 => tb { D with nx := N, ct := N, bk := D.nx } σ2 H2) := by
  refine ⟨fun i m σ H => m = x.length - i ∧ i ≤ x.length ∧ Pv i σ H, ⟨x.length, by simp, Nat.zero_le _, h0⟩, ?_⟩
  rintro i m σ H ⟨rfl, hi, p⟩
  have sz : (S x).cps.size = x.length := by simp [S]
  by_cases hlt : i < x.length
  · refine .inr ⟨show i < (S x).cps.size by omega, Pv (i + 1), fun σ' H' p' => ⟨x.length - (i + 1), by omega, rfl, hlt, p'⟩, fun y H' hy => ?_⟩
    obtain ⟨e, c, hc, y⟩ := hy
    subst e y
    exact hs i c _ _ (by rw [← Array.getElem?_toList] at hc; exact hc) p
  · have e : i = x.length := by omega
    exact .inl ⟨show (S x).cps.size ≤ i by omega, hd _ _ (e ▸ p)⟩
theorem dc_str {x : List Nat} {g : TG} {tt : TT} {tk tv : TE} {vs : List Nat} {σ : St} {H1 : Hp} {D : Addr} {Qd : Hp → Prop} (Pv : Nat → Hp → Prop) (h0 : Pv 0 (upd H1 D (.dK [])))
    (hs : ∀ i c H, x[i]? = some c → Pv i H → g (.str (S [c])) (wipe σ vs) H fun σ2 H2 => wipe σ2 vs = wipe σ vs ∧ tt σ2 H2 fun b H3 =>
      if b = true then tk σ2 H3 fun y H4 => tv σ2 H4 fun z H5 => ∃ kvs k, y = kV k ∧ H5 D = some (.dK kvs) ∧ kvs.length < sizeLine ∧ Pv (i + 1) (upd H5 D (.dK (putK kvs k z))) else Pv (i + 1) H3) (hd : ∀ H, Pv x.length H → Qd H) :
    ∃ W : Nat → Nat → Hp → Prop, (∃ m, W 0 m (upd H1 D (.dK []))) ∧ ∀ i m H, W i m H →
      ((Its (S x)).stop i H ∧ Qd H) ∨ ((Its (S x)).go i H ∧ ∃ Nx : Hp → Prop, (∀ H', Nx H' → ∃ m', m' < m ∧ W (i + 1) m' H') ∧ ∀ y H', (Its (S x)).yld i H y H' → g y (wipe σ vs) H' fun σ2 H2 => wipe σ2 vs = wipe σ vs ∧ tt σ2 H2 fun b H3 =>
        if b = true then tk σ2 H3 fun y H4 => tv σ2 H4 fun z H5 => ∃ kvs k, y = kV k ∧ H5 D = some (.dK kvs) ∧ kvs.length < sizeLine ∧ Nx (upd H5 D (.dK (putK kvs k z))) else Nx H3) := by
  refine ⟨fun i m H => m = x.length - i ∧ i ≤ x.length ∧ Pv i H, ⟨x.length, by simp, Nat.zero_le _, h0⟩, ?_⟩
  rintro i m H ⟨rfl, hi, p⟩
  have sz : (S x).cps.size = x.length := by simp [S]
  by_cases hlt : i < x.length
  · refine .inr ⟨show i < (S x).cps.size by omega, Pv (i + 1), fun H' p' => ⟨x.length - (i + 1), by omega, rfl, hlt, p'⟩, fun y H' hy => ?_⟩
    obtain ⟨e, c, hc, y⟩ := hy
    subst e y
    exact hs i c _ (by rw [← Array.getElem?_toList] at hc; exact hc) p
  · have e : i = x.length := by omega
    exact .inl ⟨show (S x).cps.size ≤ i by omega, hd _ (e ▸ p)⟩
theorem for_enumS {x : List Nat} {g : TG} {tb : L2.TS} {D : Ends} {σ : St} {H : Hp} (Pv : Nat → St → Hp → Prop) (h0 : Pv 0 σ H)
    (hs : ∀ i c σ H T, x[i]? = some c → Pv i σ H → H T = none → g (.ref T) σ (upd H T (.tup [.int (i : Nat), .str (S [c])])) fun σ2 H2 => tb { D with nx := Pv (i + 1), ct := Pv (i + 1), bk := D.nx } σ2 H2) (hd : ∀ σ H, Pv x.length σ H → D.nx σ H) :
    ∃ W : Nat → Nat → St → Hp → Prop, (∃ m, W 0 m σ H) ∧ ∀ i m σ H, W i m σ H →
      ((IteS (S x)).stop i H ∧ D.nx σ H) ∨ ((IteS (S x)).go i H ∧ ∃ N : St → Hp → Prop, (∀ σ' H', N σ' H' → ∃ m', m' < m ∧ W (i + 1) m' σ' H') ∧ ∀ y H', (IteS (S x)).yld i H y H' → g y σ H' fun σ2 H2 => tb { D with nx := N, ct := N, bk := D.nx } σ2 H2) := by
  refine ⟨fun i m σ H => m = x.length - i ∧ i ≤ x.length ∧ Pv i σ H, ⟨x.length, by simp, Nat.zero_le _, h0⟩, ?_⟩
  rintro i m σ H ⟨rfl, hi, p⟩
  have sz : (S x).cps.size = x.length := by simp [S]
  by_cases hlt : i < x.length
  · refine .inr ⟨show i < (S x).cps.size by omega, Pv (i + 1), fun σ' H' p' => ⟨x.length - (i + 1), by omega, rfl, hlt, p'⟩, fun y H' hy => ?_⟩
    obtain ⟨T, c, e1, hT, e2, hc⟩ := hy
    subst e1 e2
    exact hs i c _ _ T (by rw [← Array.getElem?_toList] at hc; exact hc) p hT
  · have e : i = x.length := by omega
    exact .inl ⟨show (S x).cps.size ≤ i by omega, hd _ _ (e ▸ p)⟩
theorem for_enum {K : PySem.W.Frag} {a : Addr} {xs : List V} {g : TG} {tb : L2.TS} {D : Ends} {σ : St} {H : Hp} (Pv : Nat → St → Hp → Prop) (h0 : Pv 0 σ H) (hl : ∀ i σ H, i ≤ xs.length → Pv i σ H → SqL K H a xs)
    (hs : ∀ i c σ H T, xs[i]? = some c → Pv i σ H → H T = none → g (.ref T) σ (upd H T (.tup [.int (i : Nat), c])) fun σ2 H2 => tb { D with nx := Pv (i + 1), ct := Pv (i + 1), bk := D.nx } σ2 H2) (hd : ∀ σ H, Pv xs.length σ H → D.nx σ H) :
    ∃ W : Nat → Nat → St → Hp → Prop, (∃ m, W 0 m σ H) ∧ ∀ i m σ H, W i m σ H →
      ((Ite K a).stop i H ∧ D.nx σ H) ∨ ((Ite K a).go i H ∧ ∃ N : St → Hp → Prop, (∀ σ' H', N σ' H' → ∃ m', m' < m ∧ W (i + 1) m' σ' H') ∧ ∀ y H', (Ite K a).yld i H y H' → g y σ H' fun σ2 H2 => tb { D with nx := N, ct := N, bk := D.nx } σ2 H2) := by
  refine ⟨fun i m σ H => m = xs.length - i ∧ i ≤ xs.length ∧ Pv i σ H, ⟨xs.length, by simp, Nat.zero_le _, h0⟩, ?_⟩
  rintro i m σ H ⟨rfl, hi, p⟩
  have hq := hl i σ H hi p
  by_cases hlt : i < xs.length
  · refine .inr ⟨⟨xs, xs[i], hq, List.getElem?_eq_getElem hlt⟩, Pv (i + 1), fun σ' H' p' => ⟨xs.length - (i + 1), by omega, rfl, hlt, p'⟩, fun y H' hy => ?_⟩
    obtain ⟨T, c, e1, hT, e2, hc⟩ := hy
    subst e1 e2
    exact hs i c _ _ T (hc xs hq) p hT
  · have e : i = xs.length := by omega
    exact .inl ⟨⟨xs, hq, by omega⟩, hd _ _ (e ▸ p)⟩

end Cs
namespace Cs
open PySem L2
open PyProof.Rows (envOfC)
/-! the machine as it stands in the heap -/
structure AtM (K : PySem.W.Frag) (C : Addr) (m q : Str) (st : Stmt) (ps : List Str) : Prop where
  ex : ∃ f fd, Fun K m q st f fd ∧ Meth K C m f ∧ Binds K fd ps []
theorem AtM.ok {P : Program} {w : World} {K : PySem.W.Frag} {mg : Str → Option Value} {base : Heap} {C : Addr} {m q : Str} {st : Stmt} {N ps : List Str} {k : Nat} {sp : Sp} (F : AtM K C m q st ps) (S : FnScope N ps (defScope st)) (len : ∀ vs H Q E, sp vs H Q E → vs.length = ps.length)
    (hbody : ∀ (f : Addr) (cdv : Value) (A : Around) (outer : List Env) (s : Shared) (H : Hp) (vs : List V) (Q : VK) (E : XK), Room k (A.deeper (envOfC q (defScope st) s.heap.objs.size f cdv)) → sp vs H Q E →
      ∃ t, PSs (cxOf CX0 P w K mg base N q (defScope st) f cdv A outer s H E).nox (defBody st) t ∧ t { nx := fun _ H' => Q .non H', rt := Q } (start N vs) H) : Mtd P w K mg base (k + 1) C m ps sp := by
  obtain ⟨f, fd, F, me, b⟩ := F.ex
  exact ⟨f, fd, me, b, F.ok S len (hbody f)⟩
structure MTxt (K : PySem.W.Frag) (mg : Str → Option Value) (C : Addr) : Prop where
  cl : Cls K C
  nR : NoAttr K C "_reading"
  nF : NoAttr K C "_following"
  nV : NoAttr K C "_verdict"
  c_START : ∃ u, mg "START" = some u ∧ RelV (.int 1) u
def mF (d l : Addr) : List (Str × V) := [("_reading", .ref d), ("_following", .ref l)]
def mFv (d l : Addr) (v : V) : List (Str × V) := [("_reading", .ref d), ("_following", .ref l), ("_verdict", v)]
theorem lk_here {f : Str} {v : V} {r : List (Str × V)} : ((f, v) :: r).lookup f = some v := by simp [List.lookup]
theorem lk_next {f g : Str} {v : V} {r : List (Str × V)} (h : (f == g) = false) : ((g, v) :: r).lookup f = r.lookup f := by simp [List.lookup, h]
theorem mF_R (d l : Addr) : (mF d l).lookup ("_reading" : Str) = some (.ref d) := lk_here
theorem mF_F (d l : Addr) : (mF d l).lookup ("_following" : Str) = some (.ref l) := (lk_next (by decide +kernel)).trans lk_here
theorem mF_no (d l : Addr) {m : Str} (h1 : (m == ("_reading" : Str)) = false) (h2 : (m == ("_following" : Str)) = false) : (mF d l).lookup m = none := (lk_next h1).trans ((lk_next h2).trans rfl)
theorem mFv_R (d l : Addr) (v : V) : (mFv d l v).lookup ("_reading" : Str) = some (.ref d) := lk_here
theorem mFv_F (d l : Addr) (v : V) : (mFv d l v).lookup ("_following" : Str) = some (.ref l) := (lk_next (by decide +kernel)).trans lk_here
theorem mFv_V (d l : Addr) (v : V) : (mFv d l v).lookup ("_verdict" : Str) = some v := (lk_next (by decide +kernel)).trans ((lk_next (by decide +kernel)).trans lk_here)
theorem mFv_no (d l : Addr) (v : V) {m : Str} (h1 : (m == ("_reading" : Str)) = false) (h2 : (m == ("_following" : Str)) = false) (h3 : (m == ("_verdict" : Str)) = false) : (mFv d l v).lookup m = none := (lk_next h1).trans ((lk_next h2).trans ((lk_next h3).trans rfl))
def rK (al : List Nat) (r : Nat → Nat) : List (Key × V) := al.map fun c => (Sum.inr (S [c]), vn (r c))
/-- the machine at m, its dict at d, its list at l -/
structure MS (C m d l : Addr) (al : List Nat) (f : List Nat) (r : Nat → Nat) (H : Hp) : Prop where
  m : ∃ dx, H m = some (.ins C dx (mF d l))
  d : H d = some (.dK (rK al r))
  l : H l = some (.lst (f.map vn))
/-- all else is kept -/
def KM (d l : Addr) (H H' : Hp) : Prop := ∀ b o, b ≠ d → b ≠ l → H b = some o → H' b = some o
theorem KM.refl {d l : Addr} {H : Hp} : KM d l H H := fun _ _ _ _ e => e
theorem KM.trans {d l : Addr} {H H1 H2 : Hp} (x : KM d l H H1) (y : KM d l H1 H2) : KM d l H H2 := fun b o n1 n2 e => y b o n1 n2 (x b o n1 n2 e)
theorem KM.of {d l : Addr} {H H' : Hp} (s : Same H H') : KM d l H H' := fun b o _ _ e => s b o e
theorem KM.lay {d l p : Addr} {H H' : Hp} {o : HO} (k : KM d l H H') (n : H p = none) : KM d l H (upd H' p o) := fun b u n1 n2 e => by
  rw [upd_ne (ne_of_none e n)]; exact k b u n1 n2 e
theorem KM.lay' {d l p : Addr} {H H' : Hp} {o : HO} (k : KM d l H H') (n : H' p = none) : KM d l H (upd H' p o) := fun b u n1 n2 e => by
  have q := k b u n1 n2 e
  rw [upd_ne (ne_of_none q n)]; exact q
theorem KM.layD {d l p : Addr} {H H' : Hp} {o : HO} (k : KM d l H H') (n : H p = none) : KM d l H (upd H' p o) := k.lay n
theorem KM.setd {d l : Addr} {H H' : Hp} {o : HO} (k : KM d l H H') : KM d l H (upd H' d o) := fun b u n1 n2 e => by rw [upd_ne n1]; exact k b u n1 n2 e
theorem KM.setl {d l : Addr} {H H' : Hp} {o : HO} (k : KM d l H H') : KM d l H (upd H' l o) := fun b u n1 n2 e => by rw [upd_ne n2]; exact k b u n1 n2 e
section
variable {C m d l : Addr} {al f : List Nat} {r : Nat → Nat} {H H' : Hp}
theorem MS.dl (M : MS C m d l al f r H) : d ≠ l := ne_of M.d M.l (by intro z; cases z)
theorem MS.md (M : MS C m d l al f r H) : m ≠ d := by
  obtain ⟨dx, h⟩ := M.m
  exact ne_of h M.d (by intro z; cases z)
theorem MS.ml (M : MS C m d l al f r H) : m ≠ l := by
  obtain ⟨dx, h⟩ := M.m
  exact ne_of h M.l (by intro z; cases z)
theorem MS.free (M : MS C m d l al f r H) {p : Addr} (h : H p = none) : p ≠ d ∧ p ≠ l ∧ p ≠ m := by
  obtain ⟨dx, e⟩ := M.m
  exact ⟨(ne_of_none M.d h).symm, (ne_of_none M.l h).symm, (ne_of_none e h).symm⟩
theorem MS.lay (M : MS C m d l al f r H) {p : Addr} {o : HO} (h : H p = none) : MS C m d l al f r (upd H p o) := by
  obtain ⟨n1, n2, n3⟩ := M.free h
  obtain ⟨dx, e⟩ := M.m
  exact ⟨⟨dx, by rw [upd_ne n3.symm]; exact e⟩, by rw [upd_ne n1.symm]; exact M.d, by rw [upd_ne n2.symm]; exact M.l⟩
theorem MS.ts (M : MS C m d l al f r H) (k : KM d l H H') : TS H H' := fun b xs e =>
  k b _ (ne_of e M.d (by intro z; cases z)) (ne_of e M.l (by intro z; cases z)) e
theorem MS.setl (M : MS C m d l al f r H) (g : List Nat) : MS C m d l al g r (upd H l (.lst (g.map vn))) := by
  obtain ⟨dx, e⟩ := M.m
  exact ⟨⟨dx, by rw [upd_ne M.ml]; exact e⟩, by rw [upd_ne M.dl]; exact M.d, upd_same⟩
theorem MS.setd (M : MS C m d l al f r H) (r' : Nat → Nat) : MS C m d l al f r' (upd H d (.dK (rK al r'))) := by
  obtain ⟨dx, e⟩ := M.m
  exact ⟨⟨dx, by rw [upd_ne M.md]; exact e⟩, upd_same, by rw [upd_ne M.dl.symm]; exact M.l⟩
variable {K : PySem.W.Frag} {mg : Str → Option Value} {R : V → Prop}
theorem MS.fR (M : MS C m d l al f r H) (T : MTxt K mg C) (q : R (.ref d)) : ∃ a C dx fs v, V.ref m = .ref a ∧ H a = some (.ins C dx fs) ∧ Cls K C ∧ NoAttr K C "_reading" ∧ fs.lookup ("_reading" : Str) = some v ∧ R v := by
  obtain ⟨dx, e⟩ := M.m
  exact ⟨m, C, dx, _, _, rfl, e, T.cl, T.nR, mF_R d l, q⟩
theorem MS.fF (M : MS C m d l al f r H) (T : MTxt K mg C) (q : R (.ref l)) : ∃ a C dx fs v, V.ref m = .ref a ∧ H a = some (.ins C dx fs) ∧ Cls K C ∧ NoAttr K C "_following" ∧ fs.lookup ("_following" : Str) = some v ∧ R v := by
  obtain ⟨dx, e⟩ := M.m
  exact ⟨m, C, dx, _, _, rfl, e, T.cl, T.nF, mF_F d l, q⟩
theorem MS.me (M : MS C m d l al f r H) {x : Str} {R : Prop} (q : R) (h1 : (x == ("_reading" : Str)) = false := by decide +kernel) (h2 : (x == ("_following" : Str)) = false := by decide +kernel) : ∃ a dx fs, V.ref m = .ref a ∧ H a = some (.ins C dx fs) ∧ fs.lookup x = none ∧ R := by
  obtain ⟨dx, e⟩ := M.m
  exact ⟨m, dx, _, rfl, e, mF_no d l h1 h2, q⟩
end
theorem map_vn_get {f : List Nat} {k : Nat} (h : k < f.length) : (f.map vn)[k]? = some (vn (f.getD k 0)) := by
  rw [List.getElem?_map, List.getD_eq_getElem?_getD, List.getElem?_eq_getElem h]; rfl
/-- edges added, as far as the places ahead of n -/
def linkN (f : List Nat) (b a n : Nat) : List Nat := f.mapIdx fun k x => if k < n ∧ b.testBit k then x ||| a else x
theorem linkN_len (f : List Nat) (b a n : Nat) : (linkN f b a n).length = f.length := by simp [linkN]
theorem linkN_0 (f : List Nat) (b a : Nat) : linkN f b a 0 = f :=
  List.ext_getElem (linkN_len f b a 0) fun i h1 h2 => by simp [linkN]
theorem linkN_all (f : List Nat) (b a : Nat) : linkN f b a f.length = linkF f b a := by
  refine List.ext_getElem (by rw [linkN_len, linkF_len]) fun i h1 h2 => ?_
  have : i < f.length := by rw [linkN_len] at h1; exact h1
  simp [linkN, linkF, this]
theorem linkN_no (f : List Nat) (b a n : Nat) (h : b.testBit n = false) : linkN f b a (n + 1) = linkN f b a n := by
  refine List.ext_getElem (by rw [linkN_len, linkN_len]) fun i h1 h2 => ?_
  simp only [linkN, List.getElem_mapIdx]
  by_cases e : i = n
  · subst e; simp [h]
  · have : i < n + 1 ↔ i < n := by omega
    simp [this]
theorem linkN_yes (f : List Nat) (b a n : Nat) (h : b.testBit n = true) (hn : n < f.length) : linkN f b a (n + 1) = (linkN f b a n).set n (f.getD n 0 ||| a) := by
  refine List.ext_getElem (by rw [List.length_set, linkN_len, linkN_len]) fun i h1 h2 => ?_
  rw [List.getElem_set]
  simp only [linkN, List.getElem_mapIdx]
  by_cases e : n = i
  · subst e
    simp [h, hn, List.getD_eq_getElem?_getD]
  · have : i < n + 1 ↔ i < n := by omega
    simp [this, e]
theorem linkN_get (f : List Nat) (b a n : Nat) (hn : n < f.length) : (linkN f b a n).getD n 0 = f.getD n 0 := by
  simp [linkN, List.getD_eq_getElem?_getD, hn]

end Cs
namespace Cs
open PySem L2
open PyProof.Rows (envOfC)
/-! a set's place -/
theorem rK_len (al : List Nat) (r : Nat → Nat) : (rK al r).length = al.length := by simp [rK]
theorem key_inj {a b : Nat} (h : (Sum.inr (S [a]) : Key) = Sum.inr (S [b])) : a = b := by
  have := S_inj (Sum.inr.inj h)
  simpa using this
theorem rK_val {r : Nat → Nat} {c : Nat} : ∀ {al : List Nat}, c ∈ al → valV (rK al r) (Sum.inr (S [c])) = some (vn (r c))
  | a :: al, h => by
    by_cases e : a = c
    · subst e; exact valV_pos rfl
    · have hne : ((Sum.inr (S [a]) : Key), vn (r a)).1 ≠ Sum.inr (S [c]) := fun z => e (key_inj z)
      have : valV (rK (a :: al) r) (Sum.inr (S [c])) = valV (rK al r) (Sum.inr (S [c])) := by
        simp [rK, valV, List.find?_cons, hne]
      rw [this]
      exact rK_val (by rcases List.mem_cons.mp h with h | h; exact absurd h.symm e; exact h)
theorem rK_put {al : List Nat} {r : Nat → Nat} {c n : Nat} (h : c ∈ al) : putK (rK al r) (Sum.inr (S [c])) (vn n) = rK al fun x => if x = c then n else r x := by
  unfold putK
  rw [if_pos (by
    rw [List.any_eq_true]
    exact ⟨_, List.mem_map.mpr ⟨c, h, rfl⟩, by simp⟩)]
  unfold rK
  rw [List.map_map]
  refine List.map_congr_left fun x hx => ?_
  by_cases e : x = c
  · subst e; simp
  · have : ¬ (Sum.inr (S [x]) : Key) = Sum.inr (S [c]) := fun z => e (key_inj z)
    show (if (Sum.inr (S [x]) : Key) = Sum.inr (S [c]) then ((Sum.inr (S [x]) : Key), vn n) else ((Sum.inr (S [x]) : Key), vn (r x))) = (Sum.inr (S [x]), vn (if x = c then n else r x))
    rw [if_neg this, if_neg e]
theorem rK_congr {al : List Nat} {r r' : Nat → Nat} (h : ∀ c ∈ al, r c = r' c) : rK al r = rK al r' := List.map_congr_left fun c hc => by rw [h c hc]
theorem addR_step {r : Nat → Nat} {cs : List Nat} {b i c : Nat} (h : cs[i]? = some c) (x : Nat) : (if x = c then addR r (cs.take i) b c ||| b else addR r (cs.take i) b x) = addR r (cs.take (i + 1)) b x := by
  have ht : cs.take (i + 1) = cs.take i ++ [c] := by rw [List.take_add_one, h]; rfl
  unfold addR
  rw [ht]
  by_cases e : x = c
  · subst e
    by_cases q : x ∈ cs.take i
    · simp [q, Nat.or_assoc]
    · simp [q]
  · rw [if_neg e]; simp [e]
def sp_place (C : Addr) : Sp := fun vs H Q _ => ∃ (m d l : Addr) (al f cs : List Nat) (r : Nat → Nat), vs = [.ref m, .str (S cs)] ∧ MS C m d l al f r H ∧ f.length ≤ 800 ∧ al.length ≤ 100 ∧ (∀ c ∈ cs, c ∈ al) ∧
  ∀ (p : Addr) H', MS C m d l al (f ++ [0]) (addR r cs (2 ^ f.length)) H' → KM d l H H' → H p = none → H' p = some (.tup [.bl false, vn (2 ^ f.length), vn (2 ^ f.length)]) → Q (.ref p) H'
theorem use_place {C m d l : Addr} {al f cs : List Nat} {r : Nat → Nat} {H : Hp} {Q : VK} {E : XK} (M : MS C m d l al f r H) (hf : f.length ≤ 800) (hL : al.length ≤ 100) (hc : ∀ c ∈ cs, c ∈ al)
    (k : ∀ (p : Addr) H', MS C m d l al (f ++ [0]) (addR r cs (2 ^ f.length)) H' → KM d l H H' → H p = none → H' p = some (.tup [.bl false, vn (2 ^ f.length), vn (2 ^ f.length)]) → Q (.ref p) H') : sp_place C [.ref m, .str (S cs)] H Q E := ⟨m, d, l, al, f, cs, r, rfl, M, hf, hL, hc, k⟩
section
variable {P : Program} {w : World} {K : PySem.W.Frag} {mg : Str → Option Value} {base : Heap}
theorem ok_place (B : Blt mg) {C : Addr} (T : MTxt K mg C) (F : AtM K C "_place" "Machine._place" s_Machine__place ["self", "characters"]) : Mtd P w K mg base 1 C "_place" ["self", "characters"] (sp_place C) := by
  refine F.ok (k := 0) sc_Machine__place (fun vs H Q E h => ?_) (fun f cdv A outer s H vs Q E hr h => ?_)
  · obtain ⟨m, d, l, al, f, cs, r, rfl, _⟩ := h
    rfl
  · obtain ⟨m, d, l, al, f, cs, r, rfl, M, hf, hL, hc, k⟩ := h
    refine ⟨_, (pss_cons (ps_set (i := 2) sc_Machine__place.nd rfl (Or.inl rfl) (pe_op op_shl pe_int (pe_callB (call_len_seqK (K := K) (by rfl)) (by rfl) B.len PySem.boot_len (pa_cons (pe_fldK (K := K) (by rfl) (pv 0) rfl) pa_nil))))
    (pss_cons (ps_expr (pe_bmK (K := K) (by rfl) PySem.F.plainAttrs_list PySem.F.slot_list_append PySem.F.type_list_append mt_append (pe_fldK (K := K) (by rfl) (pv 0) rfl) (pa_cons pe_int pa_nil)))
    (pss_cons (ps_for PassesOwn.never rfl (pi_str (pv 1)) (pg_name (i := 3) sc_Machine__place.nd rfl (Or.inl rfl))
    (pss_one (ps_daug (hu1 hr.units) (pe_fldK (K := K) (by rfl) (pv 0) rfl) (pv 3) (pv 2) iop_or (by intros; rfl))))
    (pss_one (ps_ret (pe_tup (pa_cons pe_bl (pa_cons (pv 2) (pa_cons (pv 2) pa_nil))))))))), ?_⟩
    walk_at "go"
    refine M.fF T ?_
    walk_at "go"
    refine rd_len (.inl (SqL.of M.l)) ?_
    walk_at "go"
    rw [List.length_map]
    refine rd_i (C := CPow) ⟨by omega, by omega, by decide⟩ ?_
    rw [shl_n]
    walk_at "go"
    refine M.fF T ?_
    refine ⟨.inl ⟨rfl, _, SqL.of M.l⟩, ?_⟩
    walk_at "go"
    refine ⟨l, _, _, rfl, rfl, M.l, by rw [List.length_map, PySem.sizeLine_eq]; omega, ?_⟩
    have e0 : (f.map vn ++ [V.int 0]) = (f ++ [0]).map vn := by rw [List.map_append]; rfl
    rw [e0]
    have M1 := M.setl (f ++ [0])
    walk_at "go"
    refine for_str (x := cs) (fun i σ H' => ∃ (x : Option V), σ = [some (.ref m), some (.str (S cs)), some (vn (2 ^ f.length)), x] ∧ MS C m d l al (f ++ [0]) (addR r (cs.take i) (2 ^ f.length)) H' ∧ KM d l H H' ∧ ∀ b, H b = none → H' b = none) ?_ ?_ ?_
    · exact ⟨_, rfl, by rw [show addR r (cs.take 0) (2 ^ f.length) = r from by funext c; simp [addR]]; exact M1, KM.refl.setl, fun b hb => by rw [upd_ne (ne_of_none M.l hb).symm]; exact hb⟩
    · rintro i c σ H' hi ⟨x, rfl, M', kk, fr⟩
      have hal : c ∈ al := hc c (List.mem_of_getElem? hi)
      walk_at "go"
      refine M'.fR T ?_
      walk_at "go"
      refine ⟨d, _, rfl, by rw [← rK_val (r := addR r (cs.take i) (2 ^ f.length)) hal]; exact DGet.k (k := Sum.inr (S [c])) M'.d, ?_⟩
      walk_at "go"
      rw [bor_n]
      refine ⟨_, DPut.k (k := Sum.inr (S [c])) M'.d (by rw [rK_len, PySem.sizeLine_eq]; omega), ?_⟩
      rw [rK_put hal, rK_congr (r' := addR r (cs.take (i + 1)) (2 ^ f.length)) (fun x _ => addR_step hi x)]
      walk_at "go"
      exact ⟨_, rfl, M'.setd _, kk.setd, fun b hb => by rw [upd_ne (ne_of_none M'.d (fr b hb)).symm]; exact fr b hb⟩
    · rintro σ H' ⟨x, rfl, M', kk, fr⟩
      rw [List.take_length] at M'
      walk_at "go"
      refine ⟨by show 3 ≤ sizeLine; decide, fun p hp => ?_⟩
      have n := M'.free hp
      walk_at "go"
      exact k p _ (M'.lay hp) (kk.lay' hp) (by
        cases e : H p with
        | none => rfl
        | some o => rw [kk p o n.1 n.2.1 e] at hp; cases hp) upd_same
end

end Cs
namespace Cs
open PySem L2
open PyProof.Rows (envOfC)
/-! pieces as values -/
def dPc (x : Bool × Nat × Nat) : PyData := .tuple [.bool x.1, .int x.2.1, .int x.2.2]
theorem pc_at {H : Hp} {v : V} {x : Bool × Nat × Nat} (h : Tp H v (dPc x)) : ∃ t, v = .ref t ∧ H t = some (.tup [.bl x.1, vn x.2.1, vn x.2.2]) := by
  cases h with
  | tup e t =>
    cases t with
    | cons a t =>
      cases a
      cases t with
      | cons b t =>
        cases b
        cases t with
        | cons c t =>
          cases c
          cases t
          exact ⟨_, rfl, e⟩
theorem pc_mk {H : Hp} {t : Addr} {x : Bool × Nat × Nat} (h : H t = some (.tup [.bl x.1, vn x.2.1, vn x.2.2])) : Tp H (.ref t) (dPc x) := .tup h (.cons (.bl _) (.cons (.int _) (.cons (.int _) .nil)))
theorem TpAll.get {H : Hp} : ∀ {vs : List V} {ds : List PyData} {i : Nat} {v : V}, TpAll H vs ds → vs[i]? = some v → ∃ d, ds[i]? = some d ∧ Tp H v d
  | _, _, _, _, .nil, e => by simp at e
  | _, _, 0, _, .cons h _, e => by
    simp at e; subst e; exact ⟨_, rfl, h⟩
  | _, _, i + 1, v, .cons _ t, e => by
    obtain ⟨d, a, b⟩ := TpAll.get (i := i) (v := v) t (by simpa using e)
    exact ⟨d, by simpa using a, b⟩
theorem pcs_get {H : Hp} {vs : List V} {ps : List (Bool × Nat × Nat)} {i : Nat} {v : V} (h : TpAll H vs (ps.map dPc)) (e : vs[i]? = some v) : ∃ x, ps[i]? = some x ∧ Tp H v (dPc x) := by
  obtain ⟨d, h1, h2⟩ := TpAll.get h e
  rw [List.getElem?_map] at h1
  cases q : ps[i]? with
  | none => rw [q] at h1; cases h1
  | some x =>
    rw [q] at h1
    cases h1
    exact ⟨x, rfl, h2⟩
abbrev Pc := Bool × Nat × Nat
def choB (a x : Pc) : Pc := (a.1 || x.1, a.2.1 ||| x.2.1, a.2.2 ||| x.2.2)
def choF (ps : List Pc) : Pc := ps.foldl choB (false, 0, 0)
def chnB (s : List Nat × Pc) (x : Pc) : List Nat × Pc := (linkF s.1 s.2.2.2 x.2.1, s.2.1 && x.1, if s.2.1 then s.2.2.1 ||| x.2.1 else s.2.2.1, if x.1 then s.2.2.2 ||| x.2.2 else x.2.2)
def chnF (f : List Nat) (ps : List Pc) : List Nat × Pc := ps.foldl chnB (f, true, 0, 0)
theorem take_snoc {α : Type} {l : List α} {i : Nat} {x : α} (h : l[i]? = some x) : l.take (i + 1) = l.take i ++ [x] := by rw [List.take_add_one, h]; rfl
theorem chnF_len (f : List Nat) (ps : List Pc) : (chnF f ps).1.length = f.length := by
  unfold chnF
  have : ∀ (ps : List Pc) (s : List Nat × Pc), (ps.foldl chnB s).1.length = s.1.length := by
    intro ps
    induction ps with
    | nil => intro s; rfl
    | cons x ps ih => intro s; rw [List.foldl_cons, ih]; exact linkF_len _ _ _
  exact this ps _
theorem zero_bit {m : Nat} : (0 : Nat).testBit m = true ↔ False := by simp
theorem POk.none (f : List Nat) (a : Nat) : POk f a a 0 0 := ⟨Nat.le_refl _, fun m h => by simp at h, fun m h => by simp at h, fun k m h1 h2 => by omega⟩
theorem PL_zero {f : List Nat} {r : Nat → Nat} (w : List Nat) : PL f r true 0 0 w ↔ w = [] := by
  cases w with
  | nil => simp [PL]
  | cons c w => constructor <;> intro h <;> simp [PL] at h
theorem PL_zero' {f : List Nat} {r : Nat → Nat} (w : List Nat) : PL f r false 0 0 w ↔ False := by
  cases w with
  | nil => simp [PL]
  | cons c w => constructor <;> intro h <;> simp [PL] at h
/-- what _choice makes of pieces -/
theorem choF_ok {f : List Nat} {r : Nat → Nat} {a b : Nat} {ps : List Pc} {As : List Lg} (h : Pcs f r a ps b As) : POk f a b (choF ps).2.1 (choF ps).2.2 ∧ ∀ w, PL f r (choF ps).1 (choF ps).2.1 (choF ps).2.2 w ↔ ∃ A ∈ As, A w := by
  have gen : ∀ {x b : Nat} {ps : List Pc} {As : List Lg}, Pcs f r x ps b As → ∀ (s : Pc) (B : Lg), POk f a x s.2.1 s.2.2 → (∀ w, PL f r s.1 s.2.1 s.2.2 w ↔ B w) →
      POk f a b (ps.foldl choB s).2.1 (ps.foldl choB s).2.2 ∧ ∀ w, PL f r (ps.foldl choB s).1 (ps.foldl choB s).2.1 (ps.foldl choB s).2.2 w ↔ (B w ∨ ∃ A ∈ As, A w) := by
    intro x b ps As h
    induction h with
    | nil => intro s B p q; exact ⟨p, fun w => by simpa using q w⟩
    | @cons x1 x2 x3 e' F' L' A' ps' As' p' q' t ih =>
      intro s B p q
      obtain ⟨p2, q2⟩ := choice_step p p' q q'
      obtain ⟨r1, r2⟩ := ih (choB s (e', F', L')) _ p2 q2
      refine ⟨r1, fun w => (r2 w).trans ?_⟩
      constructor
      · rintro ((z | z) | ⟨A, hA, z⟩)
        · exact .inl z
        · exact .inr ⟨_, List.mem_cons_self, z⟩
        · exact .inr ⟨A, List.mem_cons_of_mem _ hA, z⟩
      · rintro (z | ⟨A, hA, z⟩)
        · exact .inl (.inl z)
        · rcases List.mem_cons.mp hA with rfl | hA
          · exact .inl (.inr z)
          · exact .inr ⟨A, hA, z⟩
  obtain ⟨r1, r2⟩ := gen h (false, 0, 0) (fun _ => False) (POk.none f a) PL_zero'
  exact ⟨r1, fun w => (r2 w).trans (by simp)⟩
/-- what _chain makes of pieces -/
theorem chnF_ok {f : List Nat} {r : Nat → Nat} {a b : Nat} {ps : List Pc} {As : List Lg} (ha : 1 ≤ a) (hb : b ≤ f.length) (M : Mach f r) (h : Pcs f r a ps b As) :
    POk (chnF f ps).1 a b (chnF f ps).2.2.1 (chnF f ps).2.2.2 ∧ (∀ w, PL (chnF f ps).1 r (chnF f ps).2.1 (chnF f ps).2.2.1 (chnF f ps).2.2.2 w ↔ RowL As w) ∧ Mach (chnF f ps).1 r ∧ ∀ {f0 : List Nat} {r0 : Nat → Nat}, f0.length = a → Grow f0 f r0 r → Grow f0 (chnF f ps).1 r0 r := by
  have gen : ∀ (ps : List Pc) (x : Nat) (As : List Lg) (s : List Nat × Pc) (B : Lg), Pcs s.1 r x ps b As → a ≤ x → b ≤ s.1.length → Mach s.1 r → POk s.1 a x s.2.2.1 s.2.2.2 → (∀ w, PL s.1 r s.2.1 s.2.2.1 s.2.2.2 w ↔ B w) →
      POk (ps.foldl chnB s).1 a b (ps.foldl chnB s).2.2.1 (ps.foldl chnB s).2.2.2 ∧ (∀ w, PL (ps.foldl chnB s).1 r (ps.foldl chnB s).2.1 (ps.foldl chnB s).2.2.1 (ps.foldl chnB s).2.2.2 w ↔ ∃ u v, w = u ++ v ∧ B u ∧ RowL As v) ∧ Mach (ps.foldl chnB s).1 r ∧
      ∀ {f0 : List Nat} {r0 : Nat → Nat}, f0.length = a → Grow f0 s.1 r0 r → Grow f0 (ps.foldl chnB s).1 r0 r := by
    intro ps
    induction ps with
    | nil =>
      intro x As s B h hx hb M p q
      cases h
      refine ⟨p, fun w => (q w).trans ⟨fun z => ⟨w, [], by simp, z, rfl⟩, ?_⟩, M, fun _ g => g⟩
      rintro ⟨u, v, rfl, z, hv⟩
      have : v = [] := hv
      subst this
      rw [List.append_nil]; exact z
    | cons y ps ih =>
      intro x As s B h hx hb M p q
      cases h with
      | cons p' q' t =>
        rename_i x' e F L A As
        have t1 := t.le
        have l1 := p'.le
        obtain ⟨p2, q2⟩ := chain_step p p' (by omega) q q'
        have ag : Agr s.1 (linkF s.1 s.2.2.2 F) r r x' b := linkF_agr fun k hk => by have := p.L k hk; omega
        have M2 : Mach (linkF s.1 s.2.2.2 F) r := M.link (fun m hm => p'.F m hm) (by omega) (by omega)
        obtain ⟨r1, r2, r3, r4⟩ := ih x' As (chnB s (e, F, L)) _ (t.agr ag) (by omega) (by show b ≤ (linkF _ _ _).length; rw [linkF_len]; exact hb) M2 p2 q2
        refine ⟨r1, fun w => (r2 w).trans ?_, r3, fun h0 g => r4 h0 (Grow.link (fun k hk => (p.L k hk).1) (by omega) h0 g)⟩
        constructor
        · rintro ⟨u, v, rfl, ⟨u1, u2, rfl, h1, h2⟩, h3⟩
          exact ⟨u1, u2 ++ v, by rw [List.append_assoc], h1, u2, v, rfl, h2, h3⟩
        · rintro ⟨u, v, rfl, h1, u2, v2, rfl, h2, h3⟩
          exact ⟨u ++ u2, v2, by rw [List.append_assoc], ⟨u, u2, rfl, h1, h2⟩, h3⟩
  obtain ⟨r1, r2, r3, r4⟩ := gen ps a As (f, true, 0, 0) (fun w => w = []) h (Nat.le_refl _) hb M (POk.none f a) PL_zero
  refine ⟨r1, fun w => (r2 w).trans ⟨?_, fun z => ⟨[], w, rfl, rfl, z⟩⟩, r3, r4⟩
  rintro ⟨u, v, rfl, rfl, z⟩
  exact z

end Cs
namespace Cs
open PySem L2
open PyProof.Rows (envOfC)
def sp_choice (K : PySem.W.Frag) : Sp := fun vs H Q _ => ∃ (q : Addr) (xs : List V) (ps : List Pc), vs = [.ref q] ∧ SqL K H q xs ∧ TpAll H xs (ps.map dPc) ∧
  ∀ (p : Addr) H', Same H H' → H p = none → H' p = some (.tup [.bl (choF ps).1, vn (choF ps).2.1, vn (choF ps).2.2]) → Q (.ref p) H'
theorem use_choice {K : PySem.W.Frag} {q : Addr} {xs : List V} {ps : List Pc} {H : Hp} {Q : VK} {E : XK} (h : SqL K H q xs) (t : TpAll H xs (ps.map dPc)) (k : ∀ (p : Addr) H', Same H H' → H p = none → H' p = some (.tup [.bl (choF ps).1, vn (choF ps).2.1, vn (choF ps).2.2]) → Q (.ref p) H') : sp_choice K [.ref q] H Q E := ⟨q, xs, ps, rfl, h, t, k⟩
section
variable {P : Program} {w : World} {K : PySem.W.Frag} {mg : Str → Option Value} {base : Heap}
theorem ok_choice (F : At K mg "_choice" s__choice ["pieces"]) : Cal P w K mg base 1 "_choice" ["pieces"] (sp_choice K) := by
  refine F.ok (k := 0) sc__choice (fun vs H Q E h => ?_) (fun f cdv A outer s H vs Q E hr h => ?_)
  · obtain ⟨q, xs, ps, rfl, _⟩ := h
    rfl
  · obtain ⟨q, xs, ps, rfl, hq, ht, k⟩ := h
    refine ⟨_, (pss_cons (ps_asg (pe_tup (pa_cons pe_bl (pa_cons pe_int (pa_cons pe_int pa_nil)))) (pg_tupK (n := 3) (K := K) (by rfl) (by rfl) (pgs_cons (pg_name (i := 1) sc__choice.nd rfl (Or.inl rfl)) (pgs_cons (pg_name (i := 2) sc__choice.nd rfl (Or.inl rfl)) (pgs_cons (pg_name (i := 3) sc__choice.nd rfl (Or.inl rfl)) pgs_nil)))))
    (pss_cons (ps_for PassesOwn.never rfl (pi_listK (K := K) (by rfl) (pv 0)) (pg_tupK (n := 3) (K := K) (by rfl) (by rfl) (pgs_cons (pg_name (i := 4) sc__choice.nd rfl (Or.inl rfl)) (pgs_cons (pg_name (i := 5) sc__choice.nd rfl (Or.inl rfl)) (pgs_cons (pg_name (i := 6) sc__choice.nd rfl (Or.inl rfl)) pgs_nil))))
    (pss_cons (ps_set (i := 1) sc__choice.nd rfl (Or.inl rfl) (pe_or (pv 1) (pe_one (pv 4))))
    (pss_cons (ps_aug (i := 2) sc__choice.nd rfl (Or.inl rfl) (pv 5) ip_or)
    (pss_one (ps_aug (i := 3) sc__choice.nd rfl (Or.inl rfl) (pv 6) ip_or)))))
    (pss_one (ps_ret (pe_tup (pa_cons (pv 1) (pa_cons (pv 2) (pa_cons (pv 3) pa_nil)))))))), ?_⟩
    walk_at "go"
    refine ⟨by show 3 ≤ sizeLine; decide, fun p0 hp0 => ?_⟩
    walk_at "go"
    refine rd_gtup (SqT.of upd_same) rfl ?_
    walk_at "go"
    have s0 : Same H (upd H p0 (.tup [.bl false, .int 0, .int 0])) := Same.lay hp0
    have hq0 := Same.seq s0 hq
    have hl : xs.length = ps.length := by rw [ht.length, List.length_map]
    refine ⟨q, rfl, ⟨_, hq0⟩, for_list (K := K) (a := q) (xs := xs) (fun i σ H' => ∃ (x4 x5 x6 : Option V), σ = [some (.ref q), some (.bl ((ps.take i).foldl choB (false, 0, 0)).1), some (vn ((ps.take i).foldl choB (false, 0, 0)).2.1), some (vn ((ps.take i).foldl choB (false, 0, 0)).2.2), x4, x5, x6] ∧ Same H H') ?_ (fun i σ H' _ ⟨_, _, _, _, e⟩ => Same.seq e hq) ?_ ?_⟩
    · exact ⟨_, _, _, rfl, s0⟩
    · rintro i y σ H' hi ⟨x4, x5, x6, rfl, s1⟩
      obtain ⟨x, hx, tx⟩ := pcs_get (ht.ts (TS.same s1)) hi
      obtain ⟨t, rfl, et⟩ := pc_at tx
      refine rd_gtup (SqT.of et) rfl ?_
      walk_at "go"
      rw [take_snoc hx, List.foldl_append]
      generalize (ps.take i).foldl choB (false, 0, 0) = a
      obtain ⟨e, F, L⟩ := a
      obtain ⟨e2, F2, L2⟩ := x
      cases e <;> (walk_at "go"; rw [bor_n]; walk_at "go"; rw [bor_n]; exact ⟨_, _, _, rfl, s1⟩)
    · rintro σ H' ⟨x4, x5, x6, rfl, s1⟩
      rw [hl, List.take_length]
      walk_at "go"
      exact ⟨by show 3 ≤ sizeLine; decide, fun p hp => by
        walk_at "go"
        exact k p _ (L2.Same.trans s1 (Same.lay hp)) (L2.Same.free s1 hp) upd_same⟩
end

end Cs
namespace Cs
open PySem L2
open PyProof.Rows (envOfC)
def sp_link (C : Addr) : Sp := fun vs H Q _ => ∃ (m d l : Addr) (al f : List Nat) (r : Nat → Nat) (b a : Nat), vs = [.ref m, vn b, vn a] ∧ MS C m d l al f r H ∧ f.length ≤ 900 ∧
  ∀ H', MS C m d l al (linkF f b a) r H' → KM d l H H' → Q .non H'
theorem use_link {C m d l : Addr} {al f : List Nat} {r : Nat → Nat} {b a : Nat} {H : Hp} {Q : VK} {E : XK} (M : MS C m d l al f r H) (hf : f.length ≤ 900) (k : ∀ H', MS C m d l al (linkF f b a) r H' → KM d l H H' → Q .non H') : sp_link C [.ref m, vn b, vn a] H Q E := ⟨m, d, l, al, f, r, b, a, rfl, M, hf, k⟩
section
variable {P : Program} {w : World} {K : PySem.W.Frag} {mg : Str → Option Value} {base : Heap}
theorem ok_link (B : Blt mg) {C : Addr} (T : MTxt K mg C) (F : AtM K C "_link" "Machine._link" s_Machine__link ["self", "before", "after"]) : Mtd P w K mg base 1 C "_link" ["self", "before", "after"] (sp_link C) := by
  refine F.ok (k := 0) sc_Machine__link (fun vs H Q E h => ?_) (fun f cdv A outer s H vs Q E hr h => ?_)
  · obtain ⟨m, d, l, al, f, r, b, a, rfl, _⟩ := h
    rfl
  · obtain ⟨m, d, l, al, f, r, b, a, rfl, M, hf, k⟩ := h
    refine ⟨_, (pss_one (ps_for PassesOwn.never rfl (pi_range1 (by rfl) B.range (pa_cons (pe_callB (call_len_seqK (K := K) (by rfl)) (by rfl) B.len PySem.boot_len (pa_cons (pe_fldK (K := K) (by rfl) (pv 0) rfl) pa_nil)) pa_nil)) (pg_name (i := 3) sc_Machine__link.nd rfl (Or.inl rfl))
    (pss_one (ps_if (pt_truthK (K := K) (by rfl) (pe_op op_and (pe_op op_shr (pv 1) (pv 3)) pe_int))
    (pss_one (ps_augS (pe_fldK (K := K) (by rfl) (pv 0) rfl) (pv 3) (pget_listK (K := K) (by rfl)) (pv 2) ip_or set_list))
    pss_nil)))), ?_⟩
    walk_at "go"
    refine M.fF T ?_
    walk_at "go"
    refine rd_len (.inl (SqL.of M.l)) ?_
    walk_at "go"
    rw [List.length_map]
    refine rd_rng1j (by omega) (by omega) ?_
    rw [Int.toNat_natCast]
    refine for_range (lo := 0) (n := f.length) (fun i σ H' => ∃ (x : Option V), σ = [some (.ref m), some (vn b), some (vn a), x] ∧ MS C m d l al (linkN f b a i) r H' ∧ KM d l H H') ?_ ?_ ?_
    · exact ⟨_, rfl, by rw [linkN_0]; exact M, KM.refl⟩
    · rintro i σ H' hi ⟨x, rfl, M', kk⟩
      walk_at "go"
      rw [Int.zero_add]
      refine ⟨_, _, rfl, rfl, by omega, ?_⟩
      walk_at "go"
      rw [bit_n]
      cases e : b.testBit i with
      | false =>
        refine ⟨false, rfl, ?_⟩
        walk_at "go"
        exact ⟨_, rfl, by rw [linkN_no _ _ _ _ e]; exact M', kk⟩
      | true =>
        refine ⟨true, rfl, ?_⟩
        walk_at "go"
        refine M'.fF T ?_
        walk_at "go"
        refine rd_ixl (SqL.of M'.l) (at_c (j := i) (by omega) (map_vn_get (by rw [linkN_len]; exact hi))) ?_
        walk_at "go"
        rw [linkN_get _ _ _ _ hi, bor_n]
        refine rd_setl M'.l (j := i) (by rw [List.length_map, linkN_len]; unfold ixN; rw [if_pos (by omega), if_pos (by omega)]; simp) ?_
        refine ⟨_, rfl, ?_, kk.setl⟩
        have := M'.setl (linkN f b a (i + 1))
        rw [linkN_yes _ _ _ _ e hi] at this ⊢
        rw [List.map_set] at this
        exact this
    · rintro σ H' ⟨x, rfl, M', kk⟩
      rw [linkN_all] at M'
      exact k H' M' kk
end

end Cs
namespace Cs
open PySem L2
open PyProof.Rows (envOfC)
def sp_chain (K : PySem.W.Frag) (C : Addr) : Sp := fun vs H Q _ => ∃ (m d l q : Addr) (al f : List Nat) (r : Nat → Nat) (xs : List V) (ps : List Pc), vs = [.ref m, .ref q] ∧ MS C m d l al f r H ∧ f.length ≤ 900 ∧ H q = some (.lst xs) ∧ q ≠ l ∧ TpAll H xs (ps.map dPc) ∧
  ∀ (p : Addr) H', MS C m d l al (chnF f ps).1 r H' → KM d l H H' → H p = none → H' p = some (.tup [.bl (chnF f ps).2.1, vn (chnF f ps).2.2.1, vn (chnF f ps).2.2.2]) → Q (.ref p) H'
theorem use_chain {K : PySem.W.Frag} {C m d l q : Addr} {al f : List Nat} {r : Nat → Nat} {xs : List V} {ps : List Pc} {H : Hp} {Q : VK} {E : XK} (M : MS C m d l al f r H) (hf : f.length ≤ 900) (h : H q = some (.lst xs)) (nl : q ≠ l) (t : TpAll H xs (ps.map dPc))
    (k : ∀ (p : Addr) H', MS C m d l al (chnF f ps).1 r H' → KM d l H H' → H p = none → H' p = some (.tup [.bl (chnF f ps).2.1, vn (chnF f ps).2.2.1, vn (chnF f ps).2.2.2]) → Q (.ref p) H') : sp_chain K C [.ref m, .ref q] H Q E := ⟨m, d, l, q, al, f, r, xs, ps, rfl, M, hf, h, nl, t, k⟩
theorem KM.free {C m d l p : Addr} {al f : List Nat} {r : Nat → Nat} {H H' : Hp} (k : KM d l H H') (M : MS C m d l al f r H') (h : H' p = none) : H p = none := by
  have n := M.free h
  cases e : H p with
  | none => rfl
  | some o => rw [k p o n.1 n.2.1 e] at h; cases h
section
variable {P : Program} {w : World} {K : PySem.W.Frag} {mg : Str → Option Value} {base : Heap}
theorem ok_chain {C : Addr} (T : MTxt K mg C) (G__link : Mtd P w K mg base 1 C "_link" ["self", "before", "after"] (sp_link C)) (F : AtM K C "_chain" "Machine._chain" s_Machine__chain ["self", "pieces"]) : Mtd P w K mg base 2 C "_chain" ["self", "pieces"] (sp_chain K C) := by
  refine F.ok (k := 1) sc_Machine__chain (fun vs H Q E h => ?_) (fun f cdv A outer s H vs Q E hr h => ?_)
  · obtain ⟨m, d, l, q, al, f, r, xs, ps, rfl, _⟩ := h
    rfl
  · obtain ⟨m, d, l, q, al, f, r, xs, ps, rfl, M, hf, hq, nl, ht, k⟩ := h
    refine ⟨_, (pss_cons (ps_asg (pe_tup (pa_cons pe_bl (pa_cons pe_int (pa_cons pe_int pa_nil)))) (pg_tupK (n := 3) (K := K) (by rfl) (by rfl) (pgs_cons (pg_name (i := 2) sc_Machine__chain.nd rfl (Or.inl rfl)) (pgs_cons (pg_name (i := 3) sc_Machine__chain.nd rfl (Or.inl rfl)) (pgs_cons (pg_name (i := 4) sc_Machine__chain.nd rfl (Or.inl rfl)) pgs_nil)))))
    (pss_cons (ps_for PassesOwn.never rfl (pi_listK (K := K) (by rfl) (pv 1)) (pg_tupK (n := 3) (K := K) (by rfl) (by rfl) (pgs_cons (pg_name (i := 5) sc_Machine__chain.nd rfl (Or.inl rfl)) (pgs_cons (pg_name (i := 6) sc_Machine__chain.nd rfl (Or.inl rfl)) (pgs_cons (pg_name (i := 7) sc_Machine__chain.nd rfl (Or.inl rfl)) pgs_nil))))
    (pss_cons (ps_expr (pe_md T.cl G__link (hr.mono (by first | decide | omega)) (pv 0) (pa_cons (pv 4) (pa_cons (pv 6) pa_nil))))
    (pss_cons (ps_set (i := 3) sc_Machine__chain.nd rfl (Or.inl rfl) (pe_ifExp (pt_val (pv 2)) (pe_op op_or (pv 3) (pv 6)) (pv 3)))
    (pss_cons (ps_set (i := 4) sc_Machine__chain.nd rfl (Or.inl rfl) (pe_ifExp (pt_truthK (K := K) (by rfl) (pv 5)) (pe_op op_or (pv 4) (pv 7)) (pv 7)))
    (pss_one (ps_set (i := 2) sc_Machine__chain.nd rfl (Or.inl rfl) (pe_and (pv 2) (pe_one (pv 5)))))))))
    (pss_one (ps_ret (pe_tup (pa_cons (pv 2) (pa_cons (pv 3) (pa_cons (pv 4) pa_nil)))))))), ?_⟩
    walk_at "go"
    refine ⟨by show 3 ≤ sizeLine; decide, fun p0 hp0 => ?_⟩
    walk_at "go"
    refine rd_gtup (SqT.of upd_same) rfl ?_
    walk_at "go"
    have M0 := M.lay (o := .tup [.bl true, .int 0, .int 0]) hp0
    have k0 : KM d l H (upd H p0 (.tup [.bl true, .int 0, .int 0])) := KM.refl.lay hp0
    have hl : xs.length = ps.length := by rw [ht.length, List.length_map]
    have nd : q ≠ d := ne_of hq M.d (by intro z; cases z)
    have lst : ∀ H', KM d l H H' → SqL K H' q xs := fun H' kk => SqL.of (kk q _ nd nl hq)
    refine ⟨q, rfl, ⟨_, lst _ k0⟩, for_list (K := K) (a := q) (xs := xs) (fun i σ H' => ∃ (x5 x6 x7 : Option V) (s : List Nat × Pc), s = (ps.take i).foldl chnB (f, true, 0, 0) ∧ σ = [some (.ref m), some (.ref q), some (.bl s.2.1), some (vn s.2.2.1), some (vn s.2.2.2), x5, x6, x7] ∧ MS C m d l al s.1 r H' ∧ KM d l H H') ?_ (fun i σ H' _ ⟨_, _, _, _, _, _, _, e⟩ => lst _ e) ?_ ?_⟩
    · exact ⟨_, _, _, _, rfl, rfl, M0, k0⟩
    · rintro i y σ H' hi ⟨x5, x6, x7, s, es, rfl, M1, k1⟩
      obtain ⟨x, hx, tx⟩ := pcs_get (ht.ts (M.ts k1)) hi
      obtain ⟨t, rfl, et⟩ := pc_at tx
      have hlen : s.1.length = f.length := by rw [es]; exact chnF_len f (ps.take i)
      refine rd_gtup (SqT.of et) rfl ?_
      walk_at "go"
      refine M1.me ?_
      walk_at "go"
      refine use_link M1 (by omega) fun H2 M2 k2 => ?_
      walk_at "go"
      have fin : ∀ (σ' : St) (x5 x6 x7 : Option V), σ' = [some (.ref m), some (.ref q), some (.bl (chnB s x).2.1), some (vn (chnB s x).2.2.1), some (vn (chnB s x).2.2.2), x5, x6, x7] →
          ∃ (x5 x6 x7 : Option V) (s' : List Nat × Pc), s' = (ps.take (i + 1)).foldl chnB (f, true, 0, 0) ∧ σ' = [some (.ref m), some (.ref q), some (.bl s'.2.1), some (vn s'.2.2.1), some (vn s'.2.2.2), x5, x6, x7] ∧ MS C m d l al s'.1 r H2 ∧ KM d l H H2 :=
        fun σ' x5 x6 x7 e => ⟨x5, x6, x7, chnB s x, by rw [take_snoc hx, List.foldl_append, ← es]; rfl, e, M2, k1.trans k2⟩
      obtain ⟨g, e, F, L⟩ := s
      obtain ⟨e2, F2, L2⟩ := x
      cases e <;> cases e2 <;> (
        walk_at "go"
        try rw [bor_n]
        walk_at "go"
        refine ⟨_, rfl, ?_⟩
        walk_at "go"
        try rw [bor_n]
        walk_at "go"
        exact fin _ _ _ _ rfl)
    · rintro σ H' ⟨x5, x6, x7, s, es, rfl, M1, k1⟩
      rw [hl, List.take_length] at es
      subst es
      walk_at "go"
      exact ⟨by show 3 ≤ sizeLine; decide, fun p hp => by
        walk_at "go"
        exact k p _ (M1.lay hp) (k1.lay' hp) (k1.free M1 hp) upd_same⟩
end

end Cs
namespace Cs
open PySem L2
open PyProof.Rows (envOfC)
/-! the mirror of is_pattern over data -/
abbrev kS (s : String) : Str := Str.ofString s
def isStr : PyData → Bool | .str _ => true | _ => false
def isTup : PyData → Bool | .tuple _ => true | _ => false
def isIntB : PyData → Bool | .int _ => true | .bool _ => true | _ => false
def isBool : PyData → Bool | .bool _ => true | _ => false
theorem tyx_lst {K : PySem.W.Frag} {H : Hp} {a : Addr} {xs : List V} (h : SqL K H a xs) : TyX K H (.ref a) (.type "list") := by
  rcases h with (h | ⟨o, h⟩) | ⟨o, its, n, h, c, _⟩
  · exact .base (.lst h)
  · exact .base (.frz h)
  · exact .kList h c
theorem tyx_tup {K : PySem.W.Frag} {H : Hp} {a : Addr} {xs : List V} (h : SqT K H a xs) : TyX K H (.ref a) (.type "tuple") := by
  rcases h with (h | ⟨o, h⟩) | ⟨o, its, n, h, c, _⟩
  · exact .base (.tup h)
  · exact .fTuple h
  · exact .kTuple h c
section
variable {K : PySem.W.Frag} {H : Hp} {Q : VK} {v : V} {d : PyData}
theorem rd_isStr (h : Dp K H v d) (q : Q (.bl (isStr d)) H) : rIsi K [v, .ty "str"] H Q := by
  cases h with
  | non => exact rd_isi (.ty _) (.base .non) (kit_ty (b := "str") (r := false) (by decide +kernel)) q
  | bl b => exact rd_isi (.ty _) (.base (.bl b)) (kit_ty (b := "str") (r := false) (by decide +kernel)) q
  | int i => exact rd_isi (.ty _) (.base (.int i)) (kit_ty (b := "str") (r := false) (by decide +kernel)) q
  | str x => exact rd_isi (.ty _) (.base (.str x)) (kit_ty (b := "str") (r := true) (by decide +kernel)) q
  | lst e _ => exact rd_isi (.ty _) (tyx_lst e) (kit_ty (b := "str") (r := false) (by decide +kernel)) q
  | tup e _ => exact rd_isi (.ty _) (tyx_tup e) (kit_ty (b := "str") (r := false) (by decide +kernel)) q
theorem rd_isTup (h : Dp K H v d) (q : Q (.bl (isTup d)) H) : rIsi K [v, .ty "tuple"] H Q := by
  cases h with
  | non => exact rd_isi (.ty _) (.base .non) (kit_ty (b := "tuple") (r := false) (by decide +kernel)) q
  | bl b => exact rd_isi (.ty _) (.base (.bl b)) (kit_ty (b := "tuple") (r := false) (by decide +kernel)) q
  | int i => exact rd_isi (.ty _) (.base (.int i)) (kit_ty (b := "tuple") (r := false) (by decide +kernel)) q
  | str x => exact rd_isi (.ty _) (.base (.str x)) (kit_ty (b := "tuple") (r := false) (by decide +kernel)) q
  | lst e _ => exact rd_isi (.ty _) (tyx_lst e) (kit_ty (b := "tuple") (r := false) (by decide +kernel)) q
  | tup e _ => exact rd_isi (.ty _) (tyx_tup e) (kit_ty (b := "tuple") (r := true) (by decide +kernel)) q
theorem rd_isInt (h : Dp K H v d) (q : Q (.bl (isIntB d)) H) : rIsi K [v, .ty "int"] H Q := by
  cases h with
  | non => exact rd_isi (.ty _) (.base .non) (kit_ty (b := "int") (r := false) (by decide +kernel)) q
  | bl b => exact rd_isi (.ty _) (.base (.bl b)) (kit_ty (b := "int") (r := true) (by decide +kernel)) q
  | int i => exact rd_isi (.ty _) (.base (.int i)) (kit_ty (b := "int") (r := true) (by decide +kernel)) q
  | str x => exact rd_isi (.ty _) (.base (.str x)) (kit_ty (b := "int") (r := false) (by decide +kernel)) q
  | lst e _ => exact rd_isi (.ty _) (tyx_lst e) (kit_ty (b := "int") (r := false) (by decide +kernel)) q
  | tup e _ => exact rd_isi (.ty _) (tyx_tup e) (kit_ty (b := "int") (r := false) (by decide +kernel)) q
theorem rd_isBool (h : Dp K H v d) (q : Q (.bl (isBool d)) H) : rIsi K [v, .ty "bool"] H Q := by
  cases h with
  | non => exact rd_isi (.ty _) (.base .non) (kit_ty (b := "bool") (r := false) (by decide +kernel)) q
  | bl b => exact rd_isi (.ty _) (.base (.bl b)) (kit_ty (b := "bool") (r := true) (by decide +kernel)) q
  | int i => exact rd_isi (.ty _) (.base (.int i)) (kit_ty (b := "bool") (r := false) (by decide +kernel)) q
  | str x => exact rd_isi (.ty _) (.base (.str x)) (kit_ty (b := "bool") (r := false) (by decide +kernel)) q
  | lst e _ => exact rd_isi (.ty _) (tyx_lst e) (kit_ty (b := "bool") (r := false) (by decide +kernel)) q
  | tup e _ => exact rd_isi (.ty _) (tyx_tup e) (kit_ty (b := "bool") (r := false) (by decide +kernel)) q
theorem rd_isBl {b : Bool} (q : Q (.bl true) H) : rIsi K [.bl b, .ty "bool"] H Q := rd_isBool (.bl b) q
end
/-- an int, no bool, from lo to hi -/
def mWithin (lo hi : Int) : PyData → Bool
  | .int i => decide (lo ≤ i) && decide (i ≤ hi)
  | _ => false
def mHigh (l : Int) : PyData → Bool
  | .none => true
  | d => mWithin l 4 d
def mRange (lo hi : PyData) : Bool := match lo with
  | .int l => mWithin 0 4 (.int l) && mHigh l hi
  | _ => false
/-- a text of distinct characters of the alphabet in its order -/
def mSel (al : List Nat) : PyData → Bool
  | .str x => decide (x = S (al.filter fun c => decide (c ∈ x.cps.toList)))
  | _ => false
def mOne (al : List Nat) : List PyData → Bool
  | [p] => mSel al p
  | _ => false
def mThree : List PyData → Bool
  | [_, lo, hi] => mRange lo hi
  | _ => false
/-- an expression as far as can be told without its parts -/
def mWF (al : List Nat) : PyData → Bool
  | .tuple (.str w :: ps) =>
    if w = kS "set" then mOne al ps
    else if w = kS "not" then decide (ps.length = 1)
    else if w = kS "again" then mThree ps
    else decide (w = kS "row") || decide (w = kS "any") || decide (w = kS "all")
  | _ => false
def mParts : PyData → List PyData
  | .tuple (.str w :: ps) => if w = kS "set" then [] else if w = kS "again" then ps.take 1 else ps
  | _ => []
theorem mWF_eq (al : List Nat) (w : Str) (ps : List PyData) : mWF al (.tuple (.str w :: ps)) = if w = kS "set" then mOne al ps else if w = kS "not" then decide (ps.length = 1) else if w = kS "again" then mThree ps else (decide (w = kS "row") || decide (w = kS "any") || decide (w = kS "all")) := rfl
theorem mParts_eq (w : Str) (ps : List PyData) : mParts (.tuple (.str w :: ps)) = if w = kS "set" then [] else if w = kS "again" then ps.take 1 else ps := rfl

end Cs
namespace Cs
open PySem L2
open PyProof.Rows (envOfC)
/-! patterns as values -/
def hiD : Option Nat → PyData
  | none => .none
  | some h => .int (h : Nat)
def hiV : Option Nat → V
  | none => .non
  | some h => vn h
theorem hi_val {H : Hp} {v : V} {hi : Option Nat} (h : Tp H v (hiD hi)) : v = hiV hi := by
  cases hi with
  | none => cases h; rfl
  | some h' => cases h; rfl
mutual
def Pt.d : Pt → PyData
  | .set cs => .tuple [.str (kS "set"), .str (S cs)]
  | .row ps => .tuple (.str (kS "row") :: Pt.ds ps)
  | .any ps => .tuple (.str (kS "any") :: Pt.ds ps)
  | .all ps => .tuple (.str (kS "all") :: Pt.ds ps)
  | .no p => .tuple [.str (kS "not"), Pt.d p]
  | .again p lo hi => .tuple [.str (kS "again"), Pt.d p, .int (lo : Nat), hiD hi]
def Pt.ds : List Pt → List PyData
  | [] => []
  | p :: ps => Pt.d p :: Pt.ds ps
end
theorem Pt.ds_eq : ∀ ps : List Pt, Pt.ds ps = ps.map Pt.d
  | [] => rfl
  | p :: ps => by rw [Pt.ds, List.map_cons, Pt.ds_eq ps]
mutual
def Pt.wd : Pt → Nat
  | .set _ => 1
  | .row ps => Pt.wds ps
  | .any ps => Pt.wds ps
  | .all ps => Pt.wds ps
  | .no p => Pt.wd p
  | .again p lo hi => match hi with | none => Pt.wd p * (lo + 1) | some h => Pt.wd p * h
def Pt.wds : List Pt → Nat
  | [] => 0
  | p :: ps => Pt.wd p + Pt.wds ps
end
theorem Pt.wds_eq : ∀ ps : List Pt, Pt.wds ps = (ps.map Pt.wd).sum
  | [] => rfl
  | p :: ps => by rw [Pt.wds, List.map_cons, List.sum_cons, Pt.wds_eq ps]
/-- a plain pattern of a depth of at most n, over al -/
def Pt.Pl (al : List Nat) : Nat → Pt → Prop
  | _, .set cs => ∀ c ∈ cs, c ∈ al
  | n + 1, .row ps => ps.length ≤ 60 ∧ ∀ p ∈ ps, Pt.Pl al n p
  | n + 1, .any ps => ps.length ≤ 60 ∧ ∀ p ∈ ps, Pt.Pl al n p
  | n + 1, .again p lo hi => Pt.Pl al n p ∧ lo ≤ 60 ∧ ∀ h, hi = some h → lo ≤ h ∧ h ≤ 60
  | _, _ => False
theorem Tp.tupE {H : Hp} {v : V} {ds : List PyData} (h : Tp H v (.tuple ds)) : ∃ a xs, v = .ref a ∧ H a = some (.tup xs) ∧ TpAll H xs ds := by
  cases h with
  | tup e t => exact ⟨_, _, rfl, e, t⟩
theorem TpAll.consE {H : Hp} {xs : List V} {d : PyData} {ds : List PyData} (h : TpAll H xs (d :: ds)) : ∃ x ys, xs = x :: ys ∧ Tp H x d ∧ TpAll H ys ds := by
  cases h with
  | cons a t => exact ⟨_, _, rfl, a, t⟩
theorem TpAll.nilE {H : Hp} {xs : List V} (h : TpAll H xs []) : xs = [] := by cases h; rfl
theorem Tp.strE {H : Hp} {v : V} {x : Str} (h : Tp H v (.str x)) : v = .str x := by cases h; rfl
theorem Tp.intE {H : Hp} {v : V} {x : Int} (h : Tp H v (.int x)) : v = .int x := by cases h; rfl
theorem Tp.nonE {H : Hp} {v : V} (h : Tp H v .none) : v = .non := by cases h; rfl
/-- what a call of _piece leaves -/
structure PR (C m d l : Addr) (al f : List Nat) (r : Nat → Nat) (H : Hp) (wd : Nat) (A : Lg) (t : Addr) (H' : Hp) : Prop where
  ex : ∃ (f' : List Nat) (r' : Nat → Nat) (x : Pc), MS C m d l al f' r' H' ∧ KM d l H H' ∧ H t = none ∧ H' t = some (.tup [.bl x.1, vn x.2.1, vn x.2.2]) ∧
    Grow f f' r r' ∧ Mach f' r' ∧ POk f' f.length f'.length x.2.1 x.2.2 ∧ (∀ w, PL f' r' x.1 x.2.1 x.2.2 w ↔ A w) ∧ f'.length ≤ f.length + wd
/-- what calls of _piece leave in the list at D, one for each of As -/
structure PRs (C m d l : Addr) (al f : List Nat) (r : Nat → Nat) (H : Hp) (wd : Nat) (As : List Lg) (D : Addr) (f' : List Nat) (r' : Nat → Nat) (xs : List V) (ps : List Pc) (H' : Hp) : Prop where
  ms : MS C m d l al f' r' H'
  km : KM d l H H'
  D : H' D = some (.lst xs)
  t : TpAll H' xs (ps.map dPc)
  g : Grow f f' r r'
  M : Mach f' r'
  p : Pcs f' r' f.length ps f'.length As
  len : f'.length ≤ f.length + wd
section
variable {C m d l D : Addr} {al f f' : List Nat} {r r' : Nat → Nat} {H H' H2 : Hp} {wd wd2 : Nat} {As : List Lg} {A : Lg} {xs : List V} {ps : List Pc} {t : Addr}
theorem PRs.start (M : MS C m d l al f r H) (Mc : Mach f r) (hD : H D = none) : PRs C m d l al f r H 0 [] D f r [] [] (upd H D (.lst [])) :=
  ⟨M.lay hD, KM.refl.lay hD, upd_same, .nil, .refl, Mc, .nil, Nat.le_refl _⟩
theorem PRs.xs_len (h : PRs C m d l al f r H wd As D f' r' xs ps H') : xs.length = As.length := by
  rw [h.t.length, List.length_map, h.p.length]
theorem PRs.step (hD : H D = none) (h : PRs C m d l al f r H wd As D f' r' xs ps H') (M : MS C m d l al f r H) (q : PR C m d l al f' r' H' wd2 A t H2) :
    H2 D = some (.lst xs) ∧ ∃ f2 r2 ps2, PRs C m d l al f r H (wd + wd2) (As ++ [A]) D f2 r2 (xs ++ [.ref t]) ps2 (upd H2 D (.lst (xs ++ [.ref t]))) := by
  obtain ⟨f2, r2, x, M2, k2, ht, et, g2, Mc2, p2, q2, l2⟩ := q.ex
  have nD := M.free hD
  have eD : H2 D = some (.lst xs) := k2 D _ nD.1 nD.2.1 h.D
  have tDs : TS H2 (upd H2 D (.lst (xs ++ [.ref t]))) := TS.set eD
  have t2 : TS H' H2 := h.ms.ts k2
  refine ⟨eD, f2, r2, ps ++ [x], ?_, (h.km.trans k2).layD hD, upd_same, ?_, h.g.trans g2, Mc2, ?_, by have := h.len; omega⟩
  · obtain ⟨dx, e⟩ := M2.m
    exact ⟨⟨dx, by rw [upd_ne nD.2.2.symm]; exact e⟩, by rw [upd_ne nD.1.symm]; exact M2.d, by rw [upd_ne nD.2.1.symm]; exact M2.l⟩
  · rw [List.map_append]
    refine ((h.t.ts t2).ts tDs).app (.cons ((pc_mk et).ts tDs) .nil)
  · exact (h.p.agr (g2.agr (Nat.le_refl _))).snoc p2 q2
end

end Cs
namespace Cs
open PySem L2
open PyProof.Rows (envOfC)
def sp_piece (C : Addr) (n : Nat) : Sp := fun vs H Q _ => ∃ (m d l : Addr) (al f : List Nat) (r : Nat → Nat) (v : V) (p : Pt), vs = [.ref m, v] ∧ MS C m d l al f r H ∧ Mach f r ∧ al.length ≤ 100 ∧ p.Pl al n ∧ Tp H v p.d ∧ f.length + p.wd ≤ 800 ∧
  ∀ t H', PR C m d l al f r H p.wd p.L t H' → Q (.ref t) H'
theorem use_piece {C m d l : Addr} {al f : List Nat} {r : Nat → Nat} {v : V} {p : Pt} {n : Nat} {H : Hp} {Q : VK} {E : XK} (M : MS C m d l al f r H) (Mc : Mach f r) (hL : al.length ≤ 100) (hp : p.Pl al n) (hv : Tp H v p.d) (hw : f.length + p.wd ≤ 800)
    (k : ∀ t H', PR C m d l al f r H p.wd p.L t H' → Q (.ref t) H') : sp_piece C n [.ref m, v] H Q E := ⟨m, d, l, al, f, r, v, p, rfl, M, Mc, hL, hp, hv, hw, k⟩
def sp_loop (C : Addr) (n : Nat) : Sp := fun vs H Q _ => ∃ (m d l : Addr) (al f : List Nat) (r : Nat → Nat) (v : V) (p : Pt), vs = [.ref m, v] ∧ MS C m d l al f r H ∧ Mach f r ∧ al.length ≤ 100 ∧ p.Pl al n ∧ Tp H v p.d ∧ f.length + p.wd ≤ 800 ∧
  ∀ t H', PR C m d l al f r H p.wd (fun w => ∃ j, Pw p.L j w) t H' → Q (.ref t) H'
theorem use_loop {C m d l : Addr} {al f : List Nat} {r : Nat → Nat} {v : V} {p : Pt} {n : Nat} {H : Hp} {Q : VK} {E : XK} (M : MS C m d l al f r H) (Mc : Mach f r) (hL : al.length ≤ 100) (hp : p.Pl al n) (hv : Tp H v p.d) (hw : f.length + p.wd ≤ 800)
    (k : ∀ t H', PR C m d l al f r H p.wd (fun w => ∃ j, Pw p.L j w) t H' → Q (.ref t) H') : sp_loop C n [.ref m, v] H Q E := ⟨m, d, l, al, f, r, v, p, rfl, M, Mc, hL, hp, hv, hw, k⟩
section
variable {P : Program} {w : World} {K : PySem.W.Frag} {mg : Str → Option Value} {base : Heap}
theorem ok_loop {C : Addr} {n k : Nat} (T : MTxt K mg C) (G__link : Mtd P w K mg base 1 C "_link" ["self", "before", "after"] (sp_link C)) (G__piece : Mtd P w K mg base (k + 1) C "_piece" ["self", "pattern"] (sp_piece C n)) (F : AtM K C "_loop" "Machine._loop" s_Machine__loop ["self", "part"]) : Mtd P w K mg base (k + 2) C "_loop" ["self", "part"] (sp_loop C n) := by
  refine F.ok (k := k + 1) sc_Machine__loop (fun vs H Q E h => ?_) (fun f cdv A outer s H vs Q E hr h => ?_)
  · obtain ⟨m, d, l, al, f, r, v, p, rfl, _⟩ := h
    rfl
  · obtain ⟨m, d, l, al, f, r, v, p, rfl, M, Mc, hL, hp, hv, hw, kq⟩ := h
    refine ⟨_, (pss_cons (ps_asg (pe_md T.cl G__piece (hr.mono (by first | decide | omega)) (pv 0) (pa_cons (pv 1) pa_nil)) (pg_tupK (n := 3) (K := K) (by rfl) (by rfl) (pgs_cons (pg_name (i := 2) sc_Machine__loop.nd rfl (Or.inl rfl)) (pgs_cons (pg_name (i := 3) sc_Machine__loop.nd rfl (Or.inl rfl)) (pgs_cons (pg_name (i := 4) sc_Machine__loop.nd rfl (Or.inl rfl)) pgs_nil)))))
    (pss_cons (ps_expr (pe_md T.cl G__link (hr.mono (by first | decide | omega)) (pv 0) (pa_cons (pv 4) (pa_cons (pv 3) pa_nil))))
    (pss_one (ps_ret (pe_tup (pa_cons pe_bl (pa_cons (pv 3) (pa_cons (pv 4) pa_nil)))))))), ?_⟩
    walk_at "go"
    refine M.me ?_
    walk_at "go"
    refine use_piece M Mc hL hp hv hw fun t H1 q => ?_
    obtain ⟨f1, r1, ⟨e, F, L⟩, M1, k1, ht, et, g1, Mc1, p1, q1, l1⟩ := q.ex
    walk_at "go"
    refine rd_gtup (SqT.of et) rfl ?_
    walk_at "go"
    refine M1.me ?_
    walk_at "go"
    refine use_link M1 (by omega) fun H2 M2 k2 => ?_
    walk_at "go"
    refine ⟨by show 3 ≤ sizeLine; decide, fun p' hp' => ?_⟩
    walk_at "go"
    obtain ⟨p2, q2⟩ := loop_step p1 (Nat.le_refl _) q1
    have one := Mc.one
    refine kq _ _ ⟨linkF f1 L F, r1, (true, F, L), M2.lay hp', (k1.trans k2).lay' hp', (k1.trans k2).free M2 hp', upd_same, Grow.link (fun j hj => (p1.L j hj).1) (by have := g1.len; omega) rfl g1, Mc1.link (fun j hj => p1.F j hj) (by omega) (Nat.le_refl _), ?_, q2, ?_⟩
    · rw [linkF_len]; exact p2
    · rw [linkF_len]; exact l1
end

end Cs
namespace Cs
open PySem L2
open PyProof.Rows (envOfC)
def sp_copies (C : Addr) (n : Nat) : Sp := fun vs H Q _ => ∃ (m d l : Addr) (al f : List Nat) (r : Nat → Nat) (v u : V) (p : Pt) (lo : Nat) (hi : Option Nat), vs = [.ref m, v, vn lo, u] ∧ MS C m d l al f r H ∧ Mach f r ∧ al.length ≤ 100 ∧ p.Pl al n ∧ Tp H v p.d ∧ f.length + (Pt.again p lo hi).wd ≤ 800 ∧ lo ≤ 60 ∧ (∀ h, hi = some h → lo ≤ h ∧ h ≤ 60) ∧ u = hiV hi ∧
  ∀ (q : Addr) (H' : Hp) (As : List Lg) (f' : List Nat) (r' : Nat → Nat) (xs : List V) (ps : List Pc), H q = none → (∀ w, RowL As w ↔ (Pt.again p lo hi).L w) → PRs C m d l al f r H (Pt.again p lo hi).wd As q f' r' xs ps H' → Q (.ref q) H'
section
variable {P : Program} {w : World} {K : PySem.W.Frag} {mg : Str → Option Value} {base : Heap}
theorem ok_copies (B : Blt mg) {C : Addr} {n k : Nat} (T : MTxt K mg C) (G__piece : Mtd P w K mg base (k + 1) C "_piece" ["self", "pattern"] (sp_piece C n)) (G__loop : Mtd P w K mg base (k + 2) C "_loop" ["self", "part"] (sp_loop C n))
    (F : AtM K C "_copies" "Machine._copies" s_Machine__copies ["self", "part", "low", "high"]) : Mtd P w K mg base (k + 3) C "_copies" ["self", "part", "low", "high"] (sp_copies C n) := by
  refine F.ok (k := k + 2) sc_Machine__copies (fun vs H Q E h => ?_) (fun f cdv A outer s H vs Q E hr h => ?_)
  · obtain ⟨m, d, l, al, f, r, v, u, p, lo, hi, rfl, _⟩ := h
    rfl
  · obtain ⟨m, d, l, al, f, r, v, u, p, lo, hi, rfl, M, Mc, hL, hp, hv, hw, hlo, hhi, hu, kq⟩ := h
    refine ⟨_, (pss_cons (ps_setLc (i := 4) (own := [("_", 6)]) rfl sc_Machine__copies.nd rfl rfl (sw_true rfl rfl rfl (by decide +kernel)) (pi_range1 (by rfl) B.range (pa_cons (pv 2) pa_nil)) (blkOk_by (N := ["self", "part", "low", "high", "needed", "spare", "_", "first", "last"]) (sc := defScope s_Machine__copies) (by decide +kernel)) (fun _ _ _ _ _ => (pg_name (i := 6) sc_Machine__copies.nd rfl (Or.inl rfl))) (fun _ _ _ _ _ => pts_nil) (fun _ _ _ _ _ => (pe_md T.cl G__piece (hr.mono (by first | decide | omega)) (pv 0) (pa_cons (pv 1) pa_nil))))
    (pss_cons (ps_if (pt_cmpR op_isN (pv 3) pe_non (nomark _))
    (pss_one (ps_ret (pe_op op_cat (pv 4) (pe_lst (pa_cons (pe_md T.cl G__loop (hr.mono (by first | decide | omega)) (pv 0) (pa_cons (pv 1) pa_nil)) pa_nil)))))
    pss_nil)
    (pss_cons (ps_setLc (i := 5) (own := [("_", 6)]) rfl sc_Machine__copies.nd rfl rfl (sw_true rfl rfl rfl (by decide +kernel)) (pi_range1 (by rfl) B.range (pa_cons (pe_op op_sub (pv 3) (pv 2)) pa_nil)) (blkOk_by (N := ["self", "part", "low", "high", "needed", "spare", "_", "first", "last"]) (sc := defScope s_Machine__copies) (by decide +kernel)) (fun _ _ _ _ _ => (pg_name (i := 6) sc_Machine__copies.nd rfl (Or.inl rfl))) (fun _ _ _ _ _ => pts_nil) (fun _ _ _ _ _ => (pe_md T.cl G__piece (hr.mono (by first | decide | omega)) (pv 0) (pa_cons (pv 1) pa_nil))))
    (pss_one (ps_ret (pe_op op_cat (pv 4) (pe_lc (own := [("_", 6), ("first", 7), ("last", 8)]) rfl sc_Machine__copies.nd (pi_listK (K := K) (by rfl) (pv 5)) (blkOk_by (N := ["self", "part", "low", "high", "needed", "spare", "_", "first", "last"]) (sc := defScope s_Machine__copies) (by decide +kernel)) (fun _ _ _ _ _ => (pg_tupK (n := 3) (K := K) (by rfl) (by rfl) (pgs_cons (pg_name (i := 6) sc_Machine__copies.nd rfl (Or.inl rfl)) (pgs_cons (pg_name (i := 7) sc_Machine__copies.nd rfl (Or.inl rfl)) (pgs_cons (pg_name (i := 8) sc_Machine__copies.nd rfl (Or.inl rfl)) pgs_nil))))) (fun _ _ _ _ _ => pts_nil) (fun _ _ _ _ _ => (pe_tup (pa_cons pe_bl (pa_cons (pv 7) (pa_cons (pv 8) pa_nil)))))))))))), ?_⟩
    walk_at "go"
    refine rd_rng1j (by omega) (by omega) ?_
    rw [Int.toNat_natCast]
    intro D hD
    have wlo : lo * p.wd ≤ (Pt.again p lo hi).wd := by
      cases hi with
      | none => rw [Pt.wd, Nat.mul_comm]; exact Nat.mul_le_mul_left _ (by omega)
      | some h => rw [Pt.wd, Nat.mul_comm]; exact Nat.mul_le_mul_left _ (hhi h rfl).1
    refine lc_range (lo := 0) (n := lo) (fun i H' => ∃ f' r' xs ps, PRs C m d l al f r H (i * p.wd) (List.replicate i p.L) D f' r' xs ps H') ?_ ?_ ?_
    · exact ⟨f, r, [], [], by rw [Nat.zero_mul]; exact PRs.start M Mc hD⟩
    · rintro i H1 hi1 ⟨f1, r1, xs, ps, h1⟩
      walk_at "go"
      refine ⟨rfl, ?_⟩
      walk_at "go"
      refine h1.ms.me ?_
      walk_at "go"
      have hmul : (i + 1) * p.wd ≤ lo * p.wd := Nat.mul_le_mul_right _ hi1
      rw [Nat.succ_mul] at hmul
      refine use_piece h1.ms h1.M hL hp (hv.ts (M.ts h1.km)) (by have := h1.len; omega) fun t H2 q => ?_
      obtain ⟨eD, f2, r2, ps2, h2⟩ := h1.step hD M q
      refine ⟨xs, eD, by rw [h1.xs_len, List.length_replicate, PySem.sizeLine_eq]; omega, f2, r2, xs ++ [.ref t], ps2, ?_⟩
      rw [List.replicate_succ', Nat.succ_mul]
      exact h2
    · rintro H1 ⟨f1, r1, xs, ps, h1⟩
      walk_at "go"
      have nD := M.free hD
      cases hi with
      | none =>
        replace hu : u = .non := hu
        subst hu
        rw [Pt.wd] at hw
        refine ⟨rfl, ?_⟩
        walk_at "go"
        refine ite2 (fun _ => ?_) (fun z => absurd (decide_eq_true rfl) z)
        walk_at "go"
        refine h1.ms.me ?_
        walk_at "go"
        have e1 : lo * p.wd + p.wd = p.wd * (lo + 1) := by rw [Nat.mul_succ, Nat.mul_comm]
        refine use_loop h1.ms h1.M hL hp (hv.ts (M.ts h1.km)) (by have := h1.len; omega) fun t H2 q => ?_
        walk_at "go"
        obtain ⟨eD, f2, r2, ps2, h2⟩ := h1.step hD M q
        obtain ⟨f3, r3, x, M3, k3, ht, et, g3, Mc3, p3, q3, l3⟩ := q.ex
        refine ⟨by show 1 ≤ sizeLine; decide, fun L1 hL1 => ?_⟩
        walk_at "go"
        have hxs : xs.length = lo := by rw [h1.xs_len, List.length_replicate]
        have nDL : D ≠ L1 := fun z => by rw [← z, eD] at hL1; cases hL1
        refine ⟨D, L1, xs, [.ref t], rfl, rfl, by rw [upd_ne nDL]; exact eD, upd_same, by rw [hxs, PySem.sizeLine_eq]; show lo + 1 ≤ _; omega, fun q' hq' => ?_⟩
        walk_at "go"
        have hq2 : H2 q' = none := by
          by_cases z : q' = L1
          · rw [z]; exact hL1
          · rw [upd_ne z] at hq'; exact hq'
        have fr := (h1.km.trans k3).free M3 hq2
        have ts3 : TS H1 (upd (upd H2 L1 (.lst [.ref t])) q' (.lst (xs ++ [.ref t]))) := ((h1.ms.ts k3).trans (TS.lay hL1)).trans (TS.lay hq')
        refine kq q' _ (List.replicate lo p.L ++ [fun w => ∃ j, Pw p.L j w]) f3 r3 (xs ++ [.ref t]) (ps ++ [x]) fr (fun w => again_none w) ⟨(M3.lay hL1).lay hq', (((h1.km.trans k3).lay' hL1).lay' hq'), upd_same, ?_, h1.g.trans g3, Mc3, (h1.p.agr (g3.agr (Nat.le_refl _))).snoc p3 q3, by rw [Pt.wd]; have := h1.len; omega⟩
        rw [List.map_append]
        exact (h1.t.ts ts3).app (.cons ((pc_mk et).ts ((TS.lay hL1).trans (TS.lay hq'))) .nil)
      | some h =>
        replace hu : u = vn h := hu
        subst hu
        obtain ⟨hh1, hh2⟩ := hhi h rfl
        rw [Pt.wd] at hw
        refine ⟨rfl, ?_⟩
        walk_at "go"
        refine ite2 (fun z => nomatch of_decide_eq_true z) (fun _ => ?_)
        walk_at "go"
        refine rd_rng1j (by omega) (by omega) ?_
        rw [show ((h : Int) - (lo : Int)).toNat = h - lo from by omega]
        intro D2 hD2
        have nD2 := h1.ms.free hD2
        have nDD : D ≠ D2 := fun z => by rw [← z, h1.D] at hD2; cases hD2
        have e1 : lo * p.wd + (h - lo) * p.wd = p.wd * h := by rw [← Nat.add_mul, Nat.mul_comm]; congr 1; omega
        refine lc_range (lo := 0) (n := h - lo) (fun i H' => ∃ f' r' ys qs, PRs C m d l al f1 r1 H1 (i * p.wd) (List.replicate i p.L) D2 f' r' ys qs H') ?_ ?_ ?_
        · exact ⟨f1, r1, [], [], by rw [Nat.zero_mul]; exact PRs.start h1.ms h1.M hD2⟩
        · rintro i H2 hi1 ⟨f2, r2, ys, qs, h2⟩
          walk_at "go"
          refine ⟨rfl, ?_⟩
          walk_at "go"
          refine h2.ms.me ?_
          walk_at "go"
          have hmul : (i + 1) * p.wd ≤ (h - lo) * p.wd := Nat.mul_le_mul_right _ hi1
          rw [Nat.succ_mul] at hmul
          refine use_piece h2.ms h2.M hL hp (hv.ts (M.ts (h1.km.trans h2.km))) (by have := h1.len; have := h2.len; omega) fun t H3 q => ?_
          obtain ⟨eD, f3, r3, ps3, h3⟩ := h2.step hD2 h1.ms q
          refine ⟨ys, eD, by rw [h2.xs_len, List.length_replicate, PySem.sizeLine_eq]; omega, f3, r3, ys ++ [.ref t], ps3, ?_⟩
          rw [List.replicate_succ', Nat.succ_mul]
          exact h3
        · rintro H2 ⟨f2, r2, ys, qs, h2⟩
          walk_at "go"
          have eD : H2 D = some (.lst xs) := h2.km D _ nD.1 nD.2.1 h1.D
          refine ⟨D2, rfl, ⟨_, SqL.of h2.D⟩, ?_⟩
          intro D3 hD3
          have nD3 := h2.ms.free hD3
          have n32 : D2 ≠ D3 := fun z => by rw [← z, h2.D] at hD3; cases hD3
          have n31 : D ≠ D3 := fun z => by rw [← z, eD] at hD3; cases hD3
          have hys : ys.length = h - lo := by rw [h2.xs_len, List.length_replicate]
          have hqs : qs.length = ys.length := by rw [h2.t.length, List.length_map]
          refine lc_list (K := K) (a := D2) (xs := ys) (fun i H' => ∃ zs, Same H2 H' ∧ H' D3 = some (.lst zs) ∧ TpAll H' zs (((qs.take i).map fun x => (true, x.2.1, x.2.2)).map dPc) ∧ H2 D3 = none) ?_ ?_ ?_ ?_
          · exact ⟨[], Same.lay hD3, upd_same, .nil, hD3⟩
          · rintro i H' _ ⟨zs, s, _⟩
            exact SqL.of (s _ _ h2.D)
          · rintro i y H' hi2 ⟨zs, s, eD3, tz, n3⟩
            obtain ⟨x, hx, tx⟩ := pcs_get (h2.t.ts (TS.same s)) hi2
            obtain ⟨t, rfl, et⟩ := pc_at tx
            refine rd_gtup (SqT.of et) rfl ?_
            walk_at "go"
            refine ⟨rfl, ?_⟩
            walk_at "go"
            refine ⟨by show 3 ≤ sizeLine; decide, fun t' ht' => ?_⟩
            have n3' : D3 ≠ t' := fun z => by rw [← z, eD3] at ht'; cases ht'
            have hz : zs.length = i := by
              rw [tz.length, List.length_map, List.length_map, List.length_take, hqs]
              have := (List.getElem?_eq_some_iff.mp hi2).1
              omega
            refine ⟨zs, by rw [upd_ne n3']; exact eD3, by rw [hz, PySem.sizeLine_eq]; have := (List.getElem?_eq_some_iff.mp hi2).1; omega, zs ++ [.ref t'], ?_, upd_same, ?_, n3⟩
            · exact Same.lay2 (Same.lay2 s (L2.Same.free s ht')) n3
            · rw [take_snoc hx, List.map_append, List.map_append]
              have tA : TS H' (upd H' t' (.tup [.bl true, vn x.2.1, vn x.2.2])) := TS.lay ht'
              have tB : TS (upd H' t' (.tup [.bl true, vn x.2.1, vn x.2.2])) (upd (upd H' t' (.tup [.bl true, vn x.2.1, vn x.2.2])) D3 (.lst (zs ++ [.ref t']))) := TS.set (by rw [upd_ne n3']; exact eD3)
              exact (tz.ts (tA.trans tB)).app (.cons ((pc_mk (x := (true, x.2.1, x.2.2)) upd_same).ts tB) .nil)
          · rintro H3 ⟨zs, s, eD3, tz, n3⟩
            rw [← hqs, List.take_length] at tz
            walk_at "go"
            have hzs : zs.length = h - lo := by rw [tz.length, List.length_map, List.length_map, hqs, hys]
            have hxs : xs.length = lo := by rw [h1.xs_len, List.length_replicate]
            refine ⟨D, D3, xs, zs, rfl, rfl, s _ _ eD, eD3, by rw [hxs, hzs, PySem.sizeLine_eq]; omega, fun q hq => ?_⟩
            walk_at "go"
            have k3 : KM d l H2 (upd H3 q (.lst (xs ++ zs))) := (KM.of s).lay' hq
            have M3 : MS C m d l al f2 r2 H3 := by
              obtain ⟨dx, e⟩ := h2.ms.m
              exact ⟨⟨dx, s _ _ e⟩, s _ _ h2.ms.d, s _ _ h2.ms.l⟩
            have fr : H q = none := ((h1.km.trans h2.km).trans (KM.of s)).free M3 hq
            refine kq q _ (List.replicate lo p.L ++ (List.replicate (h - lo) p.L).map fun A w => w = [] ∨ A w) f2 r2 (xs ++ zs) (ps ++ qs.map fun x => (true, x.2.1, x.2.2)) fr (fun w => ?_) ⟨M3.lay hq, (h1.km.trans h2.km).trans k3, upd_same, ?_, h1.g.trans h2.g, h2.M, (h1.p.agr (h2.g.agr (Nat.le_refl _))).app h2.p.opt, by rw [Pt.wd]; have := h1.len; have := h2.len; omega⟩
            · rw [List.map_replicate]
              exact again_some hh1 w
            · rw [List.map_append]
              have t1 : TS H1 (upd H3 q (.lst (xs ++ zs))) := (h1.ms.ts h2.km).trans ((TS.same s).trans (TS.lay hq))
              exact (h1.t.ts t1).app (tz.ts (TS.lay hq))
end

end Cs
namespace Cs
open PySem L2
open PyProof.Rows (envOfC)
/-! tuples by their parts -/
theorem Tp.tupI {H : Hp} {v : V} {ds : List PyData} (h : Tp H v (.tuple ds)) : ∃ p xs, v = .ref p ∧ H p = some (.tup xs) ∧ TpAll H xs ds := by
  cases h with
  | tup e h => exact ⟨_, _, rfl, e, h⟩
theorem TpAll.rep {H : Hp} {v : V} {d : PyData} (h : Tp H v d) : ∀ n : Nat, TpAll H (List.replicate n v) (List.replicate n d)
  | 0 => .nil
  | n + 1 => .cons h (TpAll.rep h n)
theorem flat_rep {α : Type} (v : α) : ∀ n : Nat, (List.replicate n [v]).flatten = List.replicate n v
  | 0 => rfl
  | n + 1 => by
    rw [List.replicate_succ, List.flatten_cons, flat_rep v n, List.replicate_succ]; rfl
theorem pick3 {y : V} (h : y ∈ ([V.str (kS "row"), .str (kS "any"), .str (kS "all")] : List V)) : ∃ u : Str, y = .str u ∧ (u = kS "row" ∨ u = kS "any" ∨ u = kS "all") := by
  simp only [List.mem_cons, List.not_mem_nil, or_false] at h
  rcases h with rfl | rfl | rfl
  · exact ⟨_, rfl, .inl rfl⟩
  · exact ⟨_, rfl, .inr (.inl rfl)⟩
  · exact ⟨_, rfl, .inr (.inr rfl)⟩
theorem if_tt {b : Bool} : (if b = true then true else true) = true := by cases b <;> rfl
theorem cut1 {x : V} {xs : List V} : cutV (x :: xs) (some 1) none = xs := by
  unfold cutV
  have e : HT.sIx (x :: xs).length 0 (some 1) = 1 := by
    show HT.sIx (x :: xs).length 0 (some ((1 : Nat) : Int)) = 1
    rw [HT.sIx_nat, List.length_cons]; omega
  rw [e, HT.sIx_none]
  show ((x :: xs).drop 1).take _ = xs
  rw [List.drop_one, List.tail_cons, List.take_of_length_le]
  rw [List.length_cons]; omega

end Cs
namespace Cs
open PySem L2
open PyProof.Rows (envOfC)
def spN : Sp := fun _ _ _ _ => False
theorem AtM.none {P : Program} {w : World} {K : PySem.W.Frag} {mg : Str → Option Value} {base : Heap} {C : Addr} {m q : Str} {st : Stmt} {N ps : List Str} (k : Nat) (F : AtM K C m q st ps) (S : FnScope N ps (defScope st)) : Mtd P w K mg base (k + 1) C m ps spN :=
  F.ok S (fun _ _ _ _ h => h.elim) (fun _ _ _ _ _ _ _ _ _ _ h => h.elim)
def spP (C : Addr) : Nat → Sp
  | 0 => spN
  | n + 1 => sp_piece C n
def spC (C : Addr) : Nat → Sp
  | 0 => spN
  | n + 1 => sp_copies C n
theorem wne {a b : String} (h : kS a ≠ kS b) : ¬ (decide (V.str (kS a) = V.str (kS b)) = true) := fun z => h (V.str.inj (of_decide_eq_true z))
theorem cut1_no {x : V} {xs : List V} {hi : Option Int} : ¬ (HT.sIx (x :: xs).length 0 (some 1) = 0 ∧ HT.sIx (x :: xs).length (x :: xs).length hi = (x :: xs).length) := fun z => by
  have e : HT.sIx (x :: xs).length 0 (some ((1 : Nat) : Int)) = 1 := by rw [HT.sIx_nat, List.length_cons]; omega
  have := z.1
  rw [show (some (1 : Int)) = some ((1 : Nat) : Int) from rfl, e] at this
  omega
theorem Pl_parts {al : List Nat} {n : Nat} {ps : List Pt} (h : (∃ n', n = n' + 1 ∧ ps.length ≤ 60 ∧ ∀ p ∈ ps, Pt.Pl al n' p)) : ps.length ≤ 60 ∧ ∀ p ∈ ps, ∃ n', n = n' + 1 ∧ Pt.Pl al n' p := by
  obtain ⟨n', rfl, h1, h2⟩ := h
  exact ⟨h1, fun p hp => ⟨n', rfl, h2 p hp⟩⟩
section
variable {P : Program} {w : World} {K : PySem.W.Frag} {mg : Str → Option Value} {base : Heap}
theorem ok_piece {C : Addr} {n k : Nat} (T : MTxt K mg C) (G__place : Mtd P w K mg base 1 C "_place" ["self", "characters"] (sp_place C)) (G__choice : Cal P w K mg base 1 "_choice" ["pieces"] (sp_choice K)) (G__chain : Mtd P w K mg base 2 C "_chain" ["self", "pieces"] (sp_chain K C))
    (G__piece : Mtd P w K mg base (k + 1) C "_piece" ["self", "pattern"] (spP C n)) (G__copies : Mtd P w K mg base (k + 3) C "_copies" ["self", "part", "low", "high"] (spC C n))
    (F : AtM K C "_piece" "Machine._piece" s_Machine__piece ["self", "pattern"]) : Mtd P w K mg base (k + 4) C "_piece" ["self", "pattern"] (sp_piece C n) := by
  refine F.ok (k := k + 3) sc_Machine__piece (fun vs H Q E h => ?_) (fun f cdv A outer s H vs Q E hr h => ?_)
  · obtain ⟨m, d, l, al, f, r, v, p, rfl, _⟩ := h
    rfl
  · obtain ⟨m, d, l, al, f, r, v, p, rfl, M, Mc, hL, hp, hv, hw, kq⟩ := h
    refine ⟨_, (pss_cons (ps_set (i := 2) sc_Machine__piece.nd rfl (Or.inl rfl) (pe_ix (ix_tupK (K := K) (by rfl)) (pv 1) pe_int (fun _ _ => rfl)))
    (pss_cons (ps_if (pt_cmpR op_eq (pv 2) pe_str (nomark _))
    (pss_one (ps_ret (pe_md T.cl G__place (hr.mono (by first | decide | omega)) (pv 0) (pa_cons (pe_ix (ix_tupK (K := K) (by rfl)) (pv 1) pe_int (fun _ _ => rfl)) pa_nil))))
    pss_nil)
    (pss_cons (ps_if (pt_cmpR op_eq (pv 2) pe_str (nomark _))
    (pss_one (ps_ret (pe_c G__choice (hr.mono (by first | decide | omega)) (pa_cons (pe_lc (own := [("part", 3)]) rfl sc_Machine__piece.nd (pi_tupK (K := K) (by rfl) (pe_slice (sl_tupAK (K := K) (by rfl)) (pv 1) (po_some pe_int) po_none)) (blkOk_by (N := ["self", "pattern", "word", "part"]) (sc := defScope s_Machine__piece) (by decide +kernel)) (fun _ _ _ _ _ => (pg_name (i := 3) sc_Machine__piece.nd rfl (Or.inl rfl))) (fun _ _ _ _ _ => pts_nil) (fun _ _ _ _ _ => (pe_md T.cl G__piece (hr.mono (by first | decide | omega)) (pv 0) (pa_cons (pv 3) pa_nil)))) pa_nil))))
    pss_nil)
    (pss_cons (ps_if (pt_cmpR op_eq (pv 2) pe_str (nomark _))
    (pss_one (ps_ret (pe_md T.cl G__chain (hr.mono (by first | decide | omega)) (pv 0) (pa_cons (pe_lc (own := [("part", 3)]) rfl sc_Machine__piece.nd (pi_tupK (K := K) (by rfl) (pe_slice (sl_tupAK (K := K) (by rfl)) (pv 1) (po_some pe_int) po_none)) (blkOk_by (N := ["self", "pattern", "word", "part"]) (sc := defScope s_Machine__piece) (by decide +kernel)) (fun _ _ _ _ _ => (pg_name (i := 3) sc_Machine__piece.nd rfl (Or.inl rfl))) (fun _ _ _ _ _ => pts_nil) (fun _ _ _ _ _ => (pe_md T.cl G__piece (hr.mono (by first | decide | omega)) (pv 0) (pa_cons (pv 3) pa_nil)))) pa_nil))))
    pss_nil)
    (pss_one (ps_ret (pe_md T.cl G__chain (hr.mono (by first | decide | omega)) (pv 0) (pa_cons (pe_md T.cl G__copies (hr.mono (by first | decide | omega)) (pv 0) (pa_cons (pe_ix (ix_tupK (K := K) (by rfl)) (pv 1) pe_int (fun _ _ => rfl)) (pa_cons (pe_ix (ix_tupK (K := K) (by rfl)) (pv 1) pe_int (fun _ _ => rfl)) (pa_cons (pe_ix (ix_tupK (K := K) (by rfl)) (pv 1) pe_int (fun _ _ => rfl)) pa_nil)))) pa_nil)))))))), ?_⟩
    walk_at "go"
    have one := Mc.one
    have comp : ∀ (ps : List Pt) (xs : List V), ps.length ≤ 60 → (∀ p ∈ ps, ∃ n', n = n' + 1 ∧ Pt.Pl al n' p) → TpAll H xs (ps.map Pt.d) → f.length + (ps.map Pt.wd).sum ≤ 800 →
        ∀ (H0 : Hp) (i : Nat) (q : Pt) (x : V) (D : Addr) (H1 : Hp) (f1 : List Nat) (r1 : Nat → Nat) (ys : List V) (qs : List Pc) (Q : VK) (E : XK), ps[i]? = some q → xs[i]? = some x → H0 D = none → MS C m d l al f r H0 → TS H H0 → PRs C m d l al f r H0 ((ps.take i).map Pt.wd).sum ((ps.take i).map Pt.L) D f1 r1 ys qs H1 →
        (∀ t H2, H2 D = some (.lst ys) → ys.length < sizeLine → (∃ f2 r2 qs2, PRs C m d l al f r H0 ((ps.take (i + 1)).map Pt.wd).sum ((ps.take (i + 1)).map Pt.L) D f2 r2 (ys ++ [.ref t]) qs2 (upd H2 D (.lst (ys ++ [.ref t])))) → Q (.ref t) H2) → spP C n [.ref m, x] H1 Q E := by
      intro ps xs hpl hps ht hsum H0 i q x D H1 f1 r1 ys qs Q E hq hx hD M0 t0 h1 kk
      obtain ⟨n', rfl, hq'⟩ := hps q (List.mem_of_getElem? hq)
      obtain ⟨dq, h3, h4⟩ := TpAll.get ht hx
      rw [List.getElem?_map, hq] at h3
      cases h3
      have hi : i < ps.length := (List.getElem?_eq_some_iff.mp hq).1
      have hs : ((ps.take (i + 1)).map Pt.wd).sum ≤ (ps.map Pt.wd).sum := by
        have e : ps.map Pt.wd = (ps.take (i + 1)).map Pt.wd ++ (ps.drop (i + 1)).map Pt.wd := by rw [← List.map_append, List.take_append_drop]
        rw [e, List.sum_append]; omega
      have e2 : ((ps.take (i + 1)).map Pt.wd).sum = ((ps.take i).map Pt.wd).sum + q.wd := by rw [take_snoc hq, List.map_append, List.sum_append]; simp
      refine use_piece (E := E) h1.ms h1.M hL hq' (h4.ts (t0.trans (M0.ts h1.km))) (by have := h1.len; omega) fun t H2 pr => ?_
      obtain ⟨eD, f2, r2, qs2, h2⟩ := h1.step hD M0 pr
      refine kk t H2 eD (by rw [h1.xs_len, List.length_map, List.length_take, PySem.sizeLine_eq]; omega) ⟨f2, r2, qs2, ?_⟩
      rw [take_snoc hq, List.map_append, List.map_append, List.sum_append]
      simpa using h2
    cases p with
    | set cs =>
      have hc : ∀ c ∈ cs, c ∈ al := by cases n <;> exact hp
      rw [Pt.wd] at hw
      rw [Pt.d] at hv
      obtain ⟨a, xs, rfl, ea, ht⟩ := hv.tupE
      obtain ⟨x0, xs, rfl, h0, ht⟩ := ht.consE
      obtain ⟨x1, xs, rfl, h1, ht⟩ := ht.consE
      rw [h0.strE, h1.strE, ht.nilE] at ea
      refine rd_ixt (SqT.of ea) (at_of (j := 0) rfl rfl) ?_
      walk_at "go"
      refine ite2 (fun _ => ?_) (fun z => absurd (decide_eq_true rfl) z)
      walk_at "go"
      refine M.me ?_
      walk_at "go"
      refine rd_ixt (SqT.of ea) (at_of (j := 1) rfl rfl) ?_
      walk_at "go"
      refine use_place M (by omega) hL hc fun t H' M' k' ht et => ?_
      walk_at "go"
      obtain ⟨g1, g2, g3, g4⟩ := set_piece (cs := cs) Mc
      refine kq t H' ⟨f ++ [0], _, (false, 2 ^ f.length, 2 ^ f.length), M', k', ht, et, g1, g2, by rw [List.length_append]; exact g3, g4, by rw [Pt.wd]; simp⟩
    | any ps =>
      have hps : ps.length ≤ 60 ∧ ∀ p ∈ ps, ∃ n', n = n' + 1 ∧ Pt.Pl al n' p := Pl_parts (by
        cases n with
        | zero => exact hp.elim
        | succ n => exact ⟨n, rfl, hp.1, hp.2⟩)
      rw [Pt.wd, Pt.wds_eq] at hw
      rw [Pt.d, Pt.ds_eq] at hv
      obtain ⟨a, xs, rfl, ea, ht⟩ := hv.tupE
      obtain ⟨x0, xs, rfl, h0, ht⟩ := ht.consE
      rw [h0.strE] at ea
      refine rd_ixt (SqT.of ea) (at_of (j := 0) rfl rfl) ?_
      walk_at "go"
      refine ite2 (fun z => absurd z (wne (by decide +kernel))) (fun _ => ?_)
      walk_at "go"
      refine ite2 (fun _ => ?_) (fun z => absurd (decide_eq_true rfl) z)
      walk_at "go"
      refine rd_sla (SqT.of ea) (fun z => absurd z cut1_no) (fun _ => ?_)
      rw [cut1]
      intro p0 hp0
      walk_at "go"
      refine ⟨p0, rfl, ⟨_, SqT.of upd_same⟩, ?_⟩
      intro D hD
      have n0 := M.free hp0
      have M0 := M.lay (o := .tup xs) hp0
      have nD := M0.free hD
      have nDp : D ≠ p0 := fun z => by rw [z, upd_same] at hD; cases hD
      have hxl : xs.length = ps.length := by rw [ht.length, List.length_map]
      refine lc_tup (K := K) (a := p0) (xs := xs) (fun i H' => ∃ f1 r1 ys qs, PRs C m d l al f r (upd H p0 (.tup xs)) ((ps.take i).map Pt.wd).sum ((ps.take i).map Pt.L) D f1 r1 ys qs H') ?_ ?_ ?_ ?_
      · exact ⟨f, r, [], [], PRs.start M0 Mc hD⟩
      · rintro i H' _ ⟨f1, r1, ys, qs, h1⟩
        exact SqT.of (h1.km p0 _ n0.1 n0.2.1 upd_same)
      · rintro i x H' hi ⟨f1, r1, ys, qs, h1⟩
        have hi' : i < ps.length := by rw [← hxl]; exact (List.getElem?_eq_some_iff.mp hi).1
        walk_at "go"
        refine ⟨rfl, ?_⟩
        walk_at "go"
        refine h1.ms.me ?_
        walk_at "go"
        refine comp ps xs hps.1 hps.2 ht hw (upd H p0 (.tup xs)) i _ x D H' f1 r1 ys qs _ _ (List.getElem?_eq_getElem hi') hi hD M0 (TS.lay hp0) h1 fun t H2 eD hl hx => ?_
        obtain ⟨f2, r2, qs2, h2⟩ := hx
        exact ⟨ys, eD, hl, f2, r2, ys ++ [.ref t], qs2, h2⟩
      · rintro H1 ⟨f1, r1, ys, qs, h1⟩
        rw [hxl, List.take_length] at h1
        walk_at "go"
        have fin : KM d l H H1 := (KM.refl.lay hp0).trans h1.km
        refine use_choice (SqL.of h1.D) h1.t fun t H2 sm ht et => ?_
        walk_at "go"
        obtain ⟨c1, c2⟩ := choF_ok h1.p
        have M2 : MS C m d l al f1 r1 H2 := by
          obtain ⟨dx, e⟩ := h1.ms.m
          exact ⟨⟨dx, sm _ _ e⟩, sm _ _ h1.ms.d, sm _ _ h1.ms.l⟩
        refine kq t H2 ⟨f1, r1, choF qs, M2, fin.trans (KM.of sm), fin.free h1.ms ht, et, h1.g, h1.M, c1, fun w => (c2 w).trans ?_, by rw [Pt.wd, Pt.wds_eq]; exact h1.len⟩
        rw [Pt.L, Pt.LAny_eq]
    | row ps =>
      have hps : ps.length ≤ 60 ∧ ∀ p ∈ ps, ∃ n', n = n' + 1 ∧ Pt.Pl al n' p := Pl_parts (by
        cases n with
        | zero => exact hp.elim
        | succ n => exact ⟨n, rfl, hp.1, hp.2⟩)
      rw [Pt.wd, Pt.wds_eq] at hw
      rw [Pt.d, Pt.ds_eq] at hv
      obtain ⟨a, xs, rfl, ea, ht⟩ := hv.tupE
      obtain ⟨x0, xs, rfl, h0, ht⟩ := ht.consE
      rw [h0.strE] at ea
      refine rd_ixt (SqT.of ea) (at_of (j := 0) rfl rfl) ?_
      walk_at "go"
      refine ite2 (fun z => absurd z (wne (by decide +kernel))) (fun _ => ?_)
      walk_at "go"
      refine ite2 (fun z => absurd z (wne (by decide +kernel))) (fun _ => ?_)
      walk_at "go"
      refine ite2 (fun _ => ?_) (fun z => absurd (decide_eq_true rfl) z)
      walk_at "go"
      refine M.me ?_
      walk_at "go"
      refine rd_sla (SqT.of ea) (fun z => absurd z cut1_no) (fun _ => ?_)
      rw [cut1]
      intro p0 hp0
      walk_at "go"
      refine ⟨p0, rfl, ⟨_, SqT.of upd_same⟩, ?_⟩
      intro D hD
      have n0 := M.free hp0
      have M0 := M.lay (o := .tup xs) hp0
      have nD := M0.free hD
      have nDp : D ≠ p0 := fun z => by rw [z, upd_same] at hD; cases hD
      have hxl : xs.length = ps.length := by rw [ht.length, List.length_map]
      refine lc_tup (K := K) (a := p0) (xs := xs) (fun i H' => ∃ f1 r1 ys qs, PRs C m d l al f r (upd H p0 (.tup xs)) ((ps.take i).map Pt.wd).sum ((ps.take i).map Pt.L) D f1 r1 ys qs H') ?_ ?_ ?_ ?_
      · exact ⟨f, r, [], [], PRs.start M0 Mc hD⟩
      · rintro i H' _ ⟨f1, r1, ys, qs, h1⟩
        exact SqT.of (h1.km p0 _ n0.1 n0.2.1 upd_same)
      · rintro i x H' hi ⟨f1, r1, ys, qs, h1⟩
        have hi' : i < ps.length := by rw [← hxl]; exact (List.getElem?_eq_some_iff.mp hi).1
        walk_at "go"
        refine ⟨rfl, ?_⟩
        walk_at "go"
        refine h1.ms.me ?_
        walk_at "go"
        refine comp ps xs hps.1 hps.2 ht hw (upd H p0 (.tup xs)) i _ x D H' f1 r1 ys qs _ _ (List.getElem?_eq_getElem hi') hi hD M0 (TS.lay hp0) h1 fun t H2 eD hl hx => ?_
        obtain ⟨f2, r2, qs2, h2⟩ := hx
        exact ⟨ys, eD, hl, f2, r2, ys ++ [.ref t], qs2, h2⟩
      · rintro H1 ⟨f1, r1, ys, qs, h1⟩
        rw [hxl, List.take_length] at h1
        walk_at "go"
        have fin : KM d l H H1 := (KM.refl.lay hp0).trans h1.km
        refine use_chain h1.ms (by have := h1.len; omega) h1.D nD.2.1 h1.t fun t H2 M2 k2 ht et => ?_
        walk_at "go"
        obtain ⟨c1, c2, c3, c4⟩ := chnF_ok one (Nat.le_refl _) h1.M h1.p
        refine kq t H2 ⟨_, r1, (chnF f1 qs).2, M2, fin.trans k2, fin.free h1.ms ht, et, c4 rfl h1.g, c3, by rw [chnF_len]; exact c1, fun w => (c2 w).trans ?_, by rw [chnF_len, Pt.wd, Pt.wds_eq]; exact h1.len⟩
        rw [Pt.L, Pt.LRow_eq]
    | again p lo hi =>
      obtain ⟨n', rfl, hpp, hlo, hhi⟩ : ∃ n', n = n' + 1 ∧ Pt.Pl al n' p ∧ lo ≤ 60 ∧ ∀ h, hi = some h → lo ≤ h ∧ h ≤ 60 := by
        cases n with
        | zero => exact hp.elim
        | succ n => exact ⟨n, rfl, hp.1, hp.2.1, hp.2.2⟩
      rw [Pt.d] at hv
      obtain ⟨a, xs, rfl, ea, ht⟩ := hv.tupE
      obtain ⟨x0, xs, rfl, h0, ht⟩ := ht.consE
      obtain ⟨x1, xs, rfl, h1, ht⟩ := ht.consE
      obtain ⟨x2, xs, rfl, h2, ht⟩ := ht.consE
      obtain ⟨x3, xs, rfl, h3, ht⟩ := ht.consE
      rw [h0.strE, h2.intE, ht.nilE] at ea
      have e3 : x3 = hiV hi := hi_val h3
      refine rd_ixt (SqT.of ea) (at_of (j := 0) rfl rfl) ?_
      walk_at "go"
      refine ite2 (fun z => absurd z (wne (by decide +kernel))) (fun _ => ?_)
      walk_at "go"
      refine ite2 (fun z => absurd z (wne (by decide +kernel))) (fun _ => ?_)
      walk_at "go"
      refine ite2 (fun z => absurd z (wne (by decide +kernel))) (fun _ => ?_)
      walk_at "go"
      refine M.me ?_
      walk_at "go"
      refine M.me ?_
      walk_at "go"
      refine rd_ixt (SqT.of ea) (at_of (j := 1) rfl rfl) ?_
      walk_at "go"
      refine rd_ixt (SqT.of ea) (at_of (j := 2) rfl rfl) ?_
      walk_at "go"
      refine rd_ixt (SqT.of ea) (at_of (j := 3) rfl rfl) ?_
      walk_at "go"
      refine ⟨m, d, l, al, f, r, x1, x3, p, lo, hi, rfl, M, Mc, hL, hpp, h1, hw, hlo, hhi, e3, fun q H1 As f1 r1 ys qs hq hAs hR => ?_⟩
      walk_at "go"
      have nq := M.free hq
      refine use_chain hR.ms (by have := hR.len; omega) hR.D nq.2.1 hR.t fun t H2 M2 k2 ht et => ?_
      walk_at "go"
      obtain ⟨c1, c2, c3, c4⟩ := chnF_ok one (Nat.le_refl _) hR.M hR.p
      exact kq t H2 ⟨_, r1, (chnF f1 qs).2, M2, hR.km.trans k2, hR.km.free hR.ms ht, et, c4 rfl hR.g, c3, by rw [chnF_len]; exact c1, fun w => (c2 w).trans (hAs w), by rw [chnF_len]; exact hR.len⟩
    | all ps => cases n <;> exact hp.elim
    | no p => cases n <;> exact hp.elim
end

end Cs
namespace Cs
open PySem L2
open PyProof.Rows (envOfC)
/-! verdicts as values; their lists are among N -/
mutual
inductive VV (N : Addr → Prop) (H : Hp) : V → Vd → Prop
  | ends {a : Addr} {t : Nat} : H a = some (.tup [.str (kS "ends"), vn t]) → VV N H (.ref a) (.ends t)
  | any {a q : Addr} {xs : List V} {vs : List Vd} : H a = some (.tup [.str (kS "any"), .ref q]) → H q = some (.lst xs) → N q → VVs N H xs vs → VV N H (.ref a) (.any vs)
  | all {a q : Addr} {xs : List V} {vs : List Vd} : H a = some (.tup [.str (kS "all"), .ref q]) → H q = some (.lst xs) → N q → VVs N H xs vs → VV N H (.ref a) (.all vs)
  | no {a q : Addr} {x : V} {v : Vd} : H a = some (.tup [.str (kS "not"), .ref q]) → H q = some (.lst [x]) → N q → VV N H x v → VV N H (.ref a) (.no v)
inductive VVs (N : Addr → Prop) (H : Hp) : List V → List Vd → Prop
  | nil : VVs N H [] []
  | cons {x : V} {xs : List V} {v : Vd} {vs : List Vd} : VV N H x v → VVs N H xs vs → VVs N H (x :: xs) (v :: vs)
end
/-- tuples stand, and the lists of N -/
structure KV' (N : Addr → Prop) (H H' : Hp) : Prop where
  t : TS H H'
  l : ∀ b xs, N b → H b = some (.lst xs) → H' b = some (.lst xs)
theorem KV'.trans {N : Addr → Prop} {H H1 H2 : Hp} (x : KV' N H H1) (y : KV' N H1 H2) : KV' N H H2 := ⟨x.t.trans y.t, fun b xs n e => y.l b xs n (x.l b xs n e)⟩
theorem KV'.same {N : Addr → Prop} {H H' : Hp} (s : Same H H') : KV' N H H' := ⟨TS.same s, fun b xs _ e => s b _ e⟩
theorem KV'.lay {N : Addr → Prop} {p : Addr} {H : Hp} {o : HO} (n : H p = none) : KV' N H (upd H p o) := .same (Same.lay n)
theorem KV'.km {C m d l : Addr} {al f : List Nat} {r : Nat → Nat} {N : Addr → Prop} {H H' : Hp} (M : MS C m d l al f r H) (k : KM d l H H') (n : ¬ N l) : KV' N H H' :=
  ⟨M.ts k, fun b xs nb e => k b _ (ne_of e M.d (by intro z; cases z)) (fun z => n (z ▸ nb)) e⟩
theorem KV'.set {N : Addr → Prop} {D : Addr} {H : Hp} {xs : List V} {o : HO} (e : H D = some (.lst xs)) (n : ¬ N D) : KV' N H (upd H D o) :=
  ⟨TS.set e, fun b ys nb q => by rw [upd_ne (fun z => by subst z; exact n nb)]; exact q⟩
section
variable {N : Addr → Prop} {H H' : Hp}
mutual
theorem VV.kp (k : KV' N H H') : ∀ {x : V} {v : Vd}, VV N H x v → VV N H' x v
  | _, _, .ends e => .ends (k.t _ _ e)
  | _, _, .any e q n t => .any (k.t _ _ e) (k.l _ _ n q) n (VVs.kp k t)
  | _, _, .all e q n t => .all (k.t _ _ e) (k.l _ _ n q) n (VVs.kp k t)
  | _, _, .no e q n t => .no (k.t _ _ e) (k.l _ _ n q) n (VV.kp k t)
theorem VVs.kp (k : KV' N H H') : ∀ {xs : List V} {vs : List Vd}, VVs N H xs vs → VVs N H' xs vs
  | _, _, .nil => .nil
  | _, _, .cons h t => .cons (VV.kp k h) (VVs.kp k t)
end
mutual
theorem VV.imp {N' : Addr → Prop} (k : ∀ b, N b → N' b) : ∀ {x : V} {v : Vd}, VV N H x v → VV N' H x v
  | _, _, .ends e => .ends e
  | _, _, .any e q n t => .any e q (k _ n) (VVs.imp k t)
  | _, _, .all e q n t => .all e q (k _ n) (VVs.imp k t)
  | _, _, .no e q n t => .no e q (k _ n) (VV.imp k t)
theorem VVs.imp {N' : Addr → Prop} (k : ∀ b, N b → N' b) : ∀ {xs : List V} {vs : List Vd}, VVs N H xs vs → VVs N' H xs vs
  | _, _, .nil => .nil
  | _, _, .cons h t => .cons (VV.imp k h) (VVs.imp k t)
end
theorem VVs.app : ∀ {xs ys : List V} {vs ws : List Vd}, VVs N H xs vs → VVs N H ys ws → VVs N H (xs ++ ys) (vs ++ ws)
  | _, _, _, _, .nil, t => t
  | _, _, _, _, .cons h t, u => .cons h (t.app u)
theorem VVs.length : ∀ {xs : List V} {vs : List Vd}, VVs N H xs vs → xs.length = vs.length
  | _, _, .nil => rfl
  | _, _, .cons _ t => congrArg Nat.succ t.length
theorem VVs.get : ∀ {xs : List V} {vs : List Vd} {i : Nat} {x : V}, VVs N H xs vs → xs[i]? = some x → ∃ v, vs[i]? = some v ∧ VV N H x v
  | _, _, _, _, .nil, e => by simp at e
  | _, _, 0, _, .cons h _, e => by simp at e; subst e; exact ⟨_, rfl, h⟩
  | _, _, i + 1, x, .cons _ t, e => by
    obtain ⟨v, a, b⟩ := VVs.get (i := i) (x := x) t (by simpa using e)
    exact ⟨v, by simpa using a, b⟩
end
/-- a verdict of a depth of at most n -/
def Vd.Dp : Nat → Vd → Prop
  | _, .ends _ => True
  | n + 1, .any vs => vs.length ≤ 60 ∧ ∀ v ∈ vs, Vd.Dp n v
  | n + 1, .all vs => vs.length ≤ 60 ∧ ∀ v ∈ vs, Vd.Dp n v
  | n + 1, .no v => Vd.Dp n v
  | _, _ => False
theorem Vd.hAny_eq (s : Nat) : ∀ vs : List Vd, Vd.hAny vs s = (vs.map fun v => v.h s).any id
  | [] => rfl
  | v :: vs => by rw [Vd.hAny, List.map_cons, List.any_cons, Vd.hAny_eq s vs]; rfl
theorem Vd.hAll_eq (s : Nat) : ∀ vs : List Vd, Vd.hAll vs s = (vs.map fun v => v.h s).all id
  | [] => rfl
  | v :: vs => by rw [Vd.hAll, List.map_cons, List.all_cons, Vd.hAll_eq s vs]; rfl
theorem VOk.congr {f : List Nat} {r : Nat → Nat} {n : Nat} {v : Vd} {A B : Lg} (h : VOk f r n v A) (e : ∀ w, A w ↔ B w) : VOk f r n v B := by
  have : A = B := funext fun w => propext (e w)
  rw [← this]; exact h
/-- verdicts side by side -/
inductive VOks (f : List Nat) (r : Nat → Nat) (n : Nat) : List Vd → List Lg → Prop
  | nil : VOks f r n [] []
  | cons {v : Vd} {vs : List Vd} {A : Lg} {As : List Lg} : VOk f r n v A → VOks f r n vs As → VOks f r n (v :: vs) (A :: As)
theorem VOks.grow {f f' : List Nat} {r r' : Nat → Nat} (M : Mach f r) (g : GrowV f f' r r') {n n' : Nat} (hn : n ≤ n') : ∀ {vs : List Vd} {As : List Lg}, VOks f r n vs As → VOks f' r' n' vs As
  | _, _, .nil => .nil
  | _, _, .cons h t => .cons (h.grow M g hn) (t.grow M g hn)
theorem VOks.app {f : List Nat} {r : Nat → Nat} {n : Nat} : ∀ {vs ws : List Vd} {As Bs : List Lg}, VOks f r n vs As → VOks f r n ws Bs → VOks f r n (vs ++ ws) (As ++ Bs)
  | _, _, _, _, .nil, t => t
  | _, _, _, _, .cons h t, u => .cons h (t.app u)
theorem VOks.any {f : List Nat} {r : Nat → Nat} {n : Nat} : ∀ {vs : List Vd} {As : List Lg}, VOks f r n vs As → VOk f r n (.any vs) fun w => ∃ A ∈ As, A w
  | _, _, .nil => VOk.any0.congr fun w => by simp
  | _, _, .cons h t => (VOk.any h t.any).congr fun w => by
    constructor
    · rintro (z | ⟨A, hA, z⟩)
      · exact ⟨_, List.mem_cons_self, z⟩
      · exact ⟨A, List.mem_cons_of_mem _ hA, z⟩
    · rintro ⟨A, hA, z⟩
      rcases List.mem_cons.mp hA with rfl | hA
      · exact .inl z
      · exact .inr ⟨A, hA, z⟩
theorem VOks.all {f : List Nat} {r : Nat → Nat} {n : Nat} : ∀ {vs : List Vd} {As : List Lg}, VOks f r n vs As → VOk f r n (.all vs) fun w => ∀ A ∈ As, A w
  | _, _, .nil => VOk.all0.congr fun w => by simp
  | _, _, .cons h t => (VOk.all h t.all).congr fun w => by
    constructor
    · rintro ⟨z, y⟩ A hA
      rcases List.mem_cons.mp hA with rfl | hA
      · exact z
      · exact y A hA
    · intro z
      exact ⟨z _ List.mem_cons_self, fun A hA => z A (List.mem_cons_of_mem _ hA)⟩
theorem Pt.LAll_eq : ∀ (ps : List Pt) (w : List Nat), Pt.LAll ps w ↔ ∀ A ∈ ps.map Pt.L, A w
  | [], w => by simp [Pt.LAll]
  | p :: ps, w => by
    rw [Pt.LAll, List.map_cons, Pt.LAll_eq ps]
    constructor
    · rintro ⟨z, y⟩ A hA
      rcases List.mem_cons.mp hA with rfl | hA
      · exact z
      · exact y A hA
    · intro z
      exact ⟨z _ List.mem_cons_self, fun A hA => z A (List.mem_cons_of_mem _ hA)⟩

end Cs
namespace Cs
open PySem L2
open PyProof.Rows (envOfC)
theorem wne' {a b : String} (h : kS a ≠ kS b) : ¬ (decide (V.str (kS a) = V.str (kS b)) = true) := fun z => h (V.str.inj (of_decide_eq_true z))
def sp_holds (n : Nat) : Sp := fun vs H Q _ => ∃ (N : Addr → Prop) (x : V) (v : Vd) (s : Nat), vs = [x, vn s] ∧ VV N H x v ∧ v.Dp n ∧ ∀ H', Same H H' → Q (.bl (v.h s)) H'
theorem use_holds {N : Addr → Prop} {n : Nat} {x : V} {v : Vd} {s : Nat} {H : Hp} {Q : VK} {E : XK} (h : VV N H x v) (hd : v.Dp n) (k : ∀ H', Same H H' → Q (.bl (v.h s)) H') : sp_holds n [x, vn s] H Q E := ⟨N, x, v, s, rfl, h, hd, k⟩
def spH : Nat → Sp
  | 0 => fun _ _ _ _ => False
  | n + 1 => sp_holds n
section
variable {P : Program} {w : World} {K : PySem.W.Frag} {mg : Str → Option Value} {base : Heap}
theorem At.none {x : Str} {st : Stmt} {N ps : List Str} (k : Nat) (F : At K mg x st ps) (S : FnScope N ps (defScope st)) : Cal P w K mg base (k + 1) x ps fun _ _ _ _ => False :=
  F.ok S (fun _ _ _ _ h => h.elim) (fun _ _ _ _ _ _ _ _ _ _ h => h.elim)
theorem ok_holds1 (B : Blt mg) {n k : Nat} (G__holds : Cal P w K mg base (k + 1) "_holds" ["verdict", "state"] (spH n)) (F : At K mg "_holds" s__holds ["verdict", "state"]) : Cal P w K mg base (k + 2) "_holds" ["verdict", "state"] (spH (n + 1)) := by
  refine F.ok (k := k + 1) sc__holds (fun vs H Q E h => ?_) (fun f cdv A outer s H vs Q E hr h => ?_)
  · obtain ⟨N, x, v, s, rfl, _⟩ := h
    rfl
  · obtain ⟨N, x, v, s, rfl, hv, hd, k⟩ := h
    refine ⟨_, (pss_cons (ps_asg (pv 0) (pg_tupK (n := 2) (K := K) (by rfl) (by rfl) (pgs_cons (pg_name (i := 2) sc__holds.nd rfl (Or.inl rfl)) (pgs_cons (pg_name (i := 3) sc__holds.nd rfl (Or.inl rfl)) pgs_nil))))
    (pss_cons (ps_if (pt_cmpR op_eq (pv 2) pe_str (nomark _))
    (pss_one (ps_ret (pe_cmpR op_ne (pe_op op_and (pv 3) (pv 1)) pe_int (nomark _))))
    pss_nil)
    (pss_cons (ps_setLc (i := 4) (own := [("part", 5)]) rfl sc__holds.nd rfl rfl (sw_true rfl rfl rfl (by decide +kernel)) (pi_listK (K := K) (by rfl) (pv 3)) (blkOk_by (N := ["verdict", "state", "word", "told", "answers", "part"]) (sc := defScope s__holds) (by decide +kernel)) (fun _ _ _ _ _ => (pg_name (i := 5) sc__holds.nd rfl (Or.inl rfl))) (fun _ _ _ _ _ => pts_nil) (fun _ _ _ _ _ => (pe_c G__holds (hr.mono (by first | decide | omega)) (pa_cons (pv 5) (pa_cons (pv 1) pa_nil)))))
    (pss_cons (ps_if (pt_cmpR op_eq (pv 2) pe_str (nomark _))
    (pss_one (ps_ret (pe_callB (cr_anyK (K := K) (by rfl) rfl) (by rfl) B.any (by decide +kernel) (pa_cons (pv 4) pa_nil))))
    pss_nil)
    (pss_cons (ps_if (pt_cmpR op_eq (pv 2) pe_str (nomark _))
    (pss_one (ps_ret (pe_callB (cr_allK (K := K) (by rfl) rfl) (by rfl) B.all (by decide +kernel) (pa_cons (pv 4) pa_nil))))
    pss_nil)
    (pss_one (ps_ret (pe_not (pe_ix (ix_listK (K := K) (by rfl)) (pv 4) pe_int (fun _ _ => rfl)))))))))), ?_⟩
    walk_at "go"
    have comp : ∀ (vs : List Vd) (xs : List V) (q : Addr) (R : V → Hp → Prop), vs.length ≤ 60 → (∀ v ∈ vs, ∃ n', n = n' + 1 ∧ Vd.Dp n' v) → H q = some (.lst xs) → VVs N H xs vs →
        ∀ (i : Nat) (x : V) (D : Addr) (H1 : Hp) (Q : VK) (E : XK), xs[i]? = some x → H D = none → Same H H1 → H1 D = some (.lst (((vs.take i).map fun v => v.h s).map V.bl)) →
          (∀ (b : Bool) (H2 : Hp), Same H H2 → H2 D = some (.lst (((vs.take i).map fun v => v.h s).map V.bl)) → (((vs.take i).map fun v => v.h s).map V.bl) ++ [V.bl b] = (((vs.take (i + 1)).map fun v => v.h s).map V.bl) → ((vs.take i).map fun v => v.h s).length ≤ 60 → Q (.bl b) H2) → spH n [x, vn s] H1 Q E := by
      intro vs xs q R hl hps hq ht i x D H1 Q E hx hD sm eD kk
      obtain ⟨v, hv1, hv2⟩ := ht.get hx
      obtain ⟨n', rfl, hn'⟩ := hps v (List.mem_of_getElem? hv1)
      refine use_holds (E := E) (hv2.kp (.same sm)) hn' fun H2 s2 => kk _ H2 (L2.Same.trans sm s2) (s2 _ _ eD) ?_ ?_
      · rw [take_snoc hv1]; simp
      · rw [List.length_map, List.length_take]; omega
    cases hv with
    | @ends a t e =>
      refine rd_gtup (SqT.of e) rfl ?_
      walk_at "go"
      refine ite2 (fun _ => ?_) (fun z => absurd (decide_eq_true rfl) z)
      walk_at "go"
      rw [band_n]
      have e2 : (!decide (V.int ((t &&& s : Nat) : Int) = V.int 0)) = (Vd.ends t).h s := by
        rw [Vd.h]
        by_cases z : t &&& s = 0
        · simp [z]
        · have : ¬ ((t &&& s : Nat) : Int) = 0 := by omega
          simp [z, this]
      rw [e2]
      exact k _ (Same.refl _)
    | @any a q xs vs e eq nq ht =>
      have hps : vs.length ≤ 60 ∧ ∀ v ∈ vs, ∃ n', n = n' + 1 ∧ Vd.Dp n' v := by
        cases n with
        | zero => exact hd.elim
        | succ n => exact ⟨hd.1, fun v hv => ⟨n, rfl, hd.2 v hv⟩⟩
      have hxl : xs.length = vs.length := ht.length
      refine rd_gtup (SqT.of e) rfl ?_
      walk_at "go"
      refine ite2 (fun z => absurd z (wne' (by decide +kernel))) (fun _ => ?_)
      walk_at "go"
      refine ⟨q, rfl, ⟨_, SqL.of eq⟩, ?_⟩
      intro D hD
      refine lc_list (K := K) (a := q) (xs := xs) (fun i H' => Same H H' ∧ H' D = some (.lst (((vs.take i).map fun v => v.h s).map V.bl))) ?_ ?_ ?_ ?_
      · exact ⟨Same.lay hD, upd_same⟩
      · rintro i H' _ ⟨sm, _⟩
        exact SqL.of (sm _ _ eq)
      · rintro i y H' hi ⟨sm, eD⟩
        walk_at "go"
        refine ⟨rfl, ?_⟩
        walk_at "go"
        refine comp vs xs q (fun _ _ => True) hps.1 hps.2 eq ht i y D H' _ _ hi hD sm eD fun b H2 s2 eD2 e3 hl => ?_
        exact ⟨_, eD2, by rw [List.length_map, PySem.sizeLine_eq]; omega, Same.lay2 s2 hD, by rw [e3]; exact upd_same⟩
      · rintro H1 ⟨sm, eD⟩
        rw [hxl, List.take_length] at eD
        walk_at "go"
        refine ite2 (fun _ => ?_) (fun z => absurd (decide_eq_true rfl) z)
        walk_at "go"
        refine rd_any (SqL.of eD) ?_
        have e2 : ((vs.map fun v => v.h s).any id) = (Vd.any vs).h s := by rw [Vd.h, Vd.hAny_eq]
        rw [e2]
        exact k _ sm
    | @all a q xs vs e eq nq ht =>
      have hps : vs.length ≤ 60 ∧ ∀ v ∈ vs, ∃ n', n = n' + 1 ∧ Vd.Dp n' v := by
        cases n with
        | zero => exact hd.elim
        | succ n => exact ⟨hd.1, fun v hv => ⟨n, rfl, hd.2 v hv⟩⟩
      have hxl : xs.length = vs.length := ht.length
      refine rd_gtup (SqT.of e) rfl ?_
      walk_at "go"
      refine ite2 (fun z => absurd z (wne' (by decide +kernel))) (fun _ => ?_)
      walk_at "go"
      refine ⟨q, rfl, ⟨_, SqL.of eq⟩, ?_⟩
      intro D hD
      refine lc_list (K := K) (a := q) (xs := xs) (fun i H' => Same H H' ∧ H' D = some (.lst (((vs.take i).map fun v => v.h s).map V.bl))) ?_ ?_ ?_ ?_
      · exact ⟨Same.lay hD, upd_same⟩
      · rintro i H' _ ⟨sm, _⟩
        exact SqL.of (sm _ _ eq)
      · rintro i y H' hi ⟨sm, eD⟩
        walk_at "go"
        refine ⟨rfl, ?_⟩
        walk_at "go"
        refine comp vs xs q (fun _ _ => True) hps.1 hps.2 eq ht i y D H' _ _ hi hD sm eD fun b H2 s2 eD2 e3 hl => ?_
        exact ⟨_, eD2, by rw [List.length_map, PySem.sizeLine_eq]; omega, Same.lay2 s2 hD, by rw [e3]; exact upd_same⟩
      · rintro H1 ⟨sm, eD⟩
        rw [hxl, List.take_length] at eD
        walk_at "go"
        refine ite2 (fun z => absurd z (wne' (by decide +kernel))) (fun _ => ?_)
        walk_at "go"
        refine ite2 (fun _ => ?_) (fun z => absurd (decide_eq_true rfl) z)
        walk_at "go"
        refine rd_all (SqL.of eD) ?_
        have e2 : ((vs.map fun v => v.h s).all id) = (Vd.all vs).h s := by rw [Vd.h, Vd.hAll_eq]
        rw [e2]
        exact k _ sm
    | @no a q x v e eq nq ht =>
      have hps : [v].length ≤ 60 ∧ ∀ u ∈ [v], ∃ n', n = n' + 1 ∧ Vd.Dp n' u := by
        cases n with
        | zero => exact hd.elim
        | succ n => exact ⟨by show 1 ≤ 60; decide, fun u hu => ⟨n, rfl, by rw [List.mem_singleton.mp hu]; exact hd⟩⟩
      have ht : VVs N H [x] [v] := .cons ht .nil
      have hxl : [x].length = [v].length := ht.length
      refine rd_gtup (SqT.of e) rfl ?_
      walk_at "go"
      refine ite2 (fun z => absurd z (wne' (by decide +kernel))) (fun _ => ?_)
      walk_at "go"
      refine ⟨q, rfl, ⟨_, SqL.of eq⟩, ?_⟩
      intro D hD
      refine lc_list (K := K) (a := q) (xs := [x]) (fun i H' => Same H H' ∧ H' D = some (.lst ((([v].take i).map fun v => v.h s).map V.bl))) ?_ ?_ ?_ ?_
      · exact ⟨Same.lay hD, upd_same⟩
      · rintro i H' _ ⟨sm, _⟩
        exact SqL.of (sm _ _ eq)
      · rintro i y H' hi ⟨sm, eD⟩
        walk_at "go"
        refine ⟨rfl, ?_⟩
        walk_at "go"
        refine comp [v] [x] q (fun _ _ => True) hps.1 hps.2 eq ht i y D H' _ _ hi hD sm eD fun b H2 s2 eD2 e3 hl => ?_
        exact ⟨_, eD2, by rw [List.length_map, PySem.sizeLine_eq]; omega, Same.lay2 s2 hD, by rw [e3]; exact upd_same⟩
      · rintro H1 ⟨sm, eD⟩
        rw [hxl, List.take_length] at eD
        walk_at "go"
        refine ite2 (fun z => absurd z (wne' (by decide +kernel))) (fun _ => ?_)
        walk_at "go"
        refine ite2 (fun z => absurd z (wne' (by decide +kernel))) (fun _ => ?_)
        walk_at "go"
        refine rd_ixl (SqL.of eD) (at_of (j := 0) rfl rfl) ?_
        walk_at "go"
        have e2 : (!v.h s) = (Vd.no v).h s := by rw [Vd.h]
        rw [e2]
        exact k _ sm
end

end Cs
namespace Cs
open PySem L2
open PyProof.Rows (envOfC)
/-- a pattern of all kinds: any, all, not down to j, plain ones of a depth of at most n below -/
def Pt.Jd (al : List Nat) (n : Nat) : Nat → Pt → Prop
  | j + 1, .any ps => ps.length ≤ 60 ∧ ∀ p ∈ ps, Pt.Jd al n j p
  | j + 1, .all ps => ps.length ≤ 60 ∧ ∀ p ∈ ps, Pt.Jd al n j p
  | j + 1, .no p => Pt.Jd al n j p
  | _, .set cs => Pt.Pl al n (.set cs)
  | _, .row ps => Pt.Pl al n (.row ps)
  | _, .again p lo hi => Pt.Pl al n (.again p lo hi)
  | _, _ => False
/-- what a call of _judge leaves -/
structure JR (C m d l : Addr) (al f : List Nat) (r : Nat → Nat) (H : Hp) (wd j : Nat) (A : Lg) (x : V) (H' : Hp) : Prop where
  ex : ∃ (f' : List Nat) (r' : Nat → Nat) (v : Vd), MS C m d l al f' r' H' ∧ KM d l H H' ∧ GrowV f f' r r' ∧ Mach f' r' ∧ VOk f' r' f'.length v A ∧ VV (fun b => H b = none) H' x v ∧ v.Dp j ∧ f'.length ≤ f.length + wd
structure JRs (C m d l : Addr) (al f : List Nat) (r : Nat → Nat) (H : Hp) (wd j : Nat) (As : List Lg) (D : Addr) (f' : List Nat) (r' : Nat → Nat) (xs : List V) (vs : List Vd) (H' : Hp) : Prop where
  ms : MS C m d l al f' r' H'
  km : KM d l H H'
  eD : H' D = some (.lst xs)
  g : GrowV f f' r r'
  M : Mach f' r'
  v : VOks f' r' f'.length vs As
  t : VVs (fun b => H b = none ∧ b ≠ D) H' xs vs
  dp : ∀ v ∈ vs, Vd.Dp j v
  len : f'.length ≤ f.length + wd
theorem VOks.length {f : List Nat} {r : Nat → Nat} {n : Nat} : ∀ {vs : List Vd} {As : List Lg}, VOks f r n vs As → vs.length = As.length
  | _, _, .nil => rfl
  | _, _, .cons _ t => congrArg Nat.succ t.length
section
variable {C m d l D : Addr} {al f f' : List Nat} {r r' : Nat → Nat} {H H' H2 : Hp} {wd wd2 j : Nat} {As : List Lg} {A : Lg} {xs : List V} {vs : List Vd} {x : V}
theorem JRs.start (M : MS C m d l al f r H) (Mc : Mach f r) (hD : H D = none) : JRs C m d l al f r H 0 j [] D f r [] [] (upd H D (.lst [])) :=
  ⟨M.lay hD, KM.refl.lay hD, upd_same, .refl, Mc, .nil, .nil, by simp, Nat.le_refl _⟩
theorem JRs.step (hD : H D = none) (h : JRs C m d l al f r H wd j As D f' r' xs vs H') (M : MS C m d l al f r H) (q : JR C m d l al f' r' H' wd2 j A x H2) :
    H2 D = some (.lst xs) ∧ ∃ f2 r2 v2, JRs C m d l al f r H (wd + wd2) j (As ++ [A]) D f2 r2 (xs ++ [x]) (vs ++ [v2]) (upd H2 D (.lst (xs ++ [x]))) := by
  obtain ⟨f2, r2, v, M2, k2, g2, Mc2, q2, t2, dp2, l2⟩ := q.ex
  have nD := M.free hD
  have eD : H2 D = some (.lst xs) := k2 D _ nD.1 nD.2.1 h.eD
  have sD : KV' (fun b => H b = none ∧ b ≠ D) H2 (upd H2 D (.lst (xs ++ [x]))) := KV'.set eD (fun z => z.2 rfl)
  have kv : KV' (fun b => H b = none ∧ b ≠ D) H' H2 := KV'.km h.ms k2 (fun z => by rw [M.l] at z; cases z.1)
  refine ⟨eD, f2, r2, v, ?_, (h.km.trans k2).layD hD, upd_same, h.g.trans g2, Mc2, ?_, ?_, ?_, by have := h.len; omega⟩
  · obtain ⟨dx, e⟩ := M2.m
    exact ⟨⟨dx, by rw [upd_ne nD.2.2.symm]; exact e⟩, by rw [upd_ne nD.1.symm]; exact M2.d, by rw [upd_ne nD.2.1.symm]; exact M2.l⟩
  · exact (h.v.grow h.M g2 g2.len).app (.cons q2 .nil)
  · refine ((h.t.kp kv).kp sD).app (.cons ((t2.imp (fun b hb => ⟨?_, fun z => ?_⟩)).kp sD) .nil)
    · exact h.km.free h.ms hb
    · rw [z, h.eD] at hb; cases hb
  · intro u hu
    rcases List.mem_append.mp hu with hu | hu
    · exact h.dp u hu
    · rw [List.mem_singleton.mp hu]; exact dp2
end
def sp_judge (C : Addr) (n j : Nat) : Sp := fun vs H Q _ => ∃ (m d l : Addr) (al f : List Nat) (r : Nat → Nat) (v : V) (p : Pt), vs = [.ref m, v] ∧ MS C m d l al f r H ∧ Mach f r ∧ al.length ≤ 100 ∧ p.Jd al n j ∧ Tp H v p.d ∧ f.length + p.wd ≤ 800 ∧
  ∀ x H', JR C m d l al f r H p.wd j p.L x H' → Q x H'
theorem use_judge {C m d l : Addr} {al f : List Nat} {r : Nat → Nat} {v : V} {p : Pt} {n j : Nat} {H : Hp} {Q : VK} {E : XK} (M : MS C m d l al f r H) (Mc : Mach f r) (hL : al.length ≤ 100) (hp : p.Jd al n j) (hv : Tp H v p.d) (hw : f.length + p.wd ≤ 800)
    (k : ∀ x H', JR C m d l al f r H p.wd j p.L x H' → Q x H') : sp_judge C n j [.ref m, v] H Q E := ⟨m, d, l, al, f, r, v, p, rfl, M, Mc, hL, hp, hv, hw, k⟩
def spJ (C : Addr) (n : Nat) : Nat → Sp
  | 0 => spN
  | j + 1 => sp_judge C n j
abbrev aan : List V := [.str (kS "any"), .str (kS "all"), .str (kS "not")]
theorem jd_plain {al : List Nat} {n j : Nat} {p : Pt} {wd : Str} {ds : List PyData} (h : p.Jd al n j) (e : p.d = .tuple (.str wd :: ds)) (hi : inV (.str wd) aan = false) : p.Pl al n := by
  cases p with
  | set cs => cases j <;> exact h
  | row ps => cases j <;> exact h
  | again p lo hi => cases j <;> exact h
  | any ps =>
    rw [Pt.d] at e
    injection e with e; injection e with e1 e2; injection e1 with e1
    subst e1
    exact absurd hi (by decide +kernel)
  | all ps =>
    rw [Pt.d] at e
    injection e with e; injection e with e1 e2; injection e1 with e1
    subst e1
    exact absurd hi (by decide +kernel)
  | no p =>
    rw [Pt.d] at e
    injection e with e; injection e with e1 e2; injection e1 with e1
    subst e1
    exact absurd hi (by decide +kernel)
theorem jd_comp {al : List Nat} {n j : Nat} {p : Pt} {wd : Str} {ds : List PyData} (h : p.Jd al n j) (e : p.d = .tuple (.str wd :: ds)) (hi : inV (.str wd) aan = true) : ∃ (j' : Nat) (ps : List Pt), j = j' + 1 ∧ ps.length ≤ 60 ∧ (∀ p ∈ ps, Pt.Jd al n j' p) ∧ ds = ps.map Pt.d ∧ p.wd = (ps.map Pt.wd).sum ∧
    ((p = .any ps ∧ wd = kS "any") ∨ (p = .all ps ∧ wd = kS "all") ∨ (∃ q, p = .no q ∧ ps = [q] ∧ wd = kS "not")) := by
  cases p with
  | set cs =>
    rw [Pt.d] at e
    injection e with e; injection e with e1 e2; injection e1 with e1
    subst e1
    exact absurd hi (by decide +kernel)
  | row ps =>
    rw [Pt.d] at e
    injection e with e; injection e with e1 e2; injection e1 with e1
    subst e1
    exact absurd hi (by decide +kernel)
  | again p lo hi' =>
    rw [Pt.d] at e
    injection e with e; injection e with e1 e2; injection e1 with e1
    subst e1
    exact absurd hi (by decide +kernel)
  | any ps =>
    rw [Pt.d, Pt.ds_eq] at e
    injection e with e; injection e with e1 e2; injection e1 with e1
    cases j with
    | zero => exact h.elim
    | succ j => exact ⟨j, ps, rfl, h.1, h.2, e2.symm, by rw [Pt.wd, Pt.wds_eq], .inl ⟨rfl, e1.symm⟩⟩
  | all ps =>
    rw [Pt.d, Pt.ds_eq] at e
    injection e with e; injection e with e1 e2; injection e1 with e1
    cases j with
    | zero => exact h.elim
    | succ j => exact ⟨j, ps, rfl, h.1, h.2, e2.symm, by rw [Pt.wd, Pt.wds_eq], .inr (.inl ⟨rfl, e1.symm⟩)⟩
  | no p =>
    rw [Pt.d] at e
    injection e with e; injection e with e1 e2; injection e1 with e1
    cases j with
    | zero => exact h.elim
    | succ j => exact ⟨j, [p], rfl, by show 1 ≤ 60; decide, fun q hq => by rw [List.mem_singleton.mp hq]; exact h, e2.symm, by rw [Pt.wd]; simp, .inr (.inr ⟨p, rfl, rfl, e1.symm⟩)⟩
theorem pt_word (p : Pt) : ∃ (wd : Str) (ds : List PyData), p.d = .tuple (.str wd :: ds) := by
  cases p <;> exact ⟨_, _, by rw [Pt.d]⟩
theorem or_one (L : Nat) : Builtin.bitOr (L : Int) 1 = ((L ||| 1 : Nat) : Int) := bor_n L 1
section
variable {P : Program} {w : World} {K : PySem.W.Frag} {mg : Str → Option Value} {base : Heap}
theorem ok_judge {C : Addr} {n j k : Nat} (T : MTxt K mg C) (G__piece : Mtd P w K mg base (k + 1) C "_piece" ["self", "pattern"] (sp_piece C n)) (G__judge : Mtd P w K mg base (k + 1) C "_judge" ["self", "pattern"] (spJ C n j))
    (F : AtM K C "_judge" "Machine._judge" s_Machine__judge ["self", "pattern"]) : Mtd P w K mg base (k + 2) C "_judge" ["self", "pattern"] (sp_judge C n j) := by
  refine F.ok (k := k + 1) sc_Machine__judge (fun vs H Q E h => ?_) (fun f cdv A outer s H vs Q E hr h => ?_)
  · obtain ⟨m, d, l, al, f, r, v, p, rfl, _⟩ := h
    rfl
  · obtain ⟨m, d, l, al, f, r, v, p, rfl, M, Mc, hL, hp, hv, hw, kq⟩ := h
    refine ⟨_, (pss_cons (ps_if (pt_cmpR (op_in_seqK (K := K) (by rfl)) (pe_ix (ix_tupK (K := K) (by rfl)) (pv 1) pe_int (fun _ _ => rfl)) (pe_tup (pa_cons pe_str (pa_cons pe_str (pa_cons pe_str pa_nil)))) (by first | rfl | decide))
    (pss_one (ps_ret (pe_tup (pa_cons (pe_ix (ix_tupK (K := K) (by rfl)) (pv 1) pe_int (fun _ _ => rfl)) (pa_cons (pe_lc (own := [("part", 5)]) rfl sc_Machine__judge.nd (pi_tupK (K := K) (by rfl) (pe_slice (sl_tupAK (K := K) (by rfl)) (pv 1) (po_some pe_int) po_none)) (blkOk_by (N := ["self", "pattern", "empty", "first", "last", "part"]) (sc := defScope s_Machine__judge) (by decide +kernel)) (fun _ _ _ _ _ => (pg_name (i := 5) sc_Machine__judge.nd rfl (Or.inl rfl))) (fun _ _ _ _ _ => pts_nil) (fun _ _ _ _ _ => (pe_md T.cl G__judge (hr.mono (by first | decide | omega)) (pv 0) (pa_cons (pv 5) pa_nil)))) pa_nil)))))
    pss_nil)
    (pss_cons (ps_asg (pe_md T.cl G__piece (hr.mono (by first | decide | omega)) (pv 0) (pa_cons (pv 1) pa_nil)) (pg_tupK (n := 3) (K := K) (by rfl) (by rfl) (pgs_cons (pg_name (i := 2) sc_Machine__judge.nd rfl (Or.inl rfl)) (pgs_cons (pg_name (i := 3) sc_Machine__judge.nd rfl (Or.inl rfl)) (pgs_cons (pg_name (i := 4) sc_Machine__judge.nd rfl (Or.inl rfl)) pgs_nil)))))
    (pss_cons (ps_augS (pe_fldK (K := K) (by rfl) (pv 0) rfl) pe_int (pget_listK (K := K) (by rfl)) (pv 3) ip_or set_list)
    (pss_one (ps_ret (pe_tup (pa_cons pe_str (pa_cons (pe_ifExp (pt_truthK (K := K) (by rfl) (pv 2)) (pe_op op_or (pv 4) (pe_k T.c_START)) (pv 4)) pa_nil)))))))), ?_⟩
    walk_at "go"
    have one := Mc.one
    obtain ⟨wd, ds, ep⟩ := pt_word p
    have hv0 := hv
    rw [ep] at hv
    obtain ⟨a, xs, rfl, ea, ht⟩ := hv.tupE
    obtain ⟨x0, xs, rfl, h0, ht⟩ := ht.consE
    rw [h0.strE] at ea
    refine rd_ixt (SqT.of ea) (at_of (j := 0) rfl rfl) ?_
    walk_at "go"
    refine ⟨by show 3 ≤ sizeLine; decide, fun p0 hp0 => ?_⟩
    walk_at "go"
    have M0 := M.lay (o := .tup aan) hp0
    have ea0 : upd H p0 (.tup aan) a = some (.tup (.str wd :: xs)) := by rw [upd_ne (ne_of_none ea hp0)]; exact ea
    have t0 : TS H (upd H p0 (.tup aan)) := TS.lay hp0
    refine rd_in (xs := aan) (.inr (SqT.of upd_same)) rfl rfl ?_
    walk_at "go"
    cases hin : inV (.str wd) aan with
    | false =>
      have hpl := jd_plain hp ep hin
      rw [if_neg (by decide)]
      walk_at "go"
      refine M0.me ?_
      walk_at "go"
      refine use_piece M0 Mc hL hpl (hv0.ts t0) hw fun t H1 q => ?_
      obtain ⟨f1, r1, ⟨e, F, L⟩, M1, k1, ht1, et, g1, Mc1, p1, q1, l1⟩ := q.ex
      walk_at "go"
      refine rd_gtup (SqT.of et) rfl ?_
      walk_at "go"
      refine M1.fF T ?_
      walk_at "go"
      have one1 := Mc1.one
      refine rd_ixl (SqL.of M1.l) (at_of (j := 0) rfl (map_vn_get (by omega))) ?_
      walk_at "go"
      rw [bor_n]
      refine rd_setl M1.l (j := 0) (by rw [List.length_map]; unfold ixN; rw [if_pos (by omega), if_pos (by omega)]; rfl) ?_
      obtain ⟨Mc2, g2, lf, e2⟩ := leaf_new Mc Mc1 g1 p1 q1
      have M2 := M1.setl (setF f1 F)
      have es : (f1.map vn).set 0 (vn (f1.getD 0 0 ||| F)) = (setF f1 F).map vn := by unfold setF; rw [List.map_set]
      rw [es]
      walk_at "go"
      have fin : ∀ (t2 : Addr) (o : Nat), o = (if e then L ||| 1 else L) → upd H1 l (.lst ((setF f1 F).map vn)) t2 = none →
          Q (.ref t2) (upd (upd H1 l (.lst ((setF f1 F).map vn))) t2 (.tup [.str (kS "ends"), vn o])) := by
        intro t2 o ho ht2
        subst ho
        refine kq _ _ ⟨setF f1 F, r1, .ends (if e then L ||| 1 else L), M2.lay ht2, (((KM.refl.lay hp0).trans k1).setl).lay' ht2, g2, Mc2, .ends lf (by rw [e2]; exact Nat.le_refl _), .ends upd_same, ?_, by rw [e2]; exact l1⟩
        cases j <;> exact trivial
      refine ⟨e, rfl, ?_⟩
      cases e with
      | true =>
        walk_at "go"
        rw [or_one]
        exact ⟨by show 2 ≤ sizeLine; decide, fun t2 ht2 => by
          walk_at "go"
          exact fin t2 _ rfl ht2⟩
      | false =>
        walk_at "go"
        exact ⟨by show 2 ≤ sizeLine; decide, fun t2 ht2 => by
          walk_at "go"
          exact fin t2 _ rfl ht2⟩
    | true =>
      obtain ⟨j', ps, rfl, hl60, hps, rfl, ew, hcase⟩ := jd_comp hp ep hin
      rw [if_pos (by decide)]
      walk_at "go"
      refine rd_ixt (SqT.of ea0) (at_of (j := 0) rfl rfl) ?_
      walk_at "go"
      refine rd_sla (SqT.of ea0) (fun z => absurd z cut1_no) (fun _ => ?_)
      rw [cut1]
      intro p1 hp1
      walk_at "go"
      refine ⟨p1, rfl, ⟨_, SqT.of upd_same⟩, ?_⟩
      intro D hD
      have n1 := M0.free hp1
      have M1 := M0.lay (o := .tup xs) hp1
      have nD := M1.free hD
      have nDp : D ≠ p1 := fun z => by rw [z, upd_same] at hD; cases hD
      have hxl : xs.length = ps.length := by rw [ht.length, List.length_map]
      have t1 : TS H (upd (upd H p0 (.tup aan)) p1 (.tup xs)) := t0.trans (TS.lay hp1)
      rw [ew] at hw
      refine lc_tup (K := K) (a := p1) (xs := xs) (fun i H' => ∃ f1 r1 ys vs, JRs C m d l al f r (upd (upd H p0 (.tup aan)) p1 (.tup xs)) ((ps.take i).map Pt.wd).sum j' ((ps.take i).map Pt.L) D f1 r1 ys vs H') ?_ ?_ ?_ ?_
      · exact ⟨f, r, [], [], JRs.start M1 Mc hD⟩
      · rintro i H' _ ⟨f1, r1, ys, vs, h1⟩
        exact SqT.of (h1.km p1 _ n1.1 n1.2.1 upd_same)
      · rintro i x H' hi ⟨f1, r1, ys, vs, h1⟩
        have hi' : i < ps.length := by rw [← hxl]; exact (List.getElem?_eq_some_iff.mp hi).1
        have hq : ps[i]? = some ps[i] := List.getElem?_eq_getElem hi'
        walk_at "go"
        refine ⟨rfl, ?_⟩
        walk_at "go"
        refine h1.ms.me ?_
        walk_at "go"
        obtain ⟨dq, h3, h4⟩ := TpAll.get ht hi
        rw [List.getElem?_map, hq] at h3
        cases h3
        have hs : ((ps.take (i + 1)).map Pt.wd).sum ≤ (ps.map Pt.wd).sum := by
          have e : ps.map Pt.wd = (ps.take (i + 1)).map Pt.wd ++ (ps.drop (i + 1)).map Pt.wd := by rw [← List.map_append, List.take_append_drop]
          rw [e, List.sum_append]; omega
        have e2 : ((ps.take (i + 1)).map Pt.wd).sum = ((ps.take i).map Pt.wd).sum + (ps[i]).wd := by rw [take_snoc hq, List.map_append, List.sum_append]; simp
        refine use_judge (E := E0) h1.ms h1.M hL (hps _ (List.getElem_mem hi')) (h4.ts (t1.trans (M1.ts h1.km))) (by have := h1.len; omega) fun t H2 pr => ?_
        obtain ⟨eD, f2, r2, v2, h2⟩ := h1.step hD M1 pr
        refine ⟨ys, eD, ?_, f2, r2, ys ++ [t], vs ++ [v2], ?_⟩
        · rw [h1.t.length, h1.v.length, List.length_map, List.length_take, PySem.sizeLine_eq]; omega
        · rw [take_snoc hq, List.map_append, List.map_append, List.sum_append]
          simpa using h2
      · rintro H1 ⟨f1, r1, ys, vs, h1⟩
        rw [hxl, List.take_length] at h1
        walk_at "go"
        refine ⟨by show 2 ≤ sizeLine; decide, fun t2 ht2 => ?_⟩
        walk_at "go"
        have fr : ∀ b, upd (upd H p0 (.tup aan)) p1 (.tup xs) b = none → H b = none := fun b hb => by
          cases z : H b with
          | none => rfl
          | some o =>
            have q1 : upd H p0 (.tup aan) b = some o := by rw [upd_ne (ne_of_none z hp0)]; exact z
            rw [upd_ne (ne_of_none q1 hp1), q1] at hb; cases hb
        have hvv := (h1.t.kp (KV'.lay (o := .tup [.str wd, .ref D]) ht2)).imp (N' := fun b => H b = none) fun b hb => fr b hb.1
        have nDt : D ≠ t2 := fun z => by rw [← z, h1.eD] at ht2; cases ht2
        have eD2 : upd H1 t2 (.tup [.str wd, .ref D]) D = some (.lst ys) := by rw [upd_ne nDt]; exact h1.eD
        have km : KM d l H (upd H1 t2 (.tup [.str wd, .ref D])) := ((((KM.refl.lay hp0).lay' hp1)).trans h1.km).lay' ht2
        have hvl : vs.length = ps.length := by rw [h1.v.length, List.length_map]
        rcases hcase with ⟨rfl, rfl⟩ | ⟨rfl, rfl⟩ | ⟨q, rfl, rfl, rfl⟩
        · refine kq _ _ ⟨f1, r1, .any vs, h1.ms.lay ht2, km, h1.g, h1.M, h1.v.any.congr fun w => ?_, .any upd_same eD2 (fr D hD) hvv, ⟨by rw [hvl]; exact hl60, h1.dp⟩, by rw [ew]; exact h1.len⟩
          rw [Pt.L, Pt.LAny_eq]
        · refine kq _ _ ⟨f1, r1, .all vs, h1.ms.lay ht2, km, h1.g, h1.M, h1.v.all.congr fun w => ?_, .all upd_same eD2 (fr D hD) hvv, ⟨by rw [hvl]; exact hl60, h1.dp⟩, by rw [ew]; exact h1.len⟩
          rw [Pt.L, Pt.LAll_eq]
        · obtain ⟨v, rfl⟩ : ∃ v, vs = [v] := by
            match vs, hvl with
            | [v], _ => exact ⟨v, rfl⟩
          cases hvv with
          | cons hx hn =>
            cases hn
            have hov := h1.v
            cases hov with
            | cons hv1 hv2 =>
              refine kq _ _ ⟨f1, r1, .no v, h1.ms.lay ht2, km, h1.g, h1.M, (VOk.no hv1).congr fun w => ?_, .no upd_same eD2 (fr D hD) hx, h1.dp v List.mem_cons_self, by rw [ew]; exact h1.len⟩
              rw [Pt.L]
end

end Cs
namespace Cs
open PySem L2
open PyProof.Rows (envOfC)
/-- a machine that is made -/
structure MV (C m d l : Addr) (al f : List Nat) (r : Nat → Nat) (v : Vd) (H : Hp) : Prop where
  m : ∃ (dx : Addr) (x : V), H m = some (.ins C dx (mFv d l x)) ∧ VV (fun _ => True) H x v
  d : H d = some (.dK (rK al r))
  l : H l = some (.lst (f.map vn))
section
variable {C m d l : Addr} {al f : List Nat} {r : Nat → Nat} {v : Vd} {H H' : Hp}
theorem MV.same (M : MV C m d l al f r v H) (s : Same H H') : MV C m d l al f r v H' := by
  obtain ⟨dx, x, e, t⟩ := M.m
  exact ⟨⟨dx, x, s _ _ e, t.kp (.same s)⟩, s _ _ M.d, s _ _ M.l⟩
variable {K : PySem.W.Frag} {mg : Str → Option Value} {R : V → Prop}
theorem MV.fR (M : MV C m d l al f r v H) (T : MTxt K mg C) (q : R (.ref d)) : ∃ a C dx fs v, V.ref m = .ref a ∧ H a = some (.ins C dx fs) ∧ Cls K C ∧ NoAttr K C "_reading" ∧ fs.lookup ("_reading" : Str) = some v ∧ R v := by
  obtain ⟨dx, x, e, _⟩ := M.m
  exact ⟨m, C, dx, _, _, rfl, e, T.cl, T.nR, mFv_R d l x, q⟩
theorem MV.fF (M : MV C m d l al f r v H) (T : MTxt K mg C) (q : R (.ref l)) : ∃ a C dx fs v, V.ref m = .ref a ∧ H a = some (.ins C dx fs) ∧ Cls K C ∧ NoAttr K C "_following" ∧ fs.lookup ("_following" : Str) = some v ∧ R v := by
  obtain ⟨dx, x, e, _⟩ := M.m
  exact ⟨m, C, dx, _, _, rfl, e, T.cl, T.nF, mFv_F d l x, q⟩
theorem MV.fV (M : MV C m d l al f r v H) (T : MTxt K mg C) (q : ∀ x, VV (fun _ => True) H x v → R x) : ∃ a C dx fs v, V.ref m = .ref a ∧ H a = some (.ins C dx fs) ∧ Cls K C ∧ NoAttr K C "_verdict" ∧ fs.lookup ("_verdict" : Str) = some v ∧ R v := by
  obtain ⟨dx, x, e, t⟩ := M.m
  exact ⟨m, C, dx, _, _, rfl, e, T.cl, T.nV, mFv_V d l x, q x t⟩
theorem MV.me (M : MV C m d l al f r v H) {x : Str} {R : Prop} (q : R) (h1 : (x == ("_reading" : Str)) = false := by decide +kernel) (h2 : (x == ("_following" : Str)) = false := by decide +kernel) (h3 : (x == ("_verdict" : Str)) = false := by decide +kernel) :
    ∃ a dx fs, V.ref m = .ref a ∧ H a = some (.ins C dx fs) ∧ fs.lookup x = none ∧ R := by
  obtain ⟨dx, y, e, _⟩ := M.m
  exact ⟨m, dx, _, rfl, e, mFv_no d l y h1 h2 h3, q⟩
end
def foldN (f : List Nat) (s i : Nat) : Nat := (List.range i).foldl (fun a k => if s.testBit k then a ||| f.getD k 0 else a) 0
theorem foldN_succ (f : List Nat) (s i : Nat) : foldN f s (i + 1) = if s.testBit i then foldN f s i ||| f.getD i 0 else foldN f s i := by
  unfold foldN
  rw [List.range_succ, List.foldl_append]; rfl

end Cs
namespace Cs
open PySem L2
open PyProof.Rows (envOfC)
def sp_step (C : Addr) : Sp := fun vs H Q _ => ∃ (m d l : Addr) (al f : List Nat) (r : Nat → Nat) (v : Vd) (s c : Nat), vs = [.ref m, vn s, .str (S [c])] ∧ MV C m d l al f r v H ∧ c ∈ al ∧ ∀ H', Same H H' → Q (vn (stepF f r s c)) H'
theorem use_step {C m d l : Addr} {al f : List Nat} {r : Nat → Nat} {v : Vd} {s c : Nat} {H : Hp} {Q : VK} {E : XK} (M : MV C m d l al f r v H) (hc : c ∈ al) (k : ∀ H', Same H H' → Q (vn (stepF f r s c)) H') : sp_step C [.ref m, vn s, .str (S [c])] H Q E := ⟨m, d, l, al, f, r, v, s, c, rfl, M, hc, k⟩
def sp_accepts (C : Addr) (n : Nat) : Sp := fun vs H Q _ => ∃ (m d l : Addr) (al f : List Nat) (r : Nat → Nat) (v : Vd) (s : Nat), vs = [.ref m, vn s] ∧ MV C m d l al f r v H ∧ v.Dp n ∧ ∀ H', Same H H' → Q (.bl (v.h s)) H'
theorem use_accepts {C m d l : Addr} {n : Nat} {al f : List Nat} {r : Nat → Nat} {v : Vd} {s : Nat} {H : Hp} {Q : VK} {E : XK} (M : MV C m d l al f r v H) (hd : v.Dp n) (k : ∀ H', Same H H' → Q (.bl (v.h s)) H') : sp_accepts C n [.ref m, vn s] H Q E := ⟨m, d, l, al, f, r, v, s, rfl, M, hd, k⟩
section
variable {P : Program} {w : World} {K : PySem.W.Frag} {mg : Str → Option Value} {base : Heap}
theorem ok_step (B : Blt mg) {C : Addr} (T : MTxt K mg C) (F : AtM K C "step" "Machine.step" s_Machine_step ["self", "state", "character"]) : Mtd P w K mg base 1 C "step" ["self", "state", "character"] (sp_step C) := by
  refine F.ok (k := 0) sc_Machine_step (fun vs H Q E h => ?_) (fun f cdv A outer s H vs Q E hr h => ?_)
  · obtain ⟨m, d, l, al, f, r, v, s, c, rfl, _⟩ := h
    rfl
  · obtain ⟨m, d, l, al, f, r, v, st, c, rfl, M, hc, k⟩ := h
    refine ⟨_, (pss_cons (ps_set (i := 3) sc_Machine_step.nd rfl (Or.inl rfl) pe_int)
    (pss_cons (ps_for PassesOwn.never rfl (pi_enum (by rfl) B.enumerate (pa_cons (pe_fldK (K := K) (by rfl) (pv 0) rfl) pa_nil)) (pg_tupK (n := 2) (K := K) (by rfl) (by rfl) (pgs_cons (pg_name (i := 4) sc_Machine_step.nd rfl (Or.inl rfl)) (pgs_cons (pg_name (i := 5) sc_Machine_step.nd rfl (Or.inl rfl)) pgs_nil)))
    (pss_one (ps_if (pt_truthK (K := K) (by rfl) (pe_op op_and (pe_op op_shr (pv 1) (pv 4)) pe_int))
    (pss_one (ps_aug (i := 3) sc_Machine_step.nd rfl (Or.inl rfl) (pv 5) ip_or))
    pss_nil)))
    (pss_one (ps_ret (pe_op op_and (pv 3) (pe_dget (hu1 hr.units) (pe_fldK (K := K) (by rfl) (pv 0) rfl) (pv 2) (fun _ _ => rfl))))))), ?_⟩
    walk_at "go"
    refine M.fF T ?_
    walk_at "go"
    refine ⟨l, _, rfl, SqL.of M.l, ?_⟩
    refine for_enum (K := K) (a := l) (xs := f.map vn) (fun i σ H' => ∃ x4 x5 : Option V, σ = [some (.ref m), some (vn st), some (.str (S [c])), some (vn (foldN f st i)), x4, x5] ∧ Same H H') ?_ (fun i σ H' _ ⟨_, _, _, e⟩ => SqL.of (e _ _ M.l)) ?_ ?_
    · exact ⟨_, _, rfl, Same.refl _⟩
    · rintro i y σ H' t hi ⟨x4, x5, rfl, sm⟩ ht
      have hi' : i < f.length := by have := (List.getElem?_eq_some_iff.mp hi).1; rwa [List.length_map] at this
      rw [map_vn_get hi'] at hi
      cases hi
      have s2 : Same H (upd H' t (.tup [.int (i : Nat), vn (f.getD i 0)])) := Same.lay2 sm (L2.Same.free sm ht)
      refine rd_gtup (SqT.of upd_same) rfl ?_
      walk_at "go"
      refine ⟨_, _, rfl, rfl, by omega, ?_⟩
      walk_at "go"
      rw [bit_n]
      cases e : st.testBit i with
      | false =>
        refine ⟨false, rfl, ?_⟩
        walk_at "go"
        exact ⟨_, _, by rw [foldN_succ, e]; rfl, s2⟩
      | true =>
        refine ⟨true, rfl, ?_⟩
        walk_at "go"
        rw [bor_n]
        exact ⟨_, _, by rw [foldN_succ, e]; rfl, s2⟩
    · rintro σ H' ⟨x4, x5, rfl, sm⟩
      rw [List.length_map]
      walk_at "go"
      refine (M.same sm).fR T ?_
      walk_at "go"
      refine ⟨d, _, rfl, by rw [← rK_val (r := r) hc]; exact DGet.k (k := Sum.inr (S [c])) (sm _ _ M.d), ?_⟩
      walk_at "go"
      rw [band_n]
      exact k _ sm
theorem ok_accepts {C : Addr} {n k : Nat} (T : MTxt K mg C) (G__holds : Cal P w K mg base (k + 1) "_holds" ["verdict", "state"] (sp_holds n)) (F : AtM K C "accepts" "Machine.accepts" s_Machine_accepts ["self", "state"]) : Mtd P w K mg base (k + 2) C "accepts" ["self", "state"] (sp_accepts C n) := by
  refine F.ok (k := k + 1) sc_Machine_accepts (fun vs H Q E h => ?_) (fun f cdv A outer s H vs Q E hr h => ?_)
  · obtain ⟨m, d, l, al, f, r, v, s, rfl, _⟩ := h
    rfl
  · obtain ⟨m, d, l, al, f, r, v, st, rfl, M, hd, kq⟩ := h
    refine ⟨_, (pss_one (ps_ret (pe_c G__holds (hr.mono (by first | decide | omega)) (pa_cons (pe_fldK (K := K) (by rfl) (pv 0) rfl) (pa_cons (pv 1) pa_nil))))), ?_⟩
    walk_at "go"
    refine M.fV T fun x hx => ?_
    walk_at "go"
    refine use_holds hx hd fun H' sm => ?_
    walk_at "go"
    exact kq _ sm
end

end Cs
namespace Cs
open PySem L2
open PyProof.Rows (envOfC)
/-- what __init__ leaves -/
structure MD (C m : Addr) (al : List Nat) (H : Hp) (j : Nat) (A : Lg) (H' : Hp) : Prop where
  ex : ∃ (d l : Addr) (f : List Nat) (r : Nat → Nat) (v : Vd), MV C m d l al f r v H' ∧ Mach f r ∧ VOk f r f.length v A ∧ v.Dp j
  kp : ∀ b o, b ≠ m → H b = some o → H' b = some o
def sp_minit (C : Addr) (n j : Nat) : Sp := fun vs H Q _ => ∃ (m dx : Addr) (al : List Nat) (v : V) (p : Pt), vs = [.ref m, .str (S al), v] ∧ H m = some (.ins C dx []) ∧ al.Nodup ∧ al.length ≤ 60 ∧ p.Jd al n j ∧ Tp H v p.d ∧ p.wd ≤ 790 ∧ ∀ H', MD C m al H j p.L H' → Q .non H'
theorem pf1 (d : Addr) : putF "_reading" (.ref d) [] = ([("_reading", V.ref d)] : List (Str × V)) := rfl
theorem pf2 (d l : Addr) : putF "_following" (.ref l) ([("_reading", V.ref d)] : List (Str × V)) = mF d l := by
  have h : ¬ (("_reading" : Str) = "_following") := by decide +kernel
  show (if ("_reading" : Str) = "_following" then _ else (("_reading" : Str), V.ref d) :: putF "_following" (.ref l) []) = mF d l
  rw [if_neg h]; rfl
theorem pf3 (d l : Addr) (x : V) : putF "_verdict" x (mF d l) = mFv d l x := by
  have h1 : ¬ (("_reading" : Str) = "_verdict") := by decide +kernel
  have h2 : ¬ (("_following" : Str) = "_verdict") := by decide +kernel
  show (if ("_reading" : Str) = "_verdict" then _ else (("_reading" : Str), V.ref d) :: (if ("_following" : Str) = "_verdict" then _ else (("_following" : Str), V.ref l) :: putF "_verdict" x [])) = mFv d l x
  rw [if_neg h1, if_neg h2]; rfl
theorem rK_put_new {al : List Nat} {r : Nat → Nat} {c n : Nat} (h : c ∉ al) : putK (rK al r) (Sum.inr (S [c])) (vn n) = rK al r ++ [(Sum.inr (S [c]), vn n)] := by
  unfold putK
  rw [if_neg]
  rw [List.any_eq_true]
  rintro ⟨kv, hk, e⟩
  obtain ⟨x, hx, rfl⟩ := List.mem_map.mp hk
  have := key_inj (of_decide_eq_true e)
  subst this
  exact h hx
theorem rK_snoc {al : List Nat} {i c : Nat} (h : al[i]? = some c) (hn : al.Nodup) : putK (rK (al.take i) fun _ => 0) (Sum.inr (S [c])) (vn 0) = rK (al.take (i + 1)) fun _ => 0 := by
  have hni : c ∉ al.take i := by
    have e := hn
    rw [← List.take_append_drop i al] at e
    obtain ⟨h1, h2⟩ := List.getElem?_eq_some_iff.mp h
    rw [List.drop_eq_getElem_cons h1, h2] at e
    exact fun q => (List.nodup_append.mp e).2.2 c q c List.mem_cons_self rfl
  rw [rK_put_new hni, take_snoc h]
  unfold rK
  rw [List.map_append]; rfl
theorem mach0 : Mach [0] fun _ => 0 := ⟨fun c m h => by simp at h, fun k m h => by
  unfold Ed at h
  cases k <;> simp at h, by simp⟩
section
variable {P : Program} {w : World} {K : PySem.W.Frag} {mg : Str → Option Value} {base : Heap}
theorem ok_minit {C : Addr} {n j k : Nat} (T : MTxt K mg C) (G__judge : Mtd P w K mg base (k + 1) C "_judge" ["self", "pattern"] (sp_judge C n j)) (F : AtM K C "__init__" "Machine.__init__" s_Machine___init__ ["self", "alphabet", "pattern"]) :
    Mtd P w K mg base (k + 2) C "__init__" ["self", "alphabet", "pattern"] (sp_minit C n j) := by
  refine F.ok (k := k + 1) sc_Machine___init__ (fun vs H Q E h => ?_) (fun f cdv A outer s H vs Q E hr h => ?_)
  · obtain ⟨m, dx, al, v, p, rfl, _⟩ := h
    rfl
  · obtain ⟨m, dx, al, v, p, rfl, em, hnd, hL, hj, hv, hw, kq⟩ := h
    refine ⟨_, (pss_cons (ps_fldK (K := K) (by rfl) (pv 0) (pe_dc (own := [("character", 3)]) rfl sc_Machine___init__.nd (pi_str (pv 1)) (blkOk_by (N := ["self", "alphabet", "pattern", "character"]) (sc := defScope s_Machine___init__) (by decide +kernel)) (fun _ _ _ _ _ => (pg_name (i := 3) sc_Machine___init__.nd rfl (Or.inl rfl))) (fun _ _ _ _ _ => pts_nil) (fun _ _ _ _ _ => (pv 3)) (fun _ _ _ _ _ => pe_int)) rfl)
    (pss_cons (ps_fldK (K := K) (by rfl) (pv 0) (pe_lst (pa_cons pe_int pa_nil)) rfl)
    (pss_one (ps_fldK (K := K) (by rfl) (pv 0) (pe_md T.cl G__judge (hr.mono (by first | decide | omega)) (pv 0) (pa_cons (pv 2) pa_nil)) rfl)))), ?_⟩
    walk_at "go"
    intro D hD
    have nDm : D ≠ m := fun z => by rw [z, em] at hD; cases hD
    refine dc_str (x := al) (fun i H' => H' D = some (.dK (rK (al.take i) fun _ => 0)) ∧ Same H H') ?_ ?_ ?_
    · exact ⟨upd_same, Same.lay hD⟩
    · rintro i c H' hi ⟨eD, sm⟩
      walk_at "go"
      refine ⟨rfl, ?_⟩
      walk_at "go"
      refine ⟨_, Sum.inr (S [c]), rfl, eD, by rw [rK_len, List.length_take, PySem.sizeLine_eq]; omega, ?_, Same.lay2 sm hD⟩
      rw [← rK_snoc hi hnd]; exact upd_same
    · rintro H1 ⟨eD, sm⟩
      rw [List.take_length] at eD
      walk_at "go"
      refine ⟨m, C, dx, [], rfl, sm _ _ em, T.cl, T.nR, by show 0 < 1000; decide, ?_⟩
      rw [pf1]
      walk_at "go"
      refine ⟨by show 1 ≤ sizeLine; decide, fun l hl => ?_⟩
      have nlm : l ≠ m := fun z => by rw [z, upd_same] at hl; cases hl
      have nlD : l ≠ D := fun z => by rw [z, upd_ne nDm, eD] at hl; cases hl
      have hl0 : H1 l = none := by rw [upd_ne nlm] at hl; exact hl
      walk_at "go"
      refine ⟨m, C, dx, _, rfl, by rw [upd_ne nlm.symm]; exact upd_same, T.cl, T.nF, by show 1 < 1000; decide, ?_⟩
      rw [pf2]
      have M0 : MS C m D l al [0] (fun _ => 0) (upd (upd (upd H1 m (.ins C dx [("_reading", V.ref D)])) l (.lst [.int 0])) m (.ins C dx (mF D l))) :=
        ⟨⟨dx, upd_same⟩, by rw [upd_ne nDm, upd_ne nlD.symm, upd_ne nDm]; exact eD, by rw [upd_ne nlm]; exact upd_same⟩
      have keep : ∀ b o, b ≠ m → H b = some o → upd (upd (upd H1 m (.ins C dx [("_reading", V.ref D)])) l (.lst [.int 0])) m (.ins C dx (mF D l)) b = some o := fun b o nb e => by
        have e1 := sm b o e
        have nl : b ≠ l := fun z => by rw [z, hl0] at e1; cases e1
        rw [upd_ne nb, upd_ne nl, upd_ne nb]; exact e1
      have hv1 : Tp (upd (upd (upd H1 m (.ins C dx [("_reading", V.ref D)])) l (.lst [.int 0])) m (.ins C dx (mF D l))) v p.d := hv.ts fun b xs e => keep b _ (ne_of e em (by intro z; cases z)) e
      walk_at "go"
      refine M0.me ?_
      walk_at "go"
      refine use_judge M0 mach0 (by omega) hj hv1 (by show 1 + p.wd ≤ 800; omega) fun x H2 q => ?_
      obtain ⟨f1, r1, vd, M1, k1, g1, Mc1, vk, tv, dp, l1⟩ := q.ex
      walk_at "go"
      obtain ⟨dx', em1⟩ := M1.m
      refine ⟨m, C, dx', _, rfl, em1, T.cl, T.nV, by show 2 < 1000; decide, ?_⟩
      rw [pf3]
      have k2 : KV' (fun _ => True) H2 (upd H2 m (.ins C dx' (mFv D l x))) := ⟨fun b xs e => by rw [upd_ne (ne_of e em1 (by intro z; cases z))]; exact e, fun b xs _ e => by rw [upd_ne (ne_of e em1 (by intro z; cases z))]; exact e⟩
      refine kq _ ⟨⟨D, l, f1, r1, vd, ⟨⟨dx', x, upd_same, (tv.imp fun _ _ => trivial).kp k2⟩, by rw [upd_ne nDm]; exact M1.d, by rw [upd_ne nlm]; exact M1.l⟩, Mc1, vk, dp⟩, fun b o nb e => ?_⟩
      rw [upd_ne nb]
      refine k1 b o ?_ ?_ (keep b o nb e)
      · intro z; rw [z, hD] at e; cases e
      · intro z; rw [z] at e; have := sm _ _ e; rw [hl0] at this; cases this
end

end Cs
namespace Cs
open PySem L2
open PyProof.Rows (envOfC)
/-! an exception of an own class as a value -/
def ExV (cls : Value) (d : Option Addr) (a : Addr) : HO := .ext fun h => ∃ (oe : Obj) (vs : Array Value), h.get? a = some oe ∧ Zc cls d oe ∧ oe.data = .fields vs
theorem exV_ok {P : Program} {w : World} {H : Hp} {h : Heap} {a : Addr} {cls : Value} {d : Option Addr} {oe : Obj} {vs : Array Value} (e : h.get? a = some oe) (z : Zc cls d oe) (dt : oe.data = .fields vs) : ObjOk P w H h a (ExV cls d a) :=
  ⟨⟨oe, vs, e, z, dt⟩, ⟨oe, e⟩, fun _ _ ⟨o, v, q, r⟩ k => ⟨o, v, k o q, r⟩⟩
/-- what may be raised may be a value -/
theorem pe_made {X : Cx} {e : Expr} {t : St → Hp → XK → Prop} (he : PMk X e t) : PE X e (fun σ H Q => t σ H fun cls d H' => ∀ a, H' a = none → Q (.ref a) (upd H' a (ExV cls d a))) := by
  constructor
  intro pins s σ H Q I h
  refine wpAny_mono (he pins s σ H _ I h) (fun u s1 hu => ?_) fun _ _ x => x
  obtain ⟨a, oe, vs, sI, H', cls, d, rfl, J, k, hne, ha, hz, hd, _, na, os, ag, _, q⟩ := hu
  have L := J.laidN (t' := s1.toks) k hne na (exV_ok ha hz hd)
  exact ⟨.ref a, _, ⟨L.ok, by rw [os]; exact L.os, ag, L.base, L.loc, L.cell, L.free, L.freeC, L.pin, L.hok, L.len⟩, rfl, q a na⟩
/-- its field -/
def tFieldV (K : PySem.W.Frag) (f : Str) (te : TE) : TE := fun σ H Q => te σ H fun x H1 => ∃ (a C dd : Addr) (fs : List (Str × V)) (v : V), x = .ref a ∧ H1 a = some (ExV (.ref C) (some dd) a) ∧ H1 dd = some (.xd fs) ∧ XfC K C ∧ PySem.W.findIn K (.ref C) f = some none ∧ fs.lookup f = some v ∧ Q v H1
theorem pe_fieldV {X : Cx} {e : Expr} {te : TE} {pos : Pos} {n : Str} (he : PE X e te) (hb : attributeBase e n X.env (eval e X.env) = eval e X.env := by rfl) : PE X (.Attribute e n pos) (tFieldV X.K n te) := by
  constructor
  intro pins s σ H Q I h
  refine attr_of hb (thn (he.run pins s σ H _ I h) fun u s1 hh => ?_)
  obtain ⟨x, H1, I1, rx, a, C, dd, fs, v, rfl, ea, ed, T, hno, l, q⟩ := hh
  cases rx
  obtain ⟨⟨oe, vs, hget, hz, hd⟩, _⟩ := I1.hok a _ ea
  have hx : ObjOk X.prog X.w H1 s1.heap dd (.xd fs) := I1.hok dd _ ed
  obtain ⟨mA, hns, hr⟩ := hx
  obtain ⟨od, ho, hl⟩ := lookIn_ns hns
  obtain ⟨u, hu, ru⟩ := RelO.some_of (v := v) (o := mA n) (by rw [← l]; exact hr n)
  have J : PySem.W.InstAt s1.heap a oe C (some od) := ⟨hget, hz.1, by unfold PySem.W.notCls; rw [hd] <;> rfl, by rw [hz.2]; exact ho⟩
  exact HandSPX.exc_get I1.kIn J T.ga T.gg T.exC (PySem.W.findObj_own T.hdC hno rfl (by rw [hl, hu])) (handed_of ru) ⟨v, H1, I1.tok _, ru, q⟩
/-- isinstance(e, c), with fields or without -/
def rIsV (K : PySem.W.Frag) : List V → Hp → VK → Prop := fun xs H Q => ∃ (a D : Addr) (d : Option Addr) (c : V) (cv : Value) (b : Bool), xs = [.ref a, c] ∧ H a = some (ExV (.ref D) d a) ∧ (d = none ∨ ∃ dd fs, d = some dd ∧ H dd = some (.xd fs)) ∧ ExcC K D ∧ (∀ u, RelV c u → u = cv) ∧ PySem.W.kitOne K (.ref D) cv = some b ∧ Q (.bl b) H
theorem call_isV {X : Cx} {K : PySem.W.Frag} (hK : X.K = K) : CallR X (.builtin "isinstance") (rIsV K) := by
  subst hK
  rintro pins s σ H xs us Q I r ⟨a, D, d, c, cv, b, rfl, ea, dct, C, hcv, e, q⟩
  cases r with
  | cons rx rr =>
    cases rr with
    | cons rt rr =>
      cases rr
      cases rx
      have ec := hcv _ rt
      subst ec
      obtain ⟨⟨oe, vs, hget, hz, hd⟩, _⟩ := I.hok a _ ea
      obtain ⟨od, J⟩ : ∃ od, PySem.W.InstAt s.heap a oe D od := by
        rcases dct with rfl | ⟨dd, fs, rfl, ed⟩
        · exact ⟨none, hget, hz.1, by unfold PySem.W.notCls; rw [hd] <;> rfl, by rw [hz.2]; trivial⟩
        · have hx : ObjOk X.prog X.w H s.heap dd (.xd fs) := I.hok dd _ ed
          obtain ⟨mA, hns, hr⟩ := hx
          obtain ⟨od, ho, hl⟩ := lookIn_ns hns
          exact ⟨some od, hget, hz.1, by unfold PySem.W.notCls; rw [hd] <;> rfl, by rw [hz.2]; exact ho⟩
      have cls : (PySem.W.clsIn X.K D).isSome = true := by
        obtain ⟨cd, hc, _⟩ := PySem.W.any_some C.hd
        rw [hc]; rfl
      exact PySem.W.kia_one (PySem.W.kitx_exc cls C.hg C.hk C.hs C.ha C.hn C.ht C.hm) I.kIn J e (fun z => nomatch z) fun tk => ⟨.bl b, H, I.kept (t' := tk) fun _ _ z => z, rfl, q⟩
def tExv0 (C : Addr) : TE := fun _ H Q => ∀ a, H a = none → Q (.ref a) (upd H a (ExV (.ref C) none a))
/-- C(), C an own class without own __init__ -/
theorem pe_exv0 {X : Cx} {C : Addr} {bmB : List Value} {B newId initId : String} {x : Str} {p pos : Pos} (F : ExcBaseFacts B newId initId bmB) (q : PySem.W.excIn X.K C bmB newId = true) (gC : X.mg x = some (.ref C)) (kC : PySem.W.keepIn X.K (.ref C) = true) (hg : Gl X x := by rfl) (hdb : (x == ("__debug__" : Str)) = false := by decide) :
    PE X (.Call (.Name x p) [] [] pos) (tExv0 C) := by
  constructor
  intro pins s σ H Q I h
  refine wpAny_Call_Name_kw (ld_glob I hg gC ?_ hdb)
  refine PySem.W.callWith_K0 I.kIn kC ?_
  show wpAny _ _ (call (.ref C) []) _ _ _
  obtain ⟨bm, N, nm, qn, bs, hdct, sn, sub, ab, col, dd, k0, k1, k2, k3, k5, mN, hC, hN, hni, T⟩ := exc_obj I.kIn q
  refine wpAny_call_exc_subT F T hC hN hni (fun h' a made => ?_) (by show 0 ≤ sizeLine; decide)
  have free : H a = none := I.hok.gone made.new
  obtain ⟨t, there, _, _⟩ := made.there
  exact ⟨.ref a, _, I.laidN made.keeps made.new free (exV_ok there ⟨rfl, rfl⟩ rfl), rfl, h a free⟩

end Cs
namespace Cs
open PySem L2
open PyProof.Rows (envOfC)
/-! one own exception with fields: made, raised -/
def sp_init (C : Addr) (names : List Str) : Sp := fun vs H Q _ => ∃ (a : Addr) (ys : List V), vs = .ref a :: ys ∧ ys.length = names.length ∧ H a = some (exo a C none) ∧
  ∀ (dx : Addr) (H' : Hp), H dx = none → dx ≠ a → H' a = some (exo a C (some dx)) → H' dx = some (exd dx (names.zip ys).reverse) → (∀ b, b ≠ a → b ≠ dx → H' b = H b) → Q .non H'
theorem rd_ost {K : PySem.W.Frag} {f : Str} {to te : TE} {D : Ends} {σ : St} {H : Hp} (h : te σ H fun y H1 => to σ H1 fun x H2 => ∃ a C : Addr, x = .ref a ∧ OexC K C ∧ PySem.W.findIn K (.ref C) f = some none ∧
    ((H2 a = some (exo a C none) ∧ ∀ dx, H2 dx = none → dx ≠ a → D.nx σ (upd (upd H2 dx (exd dx [(f, y)])) a (exo a C (some dx)))) ∨ ∃ (dx : Addr) (fs : List (Str × V)), H2 a = some (exo a C (some dx)) ∧ H2 dx = some (exd dx fs) ∧ fs.length ≤ 900 ∧ D.nx σ (upd H2 dx (exd dx ((f, y) :: fs))))) : tOst K f to te D σ H := h
structure NewAt (P : Program) (w : World) (K : PySem.W.Frag) (mg : Str → Option Value) (base : Heap) (x : Str) (C : Addr) (names : List Str) : Prop where
  ex : ∃ (fI : Addr) (fd : FuncData) (ps : List Str), mg x = some (.ref C) ∧ OexC K C ∧ PySem.W.findIn K (.ref C) "__init__" = some (some (.ref fI)) ∧ PySem.W.typeIn K (.ref fI) = some (.type "function") ∧ FnOk P w K mg base CX0 1 fI fd ps (sp_init C names) ∧ Binds K fd ps []
/-- raise x(..) -/
def tRaiseN (C : Addr) (names : List Str) (W : WX) (ta : TA) : L2.TS := fun _ σ H => ta σ H fun ys H1 => ys.length = names.length ∧ ys.length ≤ 1000 ∧ ∀ (d : Addr) (H' : Hp), H1 d = none → Same H1 H' → H' d = some (.xd (names.zip ys).reverse) → W (.ref C) (some d) σ H'
theorem rd_raiseN {C : Addr} {names : List Str} {W : WX} {ta : TA} {D : Ends} {σ : St} {H : Hp} (h : ta σ H fun ys H1 => ys.length = names.length ∧ ys.length ≤ 1000 ∧ ∀ (d : Addr) (H' : Hp), H1 d = none → Same H1 H' → H' d = some (.xd (names.zip ys).reverse) → W (.ref C) (some d) σ H') : tRaiseN C names W ta D σ H := h
theorem ps_raiseN {X : Cx} {W : WX} {x : Str} {C : Addr} {names : List Str} {e : Expr} {es : List Expr} {ta : TA} {p pos pos2 : Pos} (hc : X.calm = true) (tk : Takes X W) (M : NewAt X.prog X.w X.K X.mg X.base x C names) (hr : Room 2 X.A) (ha : PA X (e :: es) ta) (mono : ∀ σ H R R', (∀ ys H1, R ys H1 → R' ys H1) → ta σ H R → ta σ H R')
    (hg : Gl X x := by rfl) (hdb : (x == ("__debug__" : Str)) = false := by decide)
    (he : starEach (e :: es) X.env = (false, eval e X.env) :: starEach es X.env := by rfl) (hpl : (backTo pos (starEach es X.env)).any (·.1) = false := by rfl) : PS X (.Raise (some (.Call (.Name x p) (e :: es) [] pos)) none pos2) (tRaiseN C names W ta) := by
  obtain ⟨fI, fd, ps, hm, hO, iC, tI, F1, hb⟩ := M.ex
  have base := ps_raise (pos := pos2) hc tk (pmk_oex (p := p) hO iC tI F1 hr hb .nil pass0 hg hm ha hdb he hpl)
  constructor
  intro pins s σ H D I h
  refine base.run pins s σ H D I ?_
  show tMkO C (sp_init C names) [] ta σ H _
  refine mono σ H _ _ (fun ys H1 q => ?_) h
  obtain ⟨l1, l2, k⟩ := q
  refine ⟨l2, fun a ha' => ?_⟩
  rw [List.append_nil]
  refine ⟨a, ys, rfl, l1, upd_same, fun dx H' n1 n2 ea ed keep => ?_⟩
  have nd : H1 dx = none := by rw [upd_ne n2] at n1; exact n1
  refine ⟨rfl, dx, _, ea, ed, nd, ?_⟩
  refine k dx _ nd (fun b o q => ?_) upd_same
  have b1 : b ≠ a := ne_of_none q ha'
  have b2 : b ≠ dx := ne_of_none q nd
  rw [upd_ne b2, del_ne b1, keep b b1 b2, upd_ne b1]; exact q

end Cs
namespace Cs
open PySem L2
open PyProof.Rows (envOfC)
/-! callees that may raise -/
structure CalX (P : Program) (w : World) (K : PySem.W.Frag) (mg : Str → Option Value) (base : Heap) (k : Nat) (x : Str) (ps : List Str) (sp : Sp) : Prop where
  ex : ∃ f fd, mg x = some (.ref f) ∧ PySem.W.keepIn K (.ref f) = true ∧ Binds K fd ps [] ∧ FnOk P w K mg base (L2.CX P w) k f fd ps sp
theorem At.okX {P : Program} {w : World} {K : PySem.W.Frag} {mg : Str → Option Value} {base : Heap} {x : Str} {st : Stmt} {N ps : List Str} {k : Nat} {sp : Sp} (F : At K mg x st ps) (S : FnScope N ps (defScope st)) (len : ∀ vs H Q E, sp vs H Q E → vs.length = ps.length)
    (hbody : ∀ (f : Addr) (cdv : Value) (A : Around) (outer : List Env) (s : Shared) (H : Hp) (vs : List V) (Q : VK) (E : XK), Room k (A.deeper (envOfC x (defScope st) s.heap.objs.size f cdv)) → sp vs H Q E →
      ∃ t, PSs (cxOf (L2.CX P w) P w K mg base N x (defScope st) f cdv A outer s H E) (defBody st) t ∧ t { nx := fun _ H' => Q .non H', rt := Q } (start N vs) H) : CalX P w K mg base (k + 1) x ps sp := by
  obtain ⟨f, fd, F, m, b⟩ := F.ex
  exact ⟨f, fd, m, F.kp, b, F.okX S len (hbody f)⟩
theorem pe_cX {X : Cx} {k : Nat} {x : Str} {ps : List Str} {sp : Sp} {p pos : Pos} {e : Expr} {es : List Expr} {t : TA} {W : WX} (C : CalX X.prog X.w X.K X.mg X.base k x ps sp) (hr : Room k X.A) (tk : Takes X W) (ha : PA X (e :: es) t) (hg : Gl X x := by rfl) (hdb : (x == ("__debug__" : Str)) = false := by decide)
    (he : starEach (e :: es) X.env = (false, eval e X.env) :: starEach es X.env := by rfl) (hpl : (backTo pos (starEach es X.env)).any (·.1) = false := by rfl) : PE X (.Call (.Name x p) (e :: es) [] pos) (tCallS sp (WE W) t) := by
  obtain ⟨f, fd, hm, hk, hb, F⟩ := C.ex
  exact pe_callS F hr hg hm hk hb (fun σ => passAt tk σ) ha hdb he hpl
theorem rd_callS {sp : Sp} {E : St → XK} {t : TA} {σ : St} {H : Hp} {Q : VK} (h : t σ H fun vs H1 => sp vs H1 Q (E σ)) : tCallS sp E t σ H Q := h
theorem monoE1 {ta : TE} (h : ∀ σ H R R', (∀ x H1, R x H1 → R' x H1) → ta σ H R → ta σ H R') : ∀ σ H (R R' : List V → Hp → Prop), (∀ ys H1, R ys H1 → R' ys H1) → tCons ta tNil σ H R → tCons ta tNil σ H R' := fun σ H R R' k q => h σ H _ _ (fun x H1 r => k _ _ r) q
theorem mono1 {i : Nat} : ∀ σ H (R R' : List V → Hp → Prop), (∀ ys H1, R ys H1 → R' ys H1) → tCons (tVar i) tNil σ H R → tCons (tVar i) tNil σ H R' := fun σ H R R' k q => by
  obtain ⟨v, e, q⟩ := q
  exact ⟨v, e, k _ _ q⟩

end Cs
namespace Cs
open PySem L2
open PyProof.Rows (envOfC)
/-- the first sign that is not in the alphabet -/
def Bad (al t : List Nat) (i : Nat) : Prop := ∃ c, t[i]? = some c ∧ c ∉ al ∧ ∀ j d, j < i → t[j]? = some d → d ∈ al
def sp_check (CI : Addr) : Sp := fun vs H Q E => ∃ (al t : List Nat), vs = [.str (S al), .str (S t)] ∧ t.length ≤ 10000 ∧ ((∀ c ∈ t, c ∈ al) → ∀ H', Same H H' → Q .non H') ∧
  ∀ i, Bad al t i → ∀ (d : Addr) H', H d = none → Same H H' → H' d = some (.xd [("position", .int (i : Nat))]) → E (.ref CI) (some d) H'
theorem use_check {CI : Addr} {al t : List Nat} {H : Hp} {Q : VK} {E : XK} (hl : t.length ≤ 10000) (k : (∀ c ∈ t, c ∈ al) → ∀ H', Same H H' → Q .non H')
    (kb : ∀ i, Bad al t i → ∀ (d : Addr) H', H d = none → Same H H' → H' d = some (.xd [("position", .int (i : Nat))]) → E (.ref CI) (some d) H') : sp_check CI [.str (S al), .str (S t)] H Q E := ⟨al, t, rfl, hl, k, kb⟩
section
variable {P : Program} {w : World} {K : PySem.W.Frag} {mg : Str → Option Value} {base : Heap}
theorem ok_check (B : Blt mg) {CI : Addr} (N_InvalidText : NewAt P w K mg base "InvalidText" CI ["position"]) (F : At K mg "check_text" s_check_text ["alphabet", "text"]) : CalX P w K mg base 3 "check_text" ["alphabet", "text"] (sp_check CI) := by
  refine F.okX (k := 2) sc_check_text (fun vs H Q E h => ?_) (fun f cdv A outer s H vs Q E hr h => ?_)
  · obtain ⟨al, t, rfl, _⟩ := h
    rfl
  · obtain ⟨al, t, rfl, hl, k, kb⟩ := h
    refine ⟨_, (pss_one (ps_for (passes_of rfl) rfl (pi_enumS (by rfl) B.enumerate (pa_cons (pv 1) pa_nil)) (pg_tupK (n := 2) (K := K) (by rfl) (by rfl) (pgs_cons (pg_name (i := 2) sc_check_text.nd rfl (Or.inl rfl)) (pgs_cons (pg_name (i := 3) sc_check_text.nd rfl (Or.inl rfl)) pgs_nil)))
    (pss_one (ps_if (pt_cmpR op_notIn_sign (pv 3) (pv 0) rfl)
    (pss_one (ps_raiseN rfl (takes_of rfl rfl rfl rfl) N_InvalidText (hr.mono (by first | decide | omega)) (pa_cons (pv 2) pa_nil) mono1))
    pss_nil)))), ?_⟩
    walk_at "go"
    refine ⟨_, rfl, ?_⟩
    refine for_enumS (x := t) (fun i σ H' => ∃ x2 x3 : Option V, σ = [some (.str (S al)), some (.str (S t)), x2, x3] ∧ Same H H' ∧ ∀ j d, j < i → t[j]? = some d → d ∈ al) ?_ ?_ ?_
    · exact ⟨_, _, rfl, Same.refl _, fun j d hj => by omega⟩
    · rintro i c σ H' T hi ⟨x2, x3, rfl, sm, hb⟩ hT
      refine rd_gtup (SqT.of upd_same) rfl ?_
      walk_at "go"
      have s2 : Same H (upd H' T (.tup [.int (i : Nat), .str (S [c])])) := Same.lay2 sm (L2.Same.free sm hT)
      refine ⟨c, S al, rfl, rfl, ?_⟩
      walk_at "go"
      refine ite2 (fun z => ?_) (fun z => ?_)
      · with_reducible refine rd_raiseN ?_
        walk_at "go"
        have hc : c ∉ al := by simpa [S] using z
        refine ⟨rfl, by show 1 ≤ 1000; decide, fun d H2 n2 s3 ed => ?_⟩
        exact kb i ⟨c, hi, hc, hb⟩ d H2 (L2.Same.free s2 n2) (L2.Same.trans s2 s3) ed
      · walk_at "go"
        have hc : c ∈ al := by
          by_cases q : c ∈ al
          · exact q
          · exact absurd (by simpa [S] using q) z
        refine ⟨_, _, rfl, s2, fun j d hj e => ?_⟩
        by_cases q : j = i
        · subst q; rw [hi] at e; cases e; exact hc
        · exact hb j d (by omega) e
    · rintro σ H' ⟨x2, x3, rfl, sm, hb⟩
      exact k (fun c hc => by
        obtain ⟨j, hj, e⟩ := List.mem_iff_getElem.mp hc
        exact hb j c hj (by rw [List.getElem?_eq_getElem hj, e])) _ sm
end

end Cs
namespace Cs
open PySem L2
open PyProof.Rows (envOfC)
def sp_matches (CI : Addr) (n j : Nat) : Sp := fun vs H Q E => ∃ (al t : List Nat) (v : V) (p : Pt), vs = [.str (S al), v, .str (S t)] ∧ al.Nodup ∧ al.length ≤ 60 ∧ p.Jd al n j ∧ Tp H v p.d ∧ p.wd ≤ 790 ∧ t.length ≤ 10000 ∧
  ((∀ c ∈ t, c ∈ al) → ∀ H' (b : Bool), Same H H' → (b = true ↔ p.L t) → Q (.bl b) H') ∧
  ∀ i, Bad al t i → ∀ (d : Addr) H', H d = none → Same H H' → H' d = some (.xd [("position", .int (i : Nat))]) → E (.ref CI) (some d) H'
theorem use_matches {CI : Addr} {n j : Nat} {al t : List Nat} {v : V} {p : Pt} {H : Hp} {Q : VK} {E : XK} (hn : al.Nodup) (hL : al.length ≤ 60) (hj : p.Jd al n j) (hv : Tp H v p.d) (hw : p.wd ≤ 790) (ht : t.length ≤ 10000)
    (k : (∀ c ∈ t, c ∈ al) → ∀ H' (b : Bool), Same H H' → (b = true ↔ p.L t) → Q (.bl b) H')
    (kb : ∀ i, Bad al t i → ∀ (d : Addr) H', H d = none → Same H H' → H' d = some (.xd [("position", .int (i : Nat))]) → E (.ref CI) (some d) H') : sp_matches CI n j [.str (S al), v, .str (S t)] H Q E := ⟨al, t, v, p, rfl, hn, hL, hj, hv, hw, ht, k, kb⟩
theorem runF_snoc (f : List Nat) (r : Nat → Nat) (w : List Nat) (c : Nat) : runF f r (w ++ [c]) = stepF f r (runF f r w) c := by unfold runF; rw [List.foldl_append]; rfl
section
variable {P : Program} {w : World} {K : PySem.W.Frag} {mg : Str → Option Value} {base : Heap}
theorem ok_matches {C CI : Addr} {n j k : Nat} (T : MTxt K mg C) (G_check_text : CalX P w K mg base 3 "check_text" ["alphabet", "text"] (sp_check CI)) (G_Machine : Mkr P w K mg base (k + 3) "Machine" C ["self", "alphabet", "pattern"] (sp_minit C n j))
    (G_step : Mtd P w K mg base 1 C "step" ["self", "state", "character"] (sp_step C)) (G_accepts : Mtd P w K mg base (k + 3) C "accepts" ["self", "state"] (sp_accepts C j)) (F : At K mg "matches" s_matches ["alphabet", "pattern", "text"]) : CalX P w K mg base (k + 5) "matches" ["alphabet", "pattern", "text"] (sp_matches CI n j) := by
  refine F.okX (k := k + 4) sc_matches (fun vs H Q E h => ?_) (fun f cdv A outer s H vs Q E hr h => ?_)
  · obtain ⟨al, t, v, p, rfl, _⟩ := h
    rfl
  · obtain ⟨al, t, v, p, rfl, hn, hL, hj, hv, hw, ht, kk, kb⟩ := h
    refine ⟨_, (pss_cons (ps_expr (pe_cX G_check_text (hr.mono (by first | decide | omega)) (takes_of rfl rfl rfl rfl) (pa_cons (pv 0) (pa_cons (pv 2) pa_nil))))
    (pss_cons (ps_set (i := 3) sc_matches.nd rfl (Or.inl rfl) (pe_mk G_Machine (hr.mono (by first | decide | omega)) (pa_cons (pv 0) (pa_cons (pv 1) pa_nil))))
    (pss_cons (ps_set (i := 4) sc_matches.nd rfl (Or.inl rfl) (pe_k T.c_START))
    (pss_cons (ps_for (passes_of rfl) rfl (pi_str (pv 2)) (pg_name (i := 5) sc_matches.nd rfl (Or.inl rfl))
    (pss_one (ps_set (i := 4) sc_matches.nd rfl (Or.inl rfl) (pe_md T.cl G_step (hr.mono (by first | decide | omega)) (pv 3) (pa_cons (pv 4) (pa_cons (pv 5) pa_nil))))))
    (pss_one (ps_ret (pe_md T.cl G_accepts (hr.mono (by first | decide | omega)) (pv 3) (pa_cons (pv 4) pa_nil)))))))), ?_⟩
    walk_at "go"
    with_reducible refine rd_callS ?_
    walk_at "go"
    refine use_check ht (fun hal H1 s1 => ?_) (fun i hb d H1 n1 s1 ed => kb i hb d H1 n1 s1 ed)
    walk_at "go"
    intro x dx nx ndx nex
    have nH : ∀ b o, H1 b = some o → upd (upd H1 dx (.own x)) x (.ins C dx []) b = some o := fun b o e => by rw [upd_ne (ne_of_none e nx), upd_ne (ne_of_none e ndx)]; exact e
    have s2 : Same H1 (upd (upd H1 dx (.own x)) x (.ins C dx [])) := nH
    refine ⟨x, dx, al, v, p, rfl, upd_same, hn, hL, hj, hv.ts (TS.same (L2.Same.trans s1 s2)), hw, fun H2 md => ⟨rfl, ?_⟩⟩
    obtain ⟨d, l, f, r, vd, mv, Mc, vok, dp⟩ := md.ex
    have s3 : Same H1 H2 := fun b o e => md.kp b o (ne_of_none e nx) (nH b o e)
    walk_at "go"
    refine for_str (x := t) (fun i σ H' => ∃ x5 : Option V, σ = [some (.str (S al)), some v, some (.str (S t)), some (.ref x), some (vn (runF f r (t.take i))), x5] ∧ Same H2 H') ?_ ?_ ?_
    · exact ⟨_, rfl, Same.refl _⟩
    · rintro i c σ H' hi ⟨x5, rfl, sm⟩
      walk_at "go"
      refine (mv.same sm).me ?_
      walk_at "go"
      refine use_step (mv.same sm) (hal c (List.mem_of_getElem? hi)) fun H3 s4 => ?_
      walk_at "go"
      exact ⟨_, by rw [take_snoc hi, runF_snoc]; rfl, L2.Same.trans sm s4⟩
    · rintro σ H' ⟨x5, rfl, sm⟩
      rw [List.take_length]
      walk_at "go"
      refine (mv.same sm).me ?_
      walk_at "go"
      refine use_accepts (mv.same sm) dp fun H3 s4 => ?_
      walk_at "go"
      exact kk hal H3 _ (L2.Same.trans (L2.Same.trans (L2.Same.trans s1 s3) sm) s4) (vok.run Mc t)
end

end Cs
namespace Cs
open PySem L2
open PyProof.Rows (envOfC)
/-! what the top has left, for the classes; the towers of the machine -/
def eB (K : PySem.W.Frag) (C : Addr) : Bool :=
  decide (PySem.W.findIn K (.ref C) "__getattribute__" = some (some (.builtin "BaseException.__getattribute__"))) && (decide (PySem.W.findIn K (.ref C) "__getattr__" = some none) && (decide (PySem.W.subIn K (.ref C) (.type "BaseException") = some true) && (PySem.W.hasDictIn K C &&
    (decide (PySem.W.findIn K (.ref C) "__class__" = some (some (.builtin "object.__class__"))) && (decide (PySem.W.specialIn K (.builtin "object.__class__") "__get__" = some (some (.builtin "getset_descriptor.__get__"))) && (decide (PySem.W.takesIn K (.builtin "object.__class__") = some true) && (decide (PySem.W.mroIn K C (.type "object") = some true) && PySem.W.keepIn K (.ref C))))))))
theorem eB_ok {K : PySem.W.Frag} {C : Addr} (h : eB K C = true) : ExcC K C ∧ XfC K C ∧ PySem.W.keepIn K (.ref C) = true := by
  simp only [eB, Bool.and_eq_true, decide_eq_true_eq] at h
  obtain ⟨h1, h2, h3, h4, h5, h6, h7, h8, h9⟩ := h
  exact ⟨⟨h1, h2, h3, h4, h5, h6, h7, h8⟩, ⟨h1, h2, h3, h4⟩, h9⟩
theorem eB_mk {K : PySem.W.Frag} {C : Addr} (h1 : PySem.W.findIn K (.ref C) "__getattribute__" = some (some (.builtin "BaseException.__getattribute__"))) (h2 : PySem.W.findIn K (.ref C) "__getattr__" = some none) (h3 : PySem.W.subIn K (.ref C) (.type "BaseException") = some true) (h4 : PySem.W.hasDictIn K C = true)
    (h5 : PySem.W.findIn K (.ref C) "__class__" = some (some (.builtin "object.__class__"))) (h6 : PySem.W.specialIn K (.builtin "object.__class__") "__get__" = some (some (.builtin "getset_descriptor.__get__"))) (h7 : PySem.W.takesIn K (.builtin "object.__class__") = some true) (h8 : PySem.W.mroIn K C (.type "object") = some true) (h9 : PySem.W.keepIn K (.ref C) = true) : eB K C = true := by
  simp only [eB, Bool.and_eq_true, decide_eq_true_eq]
  exact ⟨h1, h2, h3, h4, h5, h6, h7, h8, h9⟩
theorem cls_some {K : PySem.W.Frag} {C : Addr} (h : PySem.W.hasDictIn K C = true) : (PySem.W.clsIn K C).isSome = true := by
  obtain ⟨cd, hc, _⟩ := PySem.W.any_some h
  rw [hc]; rfl
theorem ys1 {ys : List V} {n : Str} (h : ys.length = [n].length) : ∃ y, ys = [y] := by
  match ys, h with
  | [y], _ => exact ⟨y, rfl⟩
abbrev s_i_InvalidText : Stmt := inClass (topS 2) 0
theorem sc_i_InvalidText : FnScope ["self", "position"] ["self", "position"] (defScope s_i_InvalidText) := ⟨rfl, rfl, rfl, by decide +kernel, rfl, by decide +kernel, by decide +kernel⟩
section
variable {P : Program} {w : World} {K : PySem.W.Frag} {mg : Str → Option Value} {base : Heap}
theorem ok_i_InvalidText {C : Addr} (hO : OexC K C) (h0 : PySem.W.findIn K (.ref C) "position" = some none) {f : Addr} {fd : FuncData} (F : Fun K "__init__" "InvalidText.__init__" s_i_InvalidText f fd) : FnOk P w K mg base CX0 1 f fd ["self", "position"] (sp_init C ["position"]) := by
  refine F.ok (k := 0) sc_i_InvalidText (fun vs H Q E h => ?_) (fun cdv A outer s H vs Q E hr h => ?_)
  · obtain ⟨a, ys, rfl, hl, _⟩ := h
    obtain ⟨y, rfl⟩ := ys1 hl
    rfl
  · obtain ⟨a, ys, rfl, hl, ea, k⟩ := h
    obtain ⟨y, rfl⟩ := ys1 hl
    refine ⟨_, pss_one (ps_ost (pv 0) (pv 1)), ?_⟩
    walk_at "go"
    with_reducible refine rd_ost ?_
    walk_at "go"
    refine ⟨a, C, rfl, hO, h0, .inl ⟨ea, fun dx n1 n2 => ?_⟩⟩
    exact k dx _ n1 n2 upd_same (by rw [upd_ne n2, upd_same]; rfl) fun b b1 b2 => by rw [upd_ne b1, upd_ne b2]
end
theorem new_mk {P : Program} {w : World} {K : PySem.W.Frag} {mg : Str → Option Value} {base : Heap} {x qn : Str} {C fI : Addr} {names ps : List Str} {st : Stmt} {oc : Value} {od an : Option Addr} {osl : Array (Option Value)} {kV dc pm cd ct : Value}
    {nm q : Str} {N : Addr} {bs bm : List Value} {sn : List Str} {sub : List Value} {ab : Bool} {col : Option Bool} {dd : Option Addr} {k0 k1 k2 k3 k5 : Option Value}
    (g : mg x = some (.ref C)) (o : K.lookup C = some (PySem.excClassObj nm q C N bs bm true sn sub ab col dd k0 k1 k2 k3 k5 "ValueError.__new__")) (r : PySem.HandSPX.refsVE bm = true)
    (sa : PySem.W.findIn K (.ref C) "__setattr__" = some (some (.builtin "object.__setattr__"))) (tC : PySem.W.typeIn K (.ref C) = some (.type "type")) (e : eB K C = true)
    (iC : PySem.W.findIn K (.ref C) "__init__" = some (some (.ref fI))) (tI : PySem.W.typeIn K (.ref fI) = some (.type "function"))
    (l : K.lookup fI = some ⟨oc, od, .func (PySem.W.fnOf "__init__" qn (defArgs st) (defBody st) (defScope st) .none kV dc pm an cd ct), osl⟩) (c : PySem.W.codeIn K cd qn = true) (k : PySem.W.keepIn K (.ref fI) = true)
    (b : ∀ (kV dc pm : Value) (an : Option Addr) (cd ct : Value) (us : List Value), us.length = ps.length → bindArgs (PySem.W.fnOf "__init__" qn (defArgs st) (defBody st) (defScope st) .none kV dc pm an cd ct) ⟨us, []⟩ = pure (ps.zip us))
    (ok : OexC K C → ∀ {f : Addr} {fd : FuncData}, Fun K "__init__" qn st f fd → FnOk P w K mg base CX0 1 f fd ps (sp_init C names)) : NewAt P w K mg base x C names := by
  have hO : OexC K C := ⟨⟨nm, q, N, bs, bm, sn, sub, ab, col, dd, k0, k1, k2, k3, k5, o, r⟩, sa, (eB_ok e).1.hs, tC, (eB_ok e).2.2⟩
  have F := fun_mk l c k
  exact ⟨⟨fI, _, ps, g, hO, iC, tI, ok hO F, F.binds b⟩⟩


theorem atm_mk {K : PySem.W.Frag} {C : Addr} {m q : Str} {st : Stmt} {ps : List Str} {f : Addr} {oc : Value} {od an : Option Addr} {osl : Array (Option Value)} {kV dc pm cd ct : Value}
    (a : PySem.W.findIn K (.ref C) m = some (some (.ref f))) (i : PySem.W.isFn K (.ref f) = true) (l : K.lookup f = some ⟨oc, od, .func (PySem.W.fnOf m q (defArgs st) (defBody st) (defScope st) .none kV dc pm an cd ct), osl⟩) (c : PySem.W.codeIn K cd q = true) (k : PySem.W.keepIn K (.ref f) = true)
    (b : ∀ (kV dc pm : Value) (an : Option Addr) (cd ct : Value) (us : List Value), us.length = ps.length → bindArgs (PySem.W.fnOf m q (defArgs st) (defBody st) (defScope st) .none kV dc pm an cd ct) ⟨us, []⟩ = pure (ps.zip us)) : AtM K C m q st ps :=
  ⟨⟨f, _, fun_mk l c k, ⟨a, i, k⟩, (fun_mk l c k).binds b⟩⟩
/-- all that is told of the machine -/
structure MachAt (K : PySem.W.Frag) (mg : Str → Option Value) (C : Addr) : Prop where
  g : mg "Machine" = some (.ref C)
  T : MTxt K mg C
  mks : PySem.W.makesIn K C = true
  kc : PySem.W.keepIn K (.ref C) = true
  m0 : AtM K C "__init__" "Machine.__init__" s_Machine___init__ ["self", "alphabet", "pattern"]
  m1 : AtM K C "step" "Machine.step" s_Machine_step ["self", "state", "character"]
  m2 : AtM K C "accepts" "Machine.accepts" s_Machine_accepts ["self", "state"]
  m3 : AtM K C "_judge" "Machine._judge" s_Machine__judge ["self", "pattern"]
  m4 : AtM K C "_piece" "Machine._piece" s_Machine__piece ["self", "pattern"]
  m5 : AtM K C "_place" "Machine._place" s_Machine__place ["self", "characters"]
  m6 : AtM K C "_copies" "Machine._copies" s_Machine__copies ["self", "part", "low", "high"]
  m7 : AtM K C "_loop" "Machine._loop" s_Machine__loop ["self", "part"]
  m8 : AtM K C "_chain" "Machine._chain" s_Machine__chain ["self", "pieces"]
  m9 : AtM K C "_link" "Machine._link" s_Machine__link ["self", "before", "after"]
theorem mach_mk {K : PySem.W.Frag} {h : Heap} {mg : Str → Option Value} {C : Addr} (X : K.In h) (G : h.Ns mainGlobals mg) (aC : PySem.W.nsIn K mainGlobals "Machine" = some (some (.ref C)))
    (pg : PySem.W.plainGet K C Str.empty = true) (hd : PySem.W.hasDictIn K C = true) (po : PySem.W.plainOver K C = true) (sa : PySem.W.findIn K (.ref C) "__setattr__" = some (some (.builtin "object.__setattr__")))
    (nR : PySem.W.findIn K (.ref C) "_reading" = some none) (nF : PySem.W.findIn K (.ref C) "_following" = some none) (nV : PySem.W.findIn K (.ref C) "_verdict" = some none) (cS : ∃ u, mg "START" = some u ∧ RelV (.int 1) u)
    (mk : PySem.W.makesIn K C = true) (kc : PySem.W.keepIn K (.ref C) = true)
    (m0 : AtM K C "__init__" "Machine.__init__" s_Machine___init__ ["self", "alphabet", "pattern"])
    (m1 : AtM K C "step" "Machine.step" s_Machine_step ["self", "state", "character"])
    (m2 : AtM K C "accepts" "Machine.accepts" s_Machine_accepts ["self", "state"])
    (m3 : AtM K C "_judge" "Machine._judge" s_Machine__judge ["self", "pattern"])
    (m4 : AtM K C "_piece" "Machine._piece" s_Machine__piece ["self", "pattern"])
    (m5 : AtM K C "_place" "Machine._place" s_Machine__place ["self", "characters"])
    (m6 : AtM K C "_copies" "Machine._copies" s_Machine__copies ["self", "part", "low", "high"])
    (m7 : AtM K C "_loop" "Machine._loop" s_Machine__loop ["self", "part"])
    (m8 : AtM K C "_chain" "Machine._chain" s_Machine__chain ["self", "pieces"])
    (m9 : AtM K C "_link" "Machine._link" s_Machine__link ["self", "before", "after"])
    : ∃ C, MachAt K mg C := ⟨C, PySem.W.mg_of X G aC, ⟨⟨pg, hd, po, sa⟩, nR, nF, nV, cS⟩, mk, kc, m0, m1, m2, m3, m4, m5, m6, m7, m8, m9⟩
section
variable {P : Program} {w : World} {K : PySem.W.Frag} {mg : Str → Option Value} {base : Heap}
theorem Mtd.mkr {k : Nat} {x : Str} {C : Addr} {ps : List Str} {sp : Sp} (M : Mtd P w K mg base k C "__init__" ps sp) (mk : PySem.W.makesIn K C = true) (kc : PySem.W.keepIn K (.ref C) = true) (g : mg x = some (.ref C)) : Mkr P w K mg base k x C ps sp := by
  obtain ⟨f, fd, me, b, F⟩ := M.ex
  exact ⟨f, fd, ⟨mk, me.at_, me.fn, kc⟩, b, F, g⟩
theorem piece_tower (B : Blt mg) {C : Addr} (M : MachAt K mg C) (Fc : At K mg "_choice" s__choice ["pieces"]) : ∀ n, Mtd P w K mg base (3 * n + 4) C "_piece" ["self", "pattern"] (sp_piece C n)
  | 0 => ok_piece (k := 0) M.T (ok_place B M.T M.m5) (ok_choice Fc) (ok_chain M.T (ok_link B M.T M.m9) M.m8) (M.m4.none 0 sc_Machine__piece) (M.m6.none 2 sc_Machine__copies) M.m4
  | n + 1 => by
    have ih := piece_tower B M Fc n
    have Gl := ok_link (P := P) (w := w) (base := base) B M.T M.m9
    have Go := ok_loop (n := n) (k := 3 * n + 3) M.T Gl ih M.m7
    have Gc := ok_copies (n := n) (k := 3 * n + 3) B M.T ih Go M.m6
    exact ok_piece (n := n + 1) (k := 3 * n + 3) M.T (ok_place B M.T M.m5) (ok_choice Fc) (ok_chain M.T Gl M.m8) ih Gc M.m4
theorem judge_tower (B : Blt mg) {C : Addr} (M : MachAt K mg C) (Fc : At K mg "_choice" s__choice ["pieces"]) : ∀ j, Mtd P w K mg base (j + 17) C "_judge" ["self", "pattern"] (sp_judge C 4 j)
  | 0 => ok_judge (n := 4) (j := 0) (k := 15) M.T (piece_tower B M Fc 4) (M.m3.none 15 sc_Machine__judge) M.m3
  | j + 1 => ok_judge (n := 4) (j := j + 1) (k := j + 16) M.T ((piece_tower B M Fc 4).mono (by omega)) (judge_tower B M Fc j) M.m3
theorem holds_tower (B : Blt mg) (Fh : At K mg "_holds" s__holds ["verdict", "state"]) : ∀ n, Cal P w K mg base (n + 1) "_holds" ["verdict", "state"] (spH n)
  | 0 => Fh.none 0 sc__holds
  | n + 1 => ok_holds1 (n := n) (k := n) B (holds_tower B Fh n) Fh
theorem matches_all (B : Blt mg) {C CI : Addr} (M : MachAt K mg C) (Fc : At K mg "_choice" s__choice ["pieces"]) (Fh : At K mg "_holds" s__holds ["verdict", "state"]) (N : NewAt P w K mg base "InvalidText" CI ["position"]) (Fk : At K mg "check_text" s_check_text ["alphabet", "text"])
    (Fm : At K mg "matches" s_matches ["alphabet", "pattern", "text"]) : CalX P w K mg base 23 "matches" ["alphabet", "pattern", "text"] (sp_matches CI 4 3) := by
  have Gi := ok_minit (n := 4) (j := 3) (k := 19) M.T (judge_tower (P := P) (w := w) (base := base) B M Fc 3) M.m0
  have Ga := ok_accepts (n := 3) (k := 4) M.T (holds_tower (P := P) (w := w) (base := base) B Fh 4) M.m2
  exact ok_matches (k := 18) M.T (ok_check B N Fk) (Gi.mkr M.mks M.kc M.g) (ok_step B M.T M.m1) (Ga.mono (by decide)) Fm
end

end Cs
namespace Cs
open PySem L2
open PyProof.Rows (envOfC)
/-! the source of draws for one turn: a new list -/
def sp_source (K : PySem.W.Frag) : Sp := fun vs H Q _ => ∃ (a : Addr) (ns : List Int) (k : Int), vs = [.ref a, .int k] ∧ SqL K H a (ns.map V.int) ∧ 0 ≤ k ∧ k < 1000 ∧ ∀ (p : Addr) (H' : Hp), H p = none → Same H H' → Src p (2 ^ 39) H' → Q (.ref p) H'
theorem at_int {ns : List Int} {k : Int} (h0 : 0 ≤ k) (h1 : 0 < ns.length) : ∃ c : Int, atI (ns.map V.int) (k % (((ns.map V.int).length : Nat) : Int)) = some (.int c) := by
  have hl : (ns.map V.int).length = ns.length := List.length_map ..
  have p0 : 0 ≤ k % ((ns.length : Nat) : Int) := Int.emod_nonneg _ (by omega)
  have p1 : k % ((ns.length : Nat) : Int) < ns.length := Int.emod_lt_of_pos _ (by omega)
  obtain ⟨j, hj⟩ : ∃ j : Nat, k % ((ns.length : Nat) : Int) = (j : Int) := ⟨(k % ((ns.length : Nat) : Int)).toNat, by omega⟩
  have hj2 : j < ns.length := by omega
  refine ⟨ns[j], ?_⟩
  rw [hl, hj]
  exact atI_nat (by rw [List.getElem?_map, List.getElem?_eq_getElem hj2]; rfl)
section
variable {P : Program} {w : World} {K : PySem.W.Frag} {mg : Str → Option Value} {base : Heap}
theorem ok_source (B : Blt mg) (F : At K mg "_law_source" s__law_source ["_law_script", "_law_k"]) : Cal P w K mg base 1 "_law_source" ["_law_script", "_law_k"] (sp_source K) := by
  refine F.ok sc__law_source (fun vs H Q E h => ?_) (fun f cdv A outer s H vs Q E hr h => ?_)
  · obtain ⟨a, ns, k, rfl, _⟩ := h
    rfl
  · obtain ⟨a, ns, k, rfl, hS, k0, k1, kk⟩ := h
    refine ⟨_, (pss_cons (ps_set (i := 2) sc__law_source.nd rfl (Or.inl rfl) pe_int)
    (pss_cons (ps_set (i := 3) sc__law_source.nd rfl (Or.inl rfl) pe_int)
    (pss_cons (ps_if (pt_cmpR op_gt (pe_callB (call_len_seqK (K := K) (by rfl)) (by rfl) B.len PySem.boot_len (pa_cons (pv 0) pa_nil)) pe_int (nomark _))
    (pss_one (ps_set (i := 2) sc__law_source.nd rfl (Or.inl rfl) (pe_ix (ix_listK (K := K) (by rfl)) (pv 0) (pe_op op_mod (pv 1) (pe_callB (call_len_seqK (K := K) (by rfl)) (by rfl) B.len PySem.boot_len (pa_cons (pv 0) pa_nil))) (fun _ _ => rfl))))
    pss_nil)
    (pss_cons (ps_if (PW.pt (pw_and (pt_cmpR op_lt (pv 1) (pe_callB (call_len_seqK (K := K) (by rfl)) (by rfl) B.len PySem.boot_len (pa_cons (pv 0) pa_nil)) (nomark _)) (pw_and1 (pt_cmpR op_ge (pv 2) (pe_op op_pow pe_int pe_int) (nomark _)))))
    (pss_one (ps_set (i := 3) sc__law_source.nd rfl (Or.inl rfl) (pv 2)))
    pss_nil)
    (pss_one (ps_ret (pe_lst (pa_cons (pv 3) (pa_cons (pe_op op_add (pe_op op_add (pe_op op_mod (pv 2) pe_int) (pe_op op_mul pe_int (pv 1))) pe_int) (pa_cons pe_int pa_nil)))))))))), ?_⟩
    have fin : ∀ d c : Int, (c % 2147483647 + 7919000 * k + 104729) < 2 ^ 40 ∧ ∀ p, H p = none → Q (.ref p) (upd H p (.lst [.int d, .int (c % 2147483647 + 7919000 * k + 104729), .int 0])) := fun d c => by
      have h0 : 0 ≤ c % 2147483647 := Int.emod_nonneg _ (by decide)
      have h1 : c % 2147483647 < 2147483647 := Int.emod_lt_of_pos _ (by decide)
      refine ⟨by omega, fun p hp => kk p _ hp (fun b o e => by rw [upd_ne (ne_of_none e hp)]; exact e) ⟨d, _, 0, upd_same, by omega, by omega, by omega, by omega⟩⟩
    walk_at "go"
    refine rd_len (.inl hS) ?_
    walk_at "go"
    refine ite2 (fun hd => ?_) (fun hd => ?_)
    · walk_at "go"
      refine rd_len (.inl hS) ?_
      have hl : 0 < ns.length := by
        have := of_decide_eq_true hd
        rw [List.length_map] at this
        omega
      refine rd_i (by show (0 : Int) < _; rw [List.length_map]; omega) ?_
      obtain ⟨c, hc⟩ := at_int k0 hl
      refine rd_ixl hS hc ?_
      walk_at "go"
      refine rd_len (.inl hS) ?_
      walk_at "go"
      refine ite2 (fun hd2 => ?_) (fun hd2 => ?_)
      · walk_at "go"
        refine rd_i ⟨by decide, by decide, by decide⟩ ?_
        walk_at "go"
        refine ite2 (fun hd3 => ?_) (fun hd3 => ?_)
        · walk_at "go"
          refine rd_i (by decide) ?_
          walk_at "go"
          refine rd_i (.inl (by decide)) ?_
          walk_at "go"
          exact ⟨by show 3 ≤ sizeLine; decide, (fin _ _).2⟩
        · walk_at "go"
          refine rd_i (by decide) ?_
          walk_at "go"
          refine rd_i (.inl (by decide)) ?_
          walk_at "go"
          exact ⟨by show 3 ≤ sizeLine; decide, (fin _ _).2⟩
      · walk_at "go"
        refine rd_i (by decide) ?_
        walk_at "go"
        refine rd_i (.inl (by decide)) ?_
        walk_at "go"
        exact ⟨by show 3 ≤ sizeLine; decide, (fin _ _).2⟩
    · walk_at "go"
      refine rd_len (.inl hS) ?_
      walk_at "go"
      refine ite2 (fun hd2 => ?_) (fun hd2 => ?_)
      · exfalso
        have := of_decide_eq_true hd2
        have hd : ¬ ((0 : Int) < ((ns.map V.int).length : Nat)) := fun z => hd (decide_eq_true z)
        omega
      · walk_at "go"
        refine rd_i (by decide) ?_
        walk_at "go"
        refine rd_i (.inl (by decide)) ?_
        walk_at "go"
        exact ⟨by show 3 ≤ sizeLine; decide, (fin _ _).2⟩
end

end Cs
namespace Cs
open PySem L2
open PyProof.Rows (envOfC)
/-! an alphabet of m distinct characters -/
def allSigns : List Nat := [97, 98, 99, 100, 101, 102, 103, 104, 105, 106, 107, 108, 109, 110, 111, 112, 113, 114, 115, 116, 117, 118, 119, 120, 121, 122, 48, 49, 50, 51, 52, 53, 54, 55, 56, 57, 32, 45, 46, 95]
theorem allSigns_eq : Str.ofString "abcdefghijklmnopqrstuvwxyz0123456789 -." ++ Str.ofString "_" = S allSigns := by decide +kernel
theorem allSigns_nd : allSigns.Nodup := by decide +kernel
def sp_alphabet : Sp := fun vs H Q _ => ∃ (a : Addr) (m : Int) (n : Nat), vs = [.ref a, .int m] ∧ Src a (n + 6) H ∧ 1 ≤ m ∧ m ≤ 6 ∧ ∀ (al : List Nat) (H' : Hp), Alp al → (al.length : Int) = m → Src a n H' → Kp a H H' → Q (.str (S al)) H'
theorem use_alphabet {a : Addr} {m : Int} {n : Nat} {H : Hp} {Q : VK} {E : XK} (h : Src a (n + 6) H) (h0 : 1 ≤ m) (h1 : m ≤ 6) (k : ∀ (al : List Nat) (H' : Hp), Alp al → (al.length : Int) = m → Src a n H' → Kp a H H' → Q (.str (S al)) H') : sp_alphabet [.ref a, .int m] H Q E :=
  ⟨a, m, n, rfl, h, h0, h1, k⟩
theorem perm_erase {α : Type} : ∀ {l : List α} {j : Nat} {x : α}, l[j]? = some x → l.Perm (x :: l.eraseIdx j)
  | [], _, _, h => by simp at h
  | a :: l, 0, x, h => by
    have e : a = x := by simpa using h
    subst e
    exact List.Perm.refl _
  | a :: l, j + 1, x, h => by
    have ih := perm_erase (l := l) (j := j) (x := x) (by simpa using h)
    exact (List.Perm.cons a ih).trans (List.Perm.swap x a _)
theorem perm_pop {α : Type} {l : List α} {m : List α} {j : Nat} {x : α} (h : l[j]? = some x) : (m ++ l).Perm ((m ++ [x]) ++ l.eraseIdx j) := by
  rw [List.append_assoc]
  exact List.Perm.append_left m (perm_erase h)
section
variable {P : Program} {w : World} {K : PySem.W.Frag} {mg : Str → Option Value} {base : Heap}
theorem ok_alphabet (B : Blt mg) (G__law_draw : Cal P w K mg base 1 "_law_draw" ["_law_source_here", "_law_many"] sp_draw) (F : At K mg "_law_alphabet" s__law_alphabet ["_law_source_here", "_law_many"]) : Cal P w K mg base 2 "_law_alphabet" ["_law_source_here", "_law_many"] sp_alphabet := by
  refine F.ok sc__law_alphabet (fun vs H Q E h => ?_) (fun f cdv A outer s H vs Q E hr h => ?_)
  · obtain ⟨a, m, n, rfl, _⟩ := h
    rfl
  · obtain ⟨a, m, n, rfl, hS, m0, m1, k⟩ := h
    refine ⟨_, (pss_cons (ps_set (i := 2) sc__law_alphabet.nd rfl (Or.inr rfl) (pe_callTy (call_list_str rfl) (by rfl) B.list (by decide +kernel) (pa_cons (pe_op op_add_str pe_str pe_str) pa_nil)))
    (pss_one (ps_ret (pe_joinK (K := K) (by rfl) pe_str (pe_lc (own := [("_law_k", 3)]) rfl sc__law_alphabet.nd (pi_range1 (by rfl) B.range (pa_cons (pv 1) pa_nil)) (blkOk_by (N := ["_law_source_here", "_law_many", "_law_left", "_law_k"]) (sc := defScope s__law_alphabet) (by decide +kernel)) (fun _ _ _ _ _ => (pg_name (i := 3) sc__law_alphabet.nd rfl (Or.inl rfl))) (fun _ _ _ _ _ => pts_nil) (fun _ _ _ _ _ => (pe_bmK (K := K) (by rfl) PySem.F.plainAttrs_list PySem.F.slot_list_pop PySem.F.type_list_pop mt_popAt (pv 2) (pa_cons (pe_c G__law_draw (hr.mono (by first | decide | omega)) (pa_cons (pv 0) (pa_cons (pe_callB (call_len_seqK (K := K) (by rfl)) (by rfl) B.len PySem.boot_len (pa_cons (pv 2) pa_nil)) pa_nil))) pa_nil)))))))), ?_⟩
    walk_at "go"
    refine ⟨_, _, rfl, rfl, by decide +kernel, ?_⟩
    rw [allSigns_eq]
    refine ⟨_, rfl, by decide +kernel, fun L hL => ?_⟩
    walk_at "go"
    refine rd_rng1j (by omega) (by omega) ?_
    intro D hD
    have La : L ≠ a := hS.ne hL
    have DL : D ≠ L := fun z => by rw [z, upd_same] at hD; cases hD
    have hD0 : H D = none := by rw [upd_ne DL] at hD; exact hD
    have Da : D ≠ a := hS.ne hD0
    refine lc_range (lo := 0) (n := m.toNat) (fun i H' => ∃ left made : List Nat, H' L = some (.lst (left.map fun c => V.str (S [c]))) ∧ H' D = some (.lst (made.map fun c => V.str (S [c]))) ∧ (made ++ left).Perm allSigns ∧ made.length = i ∧ i ≤ 6 ∧ Src a (n + (6 - i)) H' ∧ Kp a H H') ?_ ?_ ?_
    · refine ⟨allSigns, [], ?_, upd_same, by simp, rfl, by omega, (hS.lay La).lay Da, (Kp.refl.lay hL).lay hD0⟩
      rw [upd_ne DL.symm, upd_same, signs_S, List.map_map]; rfl
    · rintro i H' hi ⟨left, made, eL, eD, hp, hl, i6, hS', kp⟩
      have hlen : made.length + left.length = 40 := by
        have := hp.length_eq
        rw [List.length_append] at this
        exact this
      walk_at "go"
      refine ⟨rfl, ?_⟩
      walk_at "go"
      refine ⟨.inl ⟨rfl, _, SqL.of eL⟩, ?_⟩
      walk_at "go"
      refine rd_len (.inl (SqL.of eL)) ?_
      walk_at "go"
      have e6 : n + (6 - i) = n + (6 - (i + 1)) + 1 := by omega
      rw [e6] at hS'
      refine use_draw hS' (by rw [List.length_map]; omega) (by rw [List.length_map]; omega) fun d H2 d0 d1 hS2 k2 => ?_
      walk_at "go"
      rw [List.length_map] at d1
      obtain ⟨j, hj⟩ : ∃ j : Nat, d = (j : Int) := ⟨d.toNat, by omega⟩
      subst hj
      have hj2 : j < left.length := by omega
      refine ⟨L, _, _, j, V.str (S [left[j]]), rfl, rfl, k2.at La eL, by omega, by omega, ?_, by rw [List.getElem?_map, List.getElem?_eq_getElem hj2]; rfl, ?_⟩
      · rw [List.length_map]; exact seqIx hj2
      · refine ⟨_, by rw [upd_ne DL]; exact k2.at Da eD, by rw [List.length_map]; show _ < sizeLine; rw [PySem.sizeLine_eq]; omega, left.eraseIdx j, made ++ [left[j]], ?_, ?_, ?_, ?_, by omega, (hS2.lay La).lay Da, ?_⟩
        · rw [upd_ne DL.symm, upd_same]
          congr 2
          exact map_erase _ _ _
        · rw [upd_same, List.map_append]; rfl
        · exact (perm_pop (List.getElem?_eq_getElem hj2)).symm.trans hp
        · rw [List.length_append, hl]; rfl
        · exact ((kp.trans k2).lay hL).lay hD0
    · rintro H' ⟨left, made, eL, eD, hp, hl, i6, hS', kp⟩
      refine ⟨_, D, made.map fun c => S [c], rfl, rfl, .inl (SqL.of (by rw [eD, List.map_map]; rfl)), ?_, ?_⟩
      · rw [sum_signs, List.length_map]
        show made.length + made.length * 0 ≤ _
        omega
      · walk_at "go"
        show Q (.str (Txt.join (Str.ofString "") (made.map fun c => S [c]))) H'
        rw [empty_S, join_signs]
        have nd : (made ++ left).Nodup := (hp.nodup_iff).mpr allSigns_nd
        refine k made H' ⟨(List.nodup_append.mp nd).1, by omega, by omega, fun c hc => ?_⟩ (by omega) (hS'.mono (by omega)) kp
        exact hp.subset (List.mem_append_left _ hc)
end

end Cs
namespace Cs
open PySem L2
open PyProof.Rows (envOfC)
/-! pairs of patterns that match the same texts -/
abbrev pM (p : Pt) : Pt := .again p 0 none
abbrev pE : Pt := .row []
abbrev pT : Pt := .all []
abbrev pN : Pt := .any []
def pairsP (p q r : Pt) : List (Pt × Pt) := [
  (.no (.no p), p), (.row [.row [p, q], r], .row [p, .row [q, r]]),
  (.no (.any [p, q]), .all [.no p, .no q]),
  (.no (.all [p, q]), .any [.no p, .no q]),
  (.any [p, q], .any [q, p]), (.all [p, q], .all [q, p, q]), (.all [p, pT], p),
  (.row [p, .any [q, r]], .any [.row [p, q], .row [p, r]]),
  (.row [.any [p, q], r], .any [.row [p, r], .row [q, r]]),
  (.any [p, pN], p), (.row [p], p), (.row [pE, p], p),
  (.row [p, pN], pN), (.row [p, pE, q], .row [p, q]),
  (pM p, .any [pE, .row [p, pM p]]), (.again p 2 none, .row [p, p, pM p]),
  (.again p 1 (some 2), .any [p, .row [p, p]]), (.again p 1 (some 1), p),
  (.again p 0 (some 2), .row [.any [pE, p], .any [pE, p]]),
  (.any [p, .no p], pT), (.all [p, .no p], pN), (.any [p, p], .any [p]),
  (.again (pM p) 0 none, pM p), (.again p 0 (some 0), pE), (.row [pM p, pM p], pM p),
  (pN, .no pT), (.no pE, .all [pT, .no pE]),
  (.any [p, q, r, p, q], .any [q, r, p]), (.all [p, q, r, p, q], .all [q, r, p]),
  (.all [pT, pT, pT, p], p), (.any [p, q, r, pN, p], .any [r, q, p])]
theorem lrow0 (w : List Nat) : (Pt.row []).L w ↔ w = [] := by simp [Pt.L, Pt.LRow]
theorem lrow1 (p : Pt) (w : List Nat) : (Pt.row [p]).L w ↔ p.L w := by
  simp only [Pt.L, Pt.LRow]
  exact ⟨fun ⟨u, v, e, h, z⟩ => by rw [z, List.append_nil] at e; rw [e]; exact h, fun h => ⟨w, [], (List.append_nil w).symm, h, rfl⟩⟩
theorem lrow_cons (p : Pt) (ps : List Pt) (w : List Nat) : (Pt.row (p :: ps)).L w ↔ ∃ u v, w = u ++ v ∧ p.L u ∧ (Pt.row ps).L v := by simp only [Pt.L, Pt.LRow]
theorem lrow2 (p q : Pt) (w : List Nat) : (Pt.row [p, q]).L w ↔ ∃ u v, w = u ++ v ∧ p.L u ∧ q.L v := by
  rw [lrow_cons]; simp only [lrow1]
theorem lany (ps : List Pt) (w : List Nat) : (Pt.any ps).L w ↔ Pt.LAny ps w := by rw [Pt.L]
theorem lall (ps : List Pt) (w : List Nat) : (Pt.all ps).L w ↔ Pt.LAll ps w := by rw [Pt.L]
theorem lno (p : Pt) (w : List Nat) : (Pt.no p).L w ↔ ¬ p.L w := by rw [Pt.L]
theorem lmany (p : Pt) (w : List Nat) : (pM p).L w ↔ ∃ n, Pw p.L n w := by
  rw [pM, Pt.L]
  exact ⟨fun ⟨n, _, _, h⟩ => ⟨n, h⟩, fun ⟨n, h⟩ => ⟨n, Nat.zero_le _, fun _ e => (nomatch e), h⟩⟩
theorem lagain (p : Pt) (lo : Nat) (hi : Option Nat) (w : List Nat) : (Pt.again p lo hi).L w ↔ ∃ n, lo ≤ n ∧ (∀ h, hi = some h → n ≤ h) ∧ Pw p.L n w := by rw [Pt.L]
theorem pw0 (A : Lg) (w : List Nat) : Pw A 0 w ↔ w = [] := by rw [Pw]
theorem pwS (A : Lg) (n : Nat) (w : List Nat) : Pw A (n + 1) w ↔ ∃ u v, w = u ++ v ∧ A u ∧ Pw A n v := by rw [Pw]
theorem pw1 (A : Lg) (w : List Nat) : Pw A 1 w ↔ A w := by
  rw [pwS]
  simp only [pw0]
  exact ⟨fun ⟨u, v, e, h, z⟩ => by rw [z, List.append_nil] at e; rw [e]; exact h, fun h => ⟨w, [], (List.append_nil w).symm, h, rfl⟩⟩
theorem pw2 (A : Lg) (w : List Nat) : Pw A 2 w ↔ ∃ u v, w = u ++ v ∧ A u ∧ A v := by
  rw [pwS]; simp only [pw1]
theorem pw_many {A : Lg} : ∀ {m : Nat} {w : List Nat}, Pw (fun w => ∃ n, Pw A n w) m w → ∃ n, Pw A n w
  | 0, w, h => ⟨0, by rw [pw0] at h ⊢; exact h⟩
  | m + 1, w, h => by
    rw [pwS] at h
    obtain ⟨u, v, e, ⟨n, h1⟩, h2⟩ := h
    obtain ⟨k, h2⟩ := pw_many h2
    exact ⟨n + k, (Pw_add A n k w).mpr ⟨u, v, e, h1, h2⟩⟩
theorem pr14 (p q : Pt) (w : List Nat) : (Pt.row [p, pE, q]).L w ↔ ∃ u v, w = u ++ v ∧ p.L u ∧ q.L v := by
  rw [lrow_cons]
  simp only [lrow_cons pE [q], lrow1, lrow0]
  exact ⟨fun ⟨u, v, e, h, u', v', e', z, h'⟩ => ⟨u, v, e, h, by rw [e', z, List.nil_append]; exact h'⟩, fun ⟨u, v, e, h, h'⟩ => ⟨u, v, e, h, [], v, rfl, rfl, h'⟩⟩
theorem pr15 (A : Lg) (w : List Nat) : (∃ n, Pw A n w) ↔ w = [] ∨ ∃ u v, w = u ++ v ∧ A u ∧ ∃ n, Pw A n v := by
  constructor
  · rintro ⟨n, h⟩
    cases n with
    | zero => exact .inl ((pw0 A w).mp h)
    | succ n =>
      obtain ⟨u, v, e, h1, h2⟩ := (pwS A n w).mp h
      exact .inr ⟨u, v, e, h1, n, h2⟩
  · rintro (h | ⟨u, v, e, h1, n, h2⟩)
    · exact ⟨0, (pw0 A w).mpr h⟩
    · exact ⟨n + 1, (pwS A n w).mpr ⟨u, v, e, h1, h2⟩⟩
theorem pr16 (p : Pt) (w : List Nat) : (Pt.again p 2 none).L w ↔ (Pt.row [p, p, pM p]).L w := by
  rw [lagain, lrow_cons]
  simp only [lrow2, lmany]
  constructor
  · rintro ⟨n, h2, _, h⟩
    obtain ⟨m, rfl⟩ : ∃ m, n = m + 2 := ⟨n - 2, by omega⟩
    obtain ⟨u, v, e, h1, h2⟩ := (pwS _ _ w).mp h
    obtain ⟨u', v', e', h1', h2'⟩ := (pwS _ _ v).mp h2
    exact ⟨u, v, e, h1, u', v', e', h1', m, h2'⟩
  · rintro ⟨u, v, e, h1, u', v', e', h1', m, h2'⟩
    exact ⟨m + 2, by omega, fun _ z => (nomatch z), (pwS _ _ w).mpr ⟨u, v, e, h1, (pwS _ _ v).mpr ⟨u', v', e', h1', h2'⟩⟩⟩
theorem pr17 (p : Pt) (w : List Nat) : (Pt.again p 1 (some 2)).L w ↔ p.L w ∨ ∃ u v, w = u ++ v ∧ p.L u ∧ p.L v := by
  rw [lagain]
  constructor
  · rintro ⟨n, h1, h2, h⟩
    have h2 := h2 2 rfl
    obtain rfl | rfl : n = 1 ∨ n = 2 := by omega
    · exact .inl ((pw1 _ w).mp h)
    · exact .inr ((pw2 _ w).mp h)
  · rintro (h | h)
    · exact ⟨1, by omega, fun _ z => by cases z; omega, (pw1 _ w).mpr h⟩
    · exact ⟨2, by omega, fun _ z => by cases z; omega, (pw2 _ w).mpr h⟩
theorem pr18 (p : Pt) (w : List Nat) : (Pt.again p 1 (some 1)).L w ↔ p.L w := by
  rw [lagain]
  constructor
  · rintro ⟨n, h1, h2, h⟩
    have h2 := h2 1 rfl
    obtain rfl : n = 1 := by omega
    exact (pw1 _ w).mp h
  · exact fun h => ⟨1, by omega, fun _ z => by cases z; omega, (pw1 _ w).mpr h⟩
theorem pr19 (p : Pt) (w : List Nat) : (Pt.again p 0 (some 2)).L w ↔ ∃ u v, w = u ++ v ∧ (u = [] ∨ p.L u) ∧ (v = [] ∨ p.L v) := by
  rw [lagain]
  constructor
  · rintro ⟨n, h1, h2, h⟩
    have h2 := h2 2 rfl
    obtain rfl | rfl | rfl : n = 0 ∨ n = 1 ∨ n = 2 := by omega
    · exact ⟨[], [], by rw [(pw0 _ w).mp h]; rfl, .inl rfl, .inl rfl⟩
    · exact ⟨w, [], (List.append_nil w).symm, .inr ((pw1 _ w).mp h), .inl rfl⟩
    · obtain ⟨u, v, e, a, b⟩ := (pw2 _ w).mp h
      exact ⟨u, v, e, .inr a, .inr b⟩
  · rintro ⟨u, v, rfl, rfl | a, rfl | b⟩
    · exact ⟨0, by omega, fun _ z => by cases z; omega, (pw0 _ _).mpr rfl⟩
    · exact ⟨1, by omega, fun _ z => by cases z; omega, (pw1 _ _).mpr b⟩
    · exact ⟨1, by omega, fun _ z => by cases z; omega, (pw1 _ _).mpr (by rw [List.append_nil]; exact a)⟩
    · exact ⟨2, by omega, fun _ z => by cases z; omega, (pw2 _ _).mpr ⟨u, v, rfl, a, b⟩⟩
theorem pr23 (p : Pt) (w : List Nat) : (∃ n, Pw (pM p).L n w) ↔ ∃ n, Pw p.L n w := by
  have e : (pM p).L = fun w => ∃ n, Pw p.L n w := funext fun w => propext (lmany p w)
  rw [e]
  exact ⟨fun ⟨n, h⟩ => pw_many h, fun h => ⟨1, (pw1 _ w).mpr h⟩⟩
theorem pr24 (p : Pt) (w : List Nat) : (Pt.again p 0 (some 0)).L w ↔ w = [] := by
  rw [lagain]
  constructor
  · rintro ⟨n, h1, h2, h⟩
    have h2 := h2 0 rfl
    obtain rfl : n = 0 := by omega
    exact (pw0 _ w).mp h
  · exact fun h => ⟨0, by omega, fun _ z => by cases z; omega, (pw0 _ w).mpr h⟩
theorem pr25 (A : Lg) (w : List Nat) : (∃ u v, w = u ++ v ∧ (∃ n, Pw A n u) ∧ ∃ n, Pw A n v) ↔ ∃ n, Pw A n w := by
  constructor
  · rintro ⟨u, v, e, ⟨n, a⟩, m, b⟩
    exact ⟨n + m, (Pw_add A n m w).mpr ⟨u, v, e, a, b⟩⟩
  · rintro ⟨n, h⟩
    exact ⟨[], w, rfl, ⟨0, (pw0 A _).mpr rfl⟩, n, h⟩
theorem pairs_same (p q r : Pt) : ∀ x ∈ pairsP p q r, ∀ w, x.1.L w ↔ x.2.L w := by
  intro x hx w
  simp only [pairsP, List.mem_cons, List.not_mem_nil, or_false] at hx
  rcases hx with rfl | rfl | rfl | rfl | rfl | rfl | rfl | rfl | rfl | rfl | rfl | rfl | rfl | rfl | rfl | rfl | rfl | rfl | rfl | rfl | rfl | rfl | rfl | rfl | rfl | rfl | rfl | rfl | rfl | rfl | rfl
  all_goals simp only [lno, lany, lall, lrow0, lrow1, lrow2, lmany, Pt.LAny, Pt.LAll, and_true, or_false]
  all_goals first | done | grind | exact pr14 .. | exact pr15 .. | exact pr16 .. | exact pr17 .. | exact pr18 .. | exact pr19 .. | exact pr23 .. | exact pr24 .. | exact pr25 ..
/-- what is wanted of a part -/
structure Pp (al : List Nat) (p : Pt) : Prop where
  pl : ∀ n, 2 ≤ n → p.Pl al n
  jd : ∀ j, 1 ≤ j → p.Jd al 4 j
  wd : p.wd ≤ 2
theorem pairs_ok {al : List Nat} {p q r : Pt} (hp : Pp al p) (hq : Pp al q) (hr : Pp al r) : ∀ x ∈ pairsP p q r, (x.1.Jd al 4 3 ∧ x.2.Jd al 4 3) ∧ x.1.wd ≤ 790 ∧ x.2.wd ≤ 790 := by
  have p2 := hp.pl 2 (by omega)
  have p3 := hp.pl 3 (by omega)
  have q2 := hq.pl 2 (by omega)
  have q3 := hq.pl 3 (by omega)
  have r2 := hr.pl 2 (by omega)
  have r3 := hr.pl 3 (by omega)
  have pj1 := hp.jd 1 (by omega)
  have pj2 := hp.jd 2 (by omega)
  have pj3 := hp.jd 3 (by omega)
  have qj1 := hq.jd 1 (by omega)
  have qj2 := hq.jd 2 (by omega)
  have qj3 := hq.jd 3 (by omega)
  have rj1 := hr.jd 1 (by omega)
  have rj2 := hr.jd 2 (by omega)
  have rj3 := hr.jd 3 (by omega)
  have pw := hp.wd
  have qw := hq.wd
  have rw := hr.wd
  intro x hx
  simp only [pairsP, List.mem_cons, List.not_mem_nil, or_false] at hx
  rcases hx with rfl | rfl | rfl | rfl | rfl | rfl | rfl | rfl | rfl | rfl | rfl | rfl | rfl | rfl | rfl | rfl | rfl | rfl | rfl | rfl | rfl | rfl | rfl | rfl | rfl | rfl | rfl | rfl | rfl | rfl | rfl
  all_goals refine ⟨⟨?_, ?_⟩, ?_, ?_⟩
  all_goals first | (simp only [Pt.wd, Pt.wds]; omega) | assumption | simp_all [Pt.Jd, Pt.Pl]
theorem pairs_len (p q r : Pt) : (pairsP p q r).length = 31 := rfl

end Cs
namespace Cs
open PySem L2
open PyProof.Rows (envOfC)
/-! tuples and lists beside the source of draws -/
theorem rd_tupT {a : Addr} {n : Nat} {H : Hp} {xs : List V} {ds : List PyData} {R : Addr → Hp → Prop} (hS : Src a n H) (hx : TpAll H xs ds) (k : ∀ p H', Tp H' (.ref p) (.tuple ds) → Src a n H' → Kp a H H' → TS H H' → R p H') : New H (.tup xs) R :=
  rd_newK hS fun p H' _ hp eP hS' k' => k p H' (.tup eP (hx.ts (TS.kp hS k'))) hS' k' (TS.kp hS k')
theorem rd_lstT {a : Addr} {n : Nat} {H : Hp} {xs : List V} {R : Addr → Hp → Prop} (hS : Src a n H) (k : ∀ p H', p ≠ a → H' p = some (.lst xs) → Src a n H' → Kp a H H' → TS H H' → R p H') : New H (.lst xs) R :=
  rd_newK hS fun p H' pa _ eP hS' k' => k p H' pa eP hS' k' (TS.kp hS k')
theorem hi_tp {H : Hp} (hi : Option Nat) : Tp H (hiV hi) (hiD hi) := by
  cases hi with
  | none => exact .non
  | some h => exact .int _
theorem TpAll.get' {H : Hp} : ∀ {vs : List V} {ds : List PyData} {i : Nat} {d : PyData}, TpAll H vs ds → ds[i]? = some d → ∃ v, vs[i]? = some v ∧ Tp H v d
  | _, _, _, _, .nil, e => by simp at e
  | _, _, 0, _, .cons h _, e => by simp at e; subst e; exact ⟨_, rfl, h⟩
  | _, _, i + 1, d, .cons _ t, e => by
    obtain ⟨v, a, b⟩ := TpAll.get' (i := i) (d := d) t (by simpa using e)
    exact ⟨v, by simpa using a, b⟩

end Cs
namespace Cs
open PySem L2
open PyProof.Rows (envOfC)
/-! a set over the alphabet -/
def sp_set : Sp := fun vs H Q _ => ∃ (a : Addr) (al : List Nat) (n : Nat), vs = [.ref a, .str (S al)] ∧ Alp al ∧ Src a (n + 7) H ∧ ∀ (p : Addr) (cs : List Nat) (H' : Hp), cs.Sublist al → Tp H' (.ref p) (dSet cs) → Src a n H' → Kp a H H' → Q (.ref p) H'
theorem use_set {a : Addr} {al : List Nat} {n : Nat} {H : Hp} {Q : VK} {E : XK} (hA : Alp al) (h : Src a (n + 7) H) (k : ∀ (p : Addr) (cs : List Nat) (H' : Hp), cs.Sublist al → Tp H' (.ref p) (dSet cs) → Src a n H' → Kp a H H' → Q (.ref p) H') : sp_set [.ref a, .str (S al)] H Q E :=
  ⟨a, al, n, rfl, hA, h, k⟩
theorem sub_snoc {α : Type} {m l : List α} {i : Nat} {x : α} (h : m.Sublist (l.take i)) (e : l[i]? = some x) : (m ++ [x]).Sublist (l.take (i + 1)) := by
  rw [List.take_add_one, e]
  exact List.Sublist.append h (List.Sublist.refl _)
theorem sub_more {α : Type} {m l : List α} {i : Nat} (h : m.Sublist (l.take i)) : m.Sublist (l.take (i + 1)) := by
  rw [List.take_add_one]
  exact h.trans (List.sublist_append_left _ _)
section
variable {P : Program} {w : World} {K : PySem.W.Frag} {mg : Str → Option Value} {base : Heap}
theorem ok_set (B : Blt mg) (G__law_draw : Cal P w K mg base 1 "_law_draw" ["_law_source_here", "_law_many"] sp_draw) (F : At K mg "_law_set" s__law_set ["_law_source_here", "_law_alphabet_here"]) : Cal P w K mg base 2 "_law_set" ["_law_source_here", "_law_alphabet_here"] sp_set := by
  refine F.ok sc__law_set (fun vs H Q E h => ?_) (fun f cdv A outer s H vs Q E hr h => ?_)
  · obtain ⟨a, al, n, rfl, _⟩ := h
    rfl
  · obtain ⟨a, al, n, rfl, hA, hS, k⟩ := h
    have zal : (S al).length ≤ sizeLine := by rw [S_len, PySem.sizeLine_eq]; have := hA.hi; omega
    refine ⟨_, (pss_cons (ps_set (i := 2) sc__law_set.nd rfl (Or.inl rfl) (pe_ix (ix_listK (K := K) (by rfl)) (pe_lst (pa_cons pe_int (pa_cons pe_int (pa_cons pe_int (pa_cons pe_int (pa_cons pe_int (pa_cons pe_int (pa_cons pe_int (pa_cons pe_int pa_nil))))))))) (pe_c G__law_draw (hr.mono (by first | decide | omega)) (pa_cons (pv 0) (pa_cons pe_int pa_nil))) (fun _ _ => rfl)))
    (pss_cons (ps_set (i := 3) sc__law_set.nd rfl (Or.inr rfl) (pe_lc (own := [("_law_k", 4)]) rfl sc__law_set.nd (pi_range1 (by rfl) B.range (pa_cons (pv 2) pa_nil)) (blkOk_by (N := ["_law_source_here", "_law_alphabet_here", "_law_many", "_law_taken", "_law_k", "_law_at"]) (sc := defScope s__law_set) (by decide +kernel)) (fun _ _ _ _ _ => (pg_name (i := 4) sc__law_set.nd rfl (Or.inl rfl))) (fun _ _ _ _ _ => pts_nil) (fun _ _ _ _ _ => (pe_c G__law_draw (hr.mono (by first | decide | omega)) (pa_cons (pv 0) (pa_cons (pe_callB call_len_str (by rfl) B.len PySem.boot_len (pa_cons (pv 1) pa_nil)) pa_nil))))))
    (pss_one (ps_ret (pe_tup (pa_cons pe_str (pa_cons (pe_joinK (K := K) (by rfl) pe_str (pe_lc (own := [("_law_at", 5)]) rfl sc__law_set.nd (pi_range1 (by rfl) B.range (pa_cons (pe_callB call_len_str (by rfl) B.len PySem.boot_len (pa_cons (pv 1) pa_nil)) pa_nil)) (blkOk_by (N := ["_law_source_here", "_law_alphabet_here", "_law_many", "_law_taken", "_law_k", "_law_at"]) (sc := defScope s__law_set) (by decide +kernel)) (fun _ _ _ _ _ => (pg_name (i := 5) sc__law_set.nd rfl (Or.inl rfl))) (fun _ _ _ _ _ => (pts_one (pt_cmpR (op_in_seqK (K := K) (by rfl)) (pv 5) (pv 3) (by first | rfl | decide)))) (fun _ _ _ _ _ => (pe_ix ix_str (pv 1) (pv 5) (fun _ _ => rfl))))) pa_nil))))))), ?_⟩
    walk_at "go"
    refine ⟨by show 8 ≤ sizeLine; decide, rd_newK hS fun p H1 pa hp eP hS1 k1 => ?_⟩
    walk_at "go"
    refine use_draw (n := n + 6) hS1 (by decide) (by decide) fun i H2 i0 i1 hS2 k2 => ?_
    walk_at "go"
    obtain ⟨v, hv, hm⟩ := at_mem (xs := [V.int 1, .int 1, .int 1, .int 1, .int 1, .int 2, .int 2, .int 6]) i0 i1
    refine rd_ixl (SqL.of (k2.at pa eP)) hv ?_
    walk_at "go"
    obtain ⟨m, rfl, m0, m1⟩ : ∃ m : Int, v = .int m ∧ 1 ≤ m ∧ m ≤ 6 := by
      simp only [List.mem_cons, List.not_mem_nil, or_false] at hm
      rcases hm with rfl | rfl | rfl | rfl | rfl | rfl | rfl | rfl <;> exact ⟨_, rfl, by decide, by decide⟩
    refine rd_rng1j (by omega) (by omega) ?_
    intro T hT
    have Ta : T ≠ a := hS2.ne hT
    have hT0 : H T = none := (k1.trans k2).none Ta hT
    refine lc_range (lo := 0) (n := m.toNat) (fun i H' => ∃ ms : List Int, H' T = some (.lst (ms.map V.int)) ∧ ms.length = i ∧ Src a (n + (6 - i)) H' ∧ Kp a H H') ?_ ?_ ?_
    · exact ⟨[], upd_same, rfl, (hS2.lay Ta).mono (by omega), (k1.trans k2).lay hT0⟩
    · rintro i H' hi ⟨ms, eT, hl, hS', kp⟩
      walk_at "go"
      refine ⟨rfl, ?_⟩
      walk_at "go"
      refine ⟨S al, rfl, zal, ?_⟩
      walk_at "go"
      have e6 : n + (6 - i) = n + (6 - (i + 1)) + 1 := by omega
      rw [e6] at hS'
      refine use_draw hS' (by rw [S_len]; have := hA.lo; omega) (by rw [S_len]; have := hA.hi; omega) fun d H2 d0 d1 hS2 k2 => ?_
      refine ⟨_, k2.at Ta eT, by rw [List.length_map, PySem.sizeLine_eq]; omega, ms ++ [d], ?_, by rw [List.length_append, hl]; rfl, hS2.lay Ta, (kp.trans k2).lay hT0⟩
      rw [upd_same, List.map_append]; rfl
    · rintro H3 ⟨ms, eT, hl, hS3, kp⟩
      walk_at "go"
      refine ⟨S al, rfl, zal, ?_⟩
      have hz : (((S al).length : Nat) : Int) = (al.length : Int) := by rw [S_len]
      have hlo := hA.lo
      have hhi := hA.hi
      refine rd_rng1j (by omega) (by omega) ?_
      intro D hD
      have Da : D ≠ a := hS3.ne hD
      have DT : D ≠ T := fun z => by rw [z, eT] at hD; cases hD
      have hD0 : H D = none := kp.none Da hD
      refine lc_range (lo := 0) (n := ((((S al).length : Nat) : Int)).toNat) (fun i H' => ∃ made : List Nat, H' T = some (.lst (ms.map V.int)) ∧ H' D = some (.lst (made.map fun c => V.str (S [c]))) ∧ made.Sublist (al.take i) ∧ Src a n H' ∧ Kp a H H') ?_ ?_ ?_
      · exact ⟨[], by rw [upd_ne DT.symm]; exact eT, upd_same, List.nil_sublist _, (hS3.lay Da).mono (by omega), kp.lay hD0⟩
      · rintro i H' hi ⟨made, eT', eD, hs, hS', kp'⟩
        have hi2 : i < al.length := by rw [S_len] at hi; omega
        have hml : made.length ≤ i := by
          have := hs.length_le
          rw [List.length_take] at this
          omega
        walk_at "go"
        refine ⟨rfl, ?_⟩
        walk_at "go"
        refine rd_in (.inl (SqL.of eT')) rfl (by rw [List.all_map]; exact List.all_eq_true.mpr fun _ _ => rfl) ?_
        walk_at "go"
        refine ite2 (fun _ => ?_) (fun _ => ?_)
        · walk_at "go"
          have hc : al[i]? = some al[i] := List.getElem?_eq_getElem hi2
          refine ⟨S al, _, al[i], rfl, rfl, zal, at_c rfl hc, made.map (fun c => V.str (S [c])), eD, by rw [List.length_map, PySem.sizeLine_eq]; omega, made ++ [al[i]], ?_, ?_, sub_snoc hs hc, hS'.lay Da, kp'.lay hD0⟩
          · rw [upd_ne DT.symm]; exact eT'
          · rw [upd_same, List.map_append]; rfl
        · exact ⟨made, eT', eD, sub_more hs, hS', kp'⟩
      · rintro H4 ⟨made, eT', eD, hs, hS4, kp4⟩
        have hs' : made.Sublist al := hs.trans (List.take_sublist _ _)
        walk_at "go"
        refine ⟨_, D, made.map fun c => S [c], rfl, rfl, .inl (SqL.of (by rw [eD, List.map_map]; rfl)), ?_, ?_⟩
        · rw [sum_signs, List.length_map]
          have := hs'.length_le
          show made.length + made.length * 0 ≤ _
          omega
        · walk_at "go"
          rw [empty_S, join_signs]
          refine ⟨by show 2 ≤ sizeLine; decide, rd_newK hS4 fun p H5 pa hp eP hS5 k5 => ?_⟩
          walk_at "go"
          exact k p made H5 hs' (.tup eP (.cons (.str _) (.cons (.str _) .nil))) hS5 (kp4.trans k5)
end

end Cs
namespace Cs
open PySem L2
open PyProof.Rows (envOfC)
/-! a row of m sets -/
def dRow (css : List (List Nat)) : PyData := .tuple (.str (Str.ofString "row") :: css.map dSet)
def sp_row : Sp := fun vs H Q _ => ∃ (a : Addr) (al : List Nat) (m : Int) (n : Nat), vs = [.ref a, .str (S al), .int m] ∧ Alp al ∧ 0 ≤ m ∧ m ≤ 1000 ∧ Src a (n + 7 * m.toNat) H ∧
  ∀ (p : Addr) (css : List (List Nat)) (H' : Hp), (css.length : Int) = m → (∀ cs ∈ css, cs.Sublist al) → Tp H' (.ref p) (dRow css) → Src a n H' → Kp a H H' → Q (.ref p) H'
theorem use_row {a : Addr} {al : List Nat} {m : Int} {n : Nat} {H : Hp} {Q : VK} {E : XK} (hA : Alp al) (m0 : 0 ≤ m) (m1 : m ≤ 1000) (h : Src a (n + 7 * m.toNat) H)
    (k : ∀ (p : Addr) (css : List (List Nat)) (H' : Hp), (css.length : Int) = m → (∀ cs ∈ css, cs.Sublist al) → Tp H' (.ref p) (dRow css) → Src a n H' → Kp a H H' → Q (.ref p) H') : sp_row [.ref a, .str (S al), .int m] H Q E :=
  ⟨a, al, m, n, rfl, hA, m0, m1, h, k⟩
section
variable {P : Program} {w : World} {K : PySem.W.Frag} {mg : Str → Option Value} {base : Heap}
theorem ok_row (B : Blt mg) (G__law_set : Cal P w K mg base 2 "_law_set" ["_law_source_here", "_law_alphabet_here"] sp_set) (F : At K mg "_law_row" s__law_row ["_law_source_here", "_law_alphabet_here", "_law_many"]) : Cal P w K mg base 3 "_law_row" ["_law_source_here", "_law_alphabet_here", "_law_many"] sp_row := by
  refine F.ok sc__law_row (fun vs H Q E h => ?_) (fun f cdv A outer s H vs Q E hr h => ?_)
  · obtain ⟨a, al, m, n, rfl, _⟩ := h
    rfl
  · obtain ⟨a, al, m, n, rfl, hA, m0, m1, hS, k⟩ := h
    refine ⟨_, (pss_one (ps_ret (pe_op (op_catTK (K := K) (by rfl)) (pe_tup (pa_cons pe_str pa_nil)) (pe_callTy (call_tuple_ofK (K := K) (by rfl)) (by rfl) B.tuple (by decide +kernel) (pa_cons (pe_lc (own := [("_law_k", 3)]) rfl sc__law_row.nd (pi_range1 (by rfl) B.range (pa_cons (pv 2) pa_nil)) (blkOk_by (N := ["_law_source_here", "_law_alphabet_here", "_law_many", "_law_k"]) (sc := defScope s__law_row) (by decide +kernel)) (fun _ _ _ _ _ => (pg_name (i := 3) sc__law_row.nd rfl (Or.inl rfl))) (fun _ _ _ _ _ => pts_nil) (fun _ _ _ _ _ => (pe_c G__law_set (hr.mono (by first | decide | omega)) (pa_cons (pv 0) (pa_cons (pv 1) pa_nil))))) pa_nil))))), ?_⟩
    walk_at "go"
    refine ⟨by show 1 ≤ sizeLine; decide, rd_newK hS fun p H1 pa hp eP hS1 k1 => ?_⟩
    walk_at "go"
    refine rd_rng1j (by omega) (by omega) ?_
    intro D hD
    have Da : D ≠ a := hS1.ne hD
    have Dp' : D ≠ p := fun z => by rw [z, eP] at hD; cases hD
    have hD0 : H D = none := k1.none Da hD
    refine lc_range (lo := 0) (n := m.toNat) (fun i H' => ∃ (vs : List V) (css : List (List Nat)), H' p = some (.tup [.str (Str.ofString "row")]) ∧ H' D = some (.lst vs) ∧ TpAll H' vs (css.map dSet) ∧ css.length = i ∧ (∀ cs ∈ css, cs.Sublist al) ∧ Src a (n + 7 * (m.toNat - i)) H' ∧ Kp a H H') ?_ ?_ ?_
    · exact ⟨[], [], by rw [upd_ne Dp'.symm]; exact eP, upd_same, .nil, rfl, by simp, (hS1.lay Da).mono (by omega), k1.lay hD0⟩
    · rintro i H' hi ⟨vs, css, eP', eD, hv, hl, hsub, hS', kp⟩
      walk_at "go"
      refine ⟨rfl, ?_⟩
      walk_at "go"
      have e7 : n + 7 * (m.toNat - i) = n + 7 * (m.toNat - (i + 1)) + 7 := by omega
      rw [e7] at hS'
      refine use_set hA hS' fun q cs H2 hs hq hS2 k2 => ?_
      have lv : vs.length = i := by rw [hv.length, List.length_map, hl]
      have eD2 := k2.at Da eD
      have t2 : TS H2 (upd H2 D (.lst (vs ++ [V.ref q]))) := TS.set eD2
      refine ⟨vs, eD2, by rw [lv, PySem.sizeLine_eq]; omega, vs ++ [.ref q], css ++ [cs], t2 _ _ (k2.at pa eP'), upd_same, ?_, by rw [List.length_append, hl]; rfl, ?_, hS2.lay Da, (kp.trans k2).lay hD0⟩
      · rw [List.map_append]
        exact ((hv.ts (TS.kp hS' k2)).app (.cons hq .nil)).ts t2
      · intro c hc
        rcases List.mem_append.mp hc with hc | hc
        · exact hsub c hc
        · rw [List.mem_singleton.mp hc]; exact hs
    · rintro H4 ⟨vs, css, eP', eD, hv, hl, hsub, hS4, kp⟩
      walk_at "go"
      have lv : vs.length = m.toNat := by rw [hv.length, List.length_map, hl]
      refine rd_tupl (SqL.of eD) (rd_newK hS4 fun q H5 qa hq eQ hS5 k5 => ?_)
      have pq := k5.at pa eP'
      have t5 := TS.kp hS4 k5
      refine rd_catT (SqT.of pq) (SqT.of eQ) (by simp) (by rw [lv, PySem.sizeLine_eq]; show 1 + _ ≤ _; omega) (fun e => ?_) (fun _ => rd_newK hS5 fun r H6 ra hr6 eR hS6 k6 => ?_)
      · walk_at "go"
        subst e
        have e0 : css = [] := by
          have := hv.length
          rw [List.length_map] at this
          exact List.length_eq_zero_iff.mp this.symm
        subst e0
        exact k p [] H5 (by simp at hl; omega) hsub (.tup pq (.cons (.str _) .nil)) (hS5.mono (by omega)) (kp.trans k5)
      · walk_at "go"
        exact k r css H6 (by omega) hsub (.tup eR (.cons (.str _) ((hv.ts t5).ts (TS.kp hS5 k6)))) (hS6.mono (by omega)) ((kp.trans k5).trans k6)
end

end Cs
namespace Cs
open PySem L2
open PyProof.Rows (envOfC)
theorem three_at {i : Nat} (h : i < 3) : ([V.non, V.int 1, V.int 2])[i]? = some (hiV (if i = 0 then none else some i)) := by
  match i, h with
  | 0, _ => rfl
  | 1, _ => rfl
  | 2, _ => rfl
theorem pp_set {al cs : List Nat} (h : ∀ c ∈ cs, c ∈ al) : Pp al (.set cs) where
  pl := fun n _ => by simp only [Pt.Pl]; exact h
  jd := fun j _ => by
    obtain ⟨i, rfl⟩ : ∃ i, j = i + 1 := ⟨j - 1, by omega⟩
    simp only [Pt.Jd, Pt.Pl]; exact h
  wd := by simp [Pt.wd]
theorem pp_opt {al cs : List Nat} (h : ∀ c ∈ cs, c ∈ al) : Pp al (.any [.set cs, .row []]) where
  pl := fun n hn => by
    obtain ⟨i, rfl⟩ : ∃ i, n = i + 2 := ⟨n - 2, by omega⟩
    simp [Pt.Pl]; exact h
  jd := fun j _ => by
    obtain ⟨i, rfl⟩ : ∃ i, j = i + 1 := ⟨j - 1, by omega⟩
    cases i <;> simp [Pt.Jd, Pt.Pl] <;> exact h
  wd := by simp [Pt.wd, Pt.wds]
theorem pp_again {al cs : List Nat} (h : ∀ c ∈ cs, c ∈ al) {hi : Option Nat} (hh : ∀ x, hi = some x → x ≤ 2) : Pp al (.again (.set cs) 0 hi) where
  pl := fun n hn => by
    obtain ⟨i, rfl⟩ : ∃ i, n = i + 1 := ⟨n - 1, by omega⟩
    simp only [Pt.Pl]
    exact ⟨h, by decide, fun x e => ⟨Nat.zero_le _, by have := hh x e; omega⟩⟩
  jd := fun j _ => by
    obtain ⟨i, rfl⟩ : ∃ i, j = i + 1 := ⟨j - 1, by omega⟩
    simp only [Pt.Jd, Pt.Pl]
    exact ⟨h, by decide, fun x e => ⟨Nat.zero_le _, by have := hh x e; omega⟩⟩
  wd := by
    cases hi with
    | none => simp [Pt.wd]
    | some x => have := hh x rfl; simp only [Pt.wd]; omega
theorem pp_row {al : List Nat} {css : List (List Nat)} (hl : css.length = 2) (h : ∀ cs ∈ css, ∀ c ∈ cs, c ∈ al) : Pp al (.row (css.map Pt.set)) := by
  match css, hl with
  | [a, b], _ =>
    have ha := h a (by simp)
    have hb := h b (by simp)
    refine ⟨fun n hn => ?_, fun j hj => ?_, by simp [Pt.wd, Pt.wds]⟩
    · obtain ⟨i, rfl⟩ : ∃ i, n = i + 1 := ⟨n - 1, by omega⟩
      simp [Pt.Pl]; exact ⟨ha, hb⟩
    · obtain ⟨i, rfl⟩ : ∃ i, j = i + 1 := ⟨j - 1, by omega⟩
      simp [Pt.Jd, Pt.Pl]; exact ⟨ha, hb⟩
theorem row_dd (css : List (List Nat)) : dRow css = (Pt.row (css.map Pt.set)).d := by
  have e : css.map dSet = (css.map Pt.set).map Pt.d := by
    rw [List.map_map]; exact List.map_congr_left fun c _ => by show dSet c = (Pt.set c).d; rw [Pt.d]; rfl
  rw [Pt.d, Pt.ds_eq, ← e]; rfl
def sp_part : Sp := fun vs H Q _ => ∃ (a : Addr) (al : List Nat) (n : Nat), vs = [.ref a, .str (S al)] ∧ Alp al ∧ Src a (n + 20) H ∧ ∀ (v : V) (p : Pt) (H' : Hp), Pp al p → Tp H' v p.d → Src a n H' → Kp a H H' → Q v H'
theorem use_part {a : Addr} {al : List Nat} {n : Nat} {H : Hp} {Q : VK} {E : XK} (hA : Alp al) (hS : Src a (n + 20) H) (k : ∀ (v : V) (p : Pt) (H' : Hp), Pp al p → Tp H' v p.d → Src a n H' → Kp a H H' → Q v H') : sp_part [.ref a, .str (S al)] H Q E := ⟨a, al, n, rfl, hA, hS, k⟩
section
variable {P : Program} {w : World} {K : PySem.W.Frag} {mg : Str → Option Value} {base : Heap}
theorem ok_part (G__law_draw : Cal P w K mg base 1 "_law_draw" ["_law_source_here", "_law_many"] sp_draw) (G__law_set : Cal P w K mg base 2 "_law_set" ["_law_source_here", "_law_alphabet_here"] sp_set) (G__law_row : Cal P w K mg base 3 "_law_row" ["_law_source_here", "_law_alphabet_here", "_law_many"] sp_row)
    (F : At K mg "_law_part" s__law_part ["_law_source_here", "_law_alphabet_here"]) : Cal P w K mg base 4 "_law_part" ["_law_source_here", "_law_alphabet_here"] sp_part := by
  refine F.ok (k := 3) sc__law_part (fun vs H Q E h => ?_) (fun f cdv A outer s H vs Q E hr h => ?_)
  · obtain ⟨a, al, n, rfl, _⟩ := h
    rfl
  · obtain ⟨a, al, n, rfl, hA, hS, kq⟩ := h
    refine ⟨_, (pss_cons (ps_set (i := 2) sc__law_part.nd rfl (Or.inl rfl) (pe_c G__law_draw (hr.mono (by first | decide | omega)) (pa_cons (pv 0) (pa_cons pe_int pa_nil))))
    (pss_cons (ps_if (pt_cmpR op_eq (pv 2) pe_int (nomark _))
    (pss_one (ps_ret (pe_tup (pa_cons pe_str (pa_cons (pe_c G__law_set (hr.mono (by first | decide | omega)) (pa_cons (pv 0) (pa_cons (pv 1) pa_nil))) (pa_cons (pe_tup (pa_cons pe_str pa_nil)) pa_nil))))))
    pss_nil)
    (pss_cons (ps_if (pt_cmpR op_eq (pv 2) pe_int (nomark _))
    (pss_one (ps_ret (pe_tup (pa_cons pe_str (pa_cons (pe_c G__law_set (hr.mono (by first | decide | omega)) (pa_cons (pv 0) (pa_cons (pv 1) pa_nil))) (pa_cons pe_int (pa_cons (pe_ix (ix_listK (K := K) (by rfl)) (pe_lst (pa_cons pe_non (pa_cons pe_int (pa_cons pe_int pa_nil)))) (pe_c G__law_draw (hr.mono (by first | decide | omega)) (pa_cons (pv 0) (pa_cons pe_int pa_nil))) (fun _ _ => rfl)) pa_nil)))))))
    pss_nil)
    (pss_one (ps_ret (pe_ifExp (pt_cmpR op_gt (pv 2) pe_int (nomark _)) (pe_c G__law_row (hr.mono (by first | decide | omega)) (pa_cons (pv 0) (pa_cons (pv 1) (pa_cons pe_int pa_nil)))) (pe_c G__law_set (hr.mono (by first | decide | omega)) (pa_cons (pv 0) (pa_cons (pv 1) pa_nil))))))))), ?_⟩
    walk_at "go"
    refine use_draw (n := n + 19) hS (by decide) (by decide) fun way0 H1 way1 way2 S1 k1 => ?_
    obtain ⟨way, rfl⟩ : ∃ way : Nat, way0 = (way : Int) := ⟨way0.toNat, by omega⟩
    walk_at "go"
    refine ite2 (fun _ => ?_) (fun _ => ?_)
    · walk_at "go"
      refine use_set (n := n + 12) hA S1 fun p1 c1 H2 hc1 e1 S2 k2 => ?_
      walk_at "go"
      refine ⟨by show 1 ≤ sizeLine; decide, rd_tupT S2 (.cons (.str (kS "row")) .nil) fun q1 H3 e2r S3 k3 t3 => ?_⟩
      have e2 : Tp H3 (.ref q1) (Pt.row []).d := e2r
      walk_at "go"
      refine ⟨by show 3 ≤ sizeLine; decide, rd_tupT S3 (.cons (.str (kS "any")) (.cons (e1.ts t3) (.cons e2 .nil))) fun q2 H4 e3r S4 k4 t4 => ?_⟩
      have e3 : Tp H4 (.ref q2) (Pt.any [.set c1, .row []]).d := e3r
      walk_at "go"
      exact kq _ _ _ (pp_opt fun c hc => hc1.subset hc) e3 (S4.mono (by omega)) (Kp.trans k1 (Kp.trans k2 (Kp.trans k3 k4)))
    · walk_at "go"
      refine ite2 (fun _ => ?_) (fun _ => ?_)
      · walk_at "go"
        refine use_set (n := n + 12) hA S1 fun p1 c1 H2 hc1 e1 S2 k2 => ?_
        walk_at "go"
        refine ⟨by show 3 ≤ sizeLine; decide, rd_lstT S2 fun L1 H3 nL1 eL1 S3 k3 t3 => ?_⟩
        walk_at "go"
        refine use_draw (n := n + 11) S3 (by decide) (by decide) fun i0 H4 i1 i2 S4 k4 => ?_
        have t4 := TS.kp S3 k4
        obtain ⟨i, rfl⟩ : ∃ i : Nat, i0 = (i : Int) := ⟨i0.toNat, by omega⟩
        walk_at "go"
        refine rd_ixl (SqL.of (k4.at nL1 eL1)) (atI_nat (three_at (by omega))) ?_
        obtain ⟨hi, ehi⟩ : ∃ hi : Option Nat, hi = (if i = 0 then none else some i) := ⟨_, rfl⟩
        rw [← ehi]
        have hhi : ∀ h, hi = some h → h ≤ 2 := fun h e => by
          rw [ehi] at e
          split at e
          · cases e
          · cases e; omega
        walk_at "go"
        refine ⟨by show 4 ≤ sizeLine; decide, rd_tupT S4 (.cons (.str (kS "again")) (.cons (e1.ts (t3.trans t4)) (.cons (.int 0) (.cons (hi_tp hi) .nil)))) fun g H5 egr S5 k5 t5 => ?_⟩
        have eg : Tp H5 (.ref g) (Pt.again (.set c1) 0 hi).d := egr
        walk_at "go"
        exact kq _ _ _ (pp_again (fun c hc => hc1.subset hc) hhi) eg (S5.mono (by omega)) (Kp.trans k1 (Kp.trans k2 (Kp.trans k3 (Kp.trans k4 k5))))
      · walk_at "go"
        refine ite2 (fun _ => ?_) (fun _ => ?_)
        · walk_at "go"
          refine use_row (n := n + 5) hA (by omega) (by omega) S1 fun p2 c2 H2 lc2 hc2 e2r S2 k2 => ?_
          rw [row_dd] at e2r
          walk_at "go"
          exact kq _ _ _ (pp_row (by omega) fun cs hcs c hc => (hc2 cs hcs).subset hc) e2r (S2.mono (by omega)) (Kp.trans k1 k2)
        · walk_at "go"
          refine use_set (n := n + 12) hA S1 fun p1 c1 H2 hc1 e1 S2 k2 => ?_
          walk_at "go"
          exact kq _ _ _ (pp_set fun c hc => hc1.subset hc) e1 (S2.mono (by omega)) (Kp.trans k1 k2)
end

end Cs
namespace Cs
open PySem L2
open PyProof.Rows (envOfC)
def prD (x : Pt × Pt) : PyData := .tuple [x.1.d, x.2.d]
def sp_pair : Sp := fun vs H Q _ => ∃ (a : Addr) (n : Nat) (vp vq vr : V) (p q r : Pt), vs = [.ref a, vp, vq, vr] ∧ Src a (n + 1) H ∧ Tp H vp p.d ∧ Tp H vq q.d ∧ Tp H vr r.d ∧ ∀ (v : V) (x : Pt × Pt) (H' : Hp), x ∈ pairsP p q r → Tp H' v (prD x) → Src a n H' → Kp a H H' → Q v H'
theorem use_pair {a : Addr} {n : Nat} {vp vq vr : V} {p q r : Pt} {H : Hp} {Q : VK} {E : XK} (hS : Src a (n + 1) H) (h1 : Tp H vp p.d) (h2 : Tp H vq q.d) (h3 : Tp H vr r.d) (k : ∀ (v : V) (x : Pt × Pt) (H' : Hp), x ∈ pairsP p q r → Tp H' v (prD x) → Src a n H' → Kp a H H' → Q v H') : sp_pair [.ref a, vp, vq, vr] H Q E := ⟨a, n, vp, vq, vr, p, q, r, rfl, hS, h1, h2, h3, k⟩

end Cs
namespace Cs
open PySem L2
open PyProof.Rows (envOfC)
theorem cutS_take (t : List Nat) (k : Nat) (h : k ≤ t.length) : cutS (S t) none (some (k : Int)) = S (t.take k) := by
  unfold cutS
  rw [HT.sIx_none, HT.sIx_nat, S_len, Nat.min_eq_left h]
  simp [S]
theorem cutS_drop (t : List Nat) (k : Nat) (h : k ≤ t.length) : cutS (S t) (some (k : Int)) none = S (t.drop k) := by
  unfold cutS
  rw [HT.sIx_none, HT.sIx_nat, S_len, Nat.min_eq_left h]
  simp only [S]
  rw [List.take_of_length_le (by simp)]
theorem rd_rng2 {tas : TA} {σ : St} {H : Hp} {R : It → Hp → Prop} (h : tas σ H fun vs H1 => ∃ i j : Int, vs = [.int i, .int j] ∧ (-(2 ^ 62) ≤ i ∧ i < 2 ^ 62 ∧ -(2 ^ 62) ≤ j ∧ j < 2 ^ 62) ∧ R (Itr i (j - i).toNat) H1) : iRng2 tas σ H R := h
theorem rd_sls {z : Str} {lo hi : Option Int} {H : Hp} {Q : VK} (h : z.length ≤ sizeLine) (q : Q (.str (cutS z lo hi)) H) : rSlS (.str z) lo hi H Q := ⟨z, rfl, h, q⟩

end Cs
namespace Cs
open PySem L2
open PyProof.Rows (envOfC)
def sp_text : Sp := fun vs H Q _ => ∃ (a : Addr) (al : List Nat) (m n : Nat), vs = [.ref a, .str (S al), vn m] ∧ 1 ≤ al.length ∧ al.length ≤ 6 ∧ m ≤ 500 ∧ Src a (n + m) H ∧ ∀ (t : List Nat) (H' : Hp), t.length = m → (∀ c ∈ t, c ∈ al) → Src a n H' → Kp a H H' → Q (.str (S t)) H'
theorem use_text {a : Addr} {al : List Nat} {m n : Nat} {H : Hp} {Q : VK} {E : XK} (h1 : 1 ≤ al.length) (h2 : al.length ≤ 6) (hm : m ≤ 500) (hS : Src a (n + m) H) (k : ∀ (t : List Nat) (H' : Hp), t.length = m → (∀ c ∈ t, c ∈ al) → Src a n H' → Kp a H H' → Q (.str (S t)) H') : sp_text [.ref a, .str (S al), vn m] H Q E := ⟨a, al, m, n, rfl, h1, h2, hm, hS, k⟩
section
variable {P : Program} {w : World} {K : PySem.W.Frag} {mg : Str → Option Value} {base : Heap}
theorem ok_text (B : Blt mg) (G__law_draw : Cal P w K mg base 1 "_law_draw" ["_law_source_here", "_law_many"] sp_draw) (F : At K mg "_law_text" s__law_text ["_law_source_here", "_law_alphabet_here", "_law_many"]) : Cal P w K mg base 2 "_law_text" ["_law_source_here", "_law_alphabet_here", "_law_many"] sp_text := by
  refine F.ok sc__law_text (fun vs H Q E h => ?_) (fun f cdv A outer s H vs Q E hr h => ?_)
  · obtain ⟨a, al, m, n, rfl, _⟩ := h
    rfl
  · obtain ⟨a, al, m, n, rfl, h1, h2, hm, hS, k⟩ := h
    refine ⟨_, (pss_one (ps_ret (pe_joinK (K := K) (by rfl) pe_str (pe_lc (own := [("_law_k", 3)]) rfl sc__law_text.nd (pi_range1 (by rfl) B.range (pa_cons (pv 2) pa_nil)) (blkOk_by (N := ["_law_source_here", "_law_alphabet_here", "_law_many", "_law_k"]) (sc := defScope s__law_text) (by decide +kernel)) (fun _ _ _ _ _ => (pg_name (i := 3) sc__law_text.nd rfl (Or.inl rfl))) (fun _ _ _ _ _ => pts_nil) (fun _ _ _ _ _ => (pe_ix ix_str (pv 1) (pe_c G__law_draw (hr.mono (by first | decide | omega)) (pa_cons (pv 0) (pa_cons (pe_callB call_len_str (by rfl) B.len PySem.boot_len (pa_cons (pv 1) pa_nil)) pa_nil))) (fun _ _ => rfl))))))), ?_⟩
    walk_at "go"
    refine rd_rng1j (by omega) (by omega) ?_
    rw [Int.toNat_natCast]
    intro D hD
    have Da : D ≠ a := hS.ne hD
    refine lc_range (lo := 0) (n := m) (fun i H' => ∃ t : List Nat, H' D = some (.lst (t.map fun c => V.str (S [c]))) ∧ t.length = i ∧ (∀ c ∈ t, c ∈ al) ∧ Src a (n + (m - i)) H' ∧ Kp a H H') ?_ ?_ ?_
    · exact ⟨[], upd_same, rfl, by simp, by rw [Nat.sub_zero]; exact hS.lay Da, Kp.refl.lay hD⟩
    · rintro i H' hi ⟨t, eD, hl, ht, hS', kp⟩
      walk_at "go"
      refine ⟨rfl, ?_⟩
      walk_at "go"
      refine ⟨S al, rfl, by rw [S_len, PySem.sizeLine_eq]; omega, ?_⟩
      rw [S_len]
      walk_at "go"
      have e6 : n + (m - i) = n + (m - (i + 1)) + 1 := by omega
      rw [e6] at hS'
      refine use_draw hS' (by omega) (by omega) fun d H2 d0 d1 hS2 k2 => ?_
      walk_at "go"
      obtain ⟨j, rfl⟩ : ∃ j : Nat, d = (j : Int) := ⟨d.toNat, by omega⟩
      have hj : j < al.length := by omega
      refine ⟨S al, j, al[j], rfl, rfl, by rw [S_len, PySem.sizeLine_eq]; omega, at_c (j := j) (by omega) (List.getElem?_eq_getElem hj), ?_⟩
      walk_at "go"
      refine ⟨_, k2.at Da eD, by rw [List.length_map, hl, PySem.sizeLine_eq]; omega, t ++ [al[j]], by rw [List.map_append]; exact upd_same, by rw [List.length_append, hl]; rfl, fun c hc => ?_, hS2.lay Da, (kp.trans k2).lay hD⟩
      rcases List.mem_append.mp hc with hc | hc
      · exact ht c hc
      · rw [List.mem_singleton.mp hc]; exact List.getElem_mem hj
    · rintro H' ⟨t, eD, hl, ht, hS', kp⟩
      refine ⟨_, D, t.map fun c => S [c], rfl, rfl, .inl (SqL.of (by rw [eD, List.map_map]; rfl)), ?_, ?_⟩
      · rw [sum_signs, List.length_map]
        show t.length + t.length * 0 ≤ _
        omega
      · walk_at "go"
        show Q (.str (Txt.join (Str.ofString "") (t.map fun c => S [c]))) H'
        rw [empty_S, join_signs]
        rw [Nat.sub_self] at hS'
        exact k t H' hl ht hS' kp
end

end Cs
namespace Cs
open PySem L2
open PyProof.Rows (envOfC)
/-! a comprehension over a text -/
theorem lc_text {x : List Nat} {g : TG} {tt : TT} {te : TE} {vs : List Nat} {σ : St} {H1 : Hp} {D : Addr} {Qd : Hp → Prop} (Pv : Nat → Hp → Prop) (h0 : Pv 0 (upd H1 D (.lst [])))
    (hs : ∀ i c H, x[i]? = some c → Pv i H → g (.str (S [c])) (wipe σ vs) H fun σ2 H2 => wipe σ2 vs = wipe σ vs ∧ tt σ2 H2 fun b H3 =>
      if b = true then te σ2 H3 fun y H4 => ∃ acc, H4 D = some (.lst acc) ∧ acc.length < sizeLine ∧ Pv (i + 1) (upd H4 D (.lst (acc ++ [y]))) else Pv (i + 1) H3) (hd : ∀ H, Pv x.length H → Qd H) :
    ∃ W : Nat → Nat → Hp → Prop, (∃ m, W 0 m (upd H1 D (.lst []))) ∧ ∀ i m H, W i m H →
      ((Its (S x)).stop i H ∧ Qd H) ∨ ((Its (S x)).go i H ∧ ∃ Nx : Hp → Prop, (∀ H', Nx H' → ∃ m', m' < m ∧ W (i + 1) m' H') ∧ ∀ y H', (Its (S x)).yld i H y H' → g y (wipe σ vs) H' fun σ2 H2 => wipe σ2 vs = wipe σ vs ∧ tt σ2 H2 fun b H3 =>
        if b = true then te σ2 H3 fun y H4 => ∃ acc, H4 D = some (.lst acc) ∧ acc.length < sizeLine ∧ Nx (upd H4 D (.lst (acc ++ [y]))) else Nx H3) := by
  refine ⟨fun i m H => m = x.length - i ∧ i ≤ x.length ∧ Pv i H, ⟨x.length, by simp, Nat.zero_le _, h0⟩, ?_⟩
  rintro i m H ⟨rfl, hi, p⟩
  have sz : (S x).cps.size = x.length := by simp [S]
  by_cases hlt : i < x.length
  · refine .inr ⟨show i < (S x).cps.size by omega, Pv (i + 1), fun H' p' => ⟨x.length - (i + 1), by omega, rfl, hlt, p'⟩, fun y H' hy => ?_⟩
    obtain ⟨e, c, hc, y⟩ := hy
    subst e y
    exact hs i c _ (by rw [← Array.getElem?_toList] at hc; exact hc) p
  · have e : i = x.length := by omega
    subst e
    exact .inl ⟨show (S x).cps.size ≤ x.length by omega, hd H p⟩

end Cs
namespace Cs
open PySem L2
open PyProof.Rows (envOfC)
def tV (Ts : List (List Nat)) : List V := Ts.map fun t => V.str (S t)
theorem tV_app (a b : List (List Nat)) : tV (a ++ b) = tV a ++ tV b := List.map_append
def sp_short (K : PySem.W.Frag) : Sp := fun vs H Q _ => ∃ (al : List Nat) (k : Nat), vs = [.str (S al), vn k] ∧ al.length ≤ 3 ∧ k ≤ 5 ∧ ∀ (p : Addr) (H' : Hp) (Ts : List (List Nat)), Same H H' → H p = none → H' p = some (.lst (tV Ts)) → (∀ t ∈ Ts, t.length ≤ k ∧ ∀ c ∈ t, c ∈ al) → 2 * Ts.length + 1 ≤ 3 ^ (k + 1) → Q (.ref p) H'
theorem use_short {K : PySem.W.Frag} {al : List Nat} {k : Nat} {H : Hp} {Q : VK} {E : XK} (h1 : al.length ≤ 3) (h2 : k ≤ 5) (q : ∀ (p : Addr) (H' : Hp) (Ts : List (List Nat)), Same H H' → H p = none → H' p = some (.lst (tV Ts)) → (∀ t ∈ Ts, t.length ≤ k ∧ ∀ c ∈ t, c ∈ al) → 2 * Ts.length + 1 ≤ 3 ^ (k + 1) → Q (.ref p) H') : sp_short K [.str (S al), vn k] H Q E := ⟨al, k, rfl, h1, h2, q⟩
theorem S_app (a b : List Nat) : S a ++ S b = S (a ++ b) := by
  show Str.append (S a) (S b) = S (a ++ b)
  simp [S, Str.append]
section
variable {P : Program} {w : World} {K : PySem.W.Frag} {mg : Str → Option Value} {base : Heap}
theorem ok_short (B : Blt mg) (F : At K mg "_law_short_texts" s__law_short_texts ["_law_alphabet_here", "_law_longest"]) : Cal P w K mg base 1 "_law_short_texts" ["_law_alphabet_here", "_law_longest"] (sp_short K) := by
  refine F.ok (k := 0) sc__law_short_texts (fun vs H Q E h => ?_) (fun f cdv A outer s H vs Q E hr h => ?_)
  · obtain ⟨al, k, rfl, _⟩ := h
    rfl
  · obtain ⟨al, k, rfl, h1, h2, kq⟩ := h
    refine ⟨_, (pss_cons (ps_par (i := 2) (j := 3) (by rfl) sc__law_short_texts.nd rfl rfl (by decide) rfl rfl (pa_cons (pe_lst (pa_cons pe_str pa_nil)) (pa_cons (pe_lst (pa_cons pe_str pa_nil)) pa_nil)) (by rfl))
    (pss_cons (ps_for PassesOwn.never rfl (pi_range1 (by rfl) B.range (pa_cons (pv 1) pa_nil)) (pg_name (i := 4) sc__law_short_texts.nd rfl (Or.inl rfl))
    (pss_cons (ps_set (i := 5) sc__law_short_texts.nd rfl (Or.inl rfl) (pe_lst pa_nil))
    (pss_cons (ps_for PassesOwn.never rfl (pi_listK (K := K) (by rfl) (pv 3)) (pg_name (i := 6) sc__law_short_texts.nd rfl (Or.inr rfl))
    (pss_one (ps_expr (pe_bmK (K := K) (by rfl) PySem.F.plainAttrs_list PySem.F.slot_list_extend PySem.F.type_list_extend mt_extend (pv 5) (pa_cons (pe_lc (own := [("_law_character", 7)]) rfl sc__law_short_texts.nd (pi_str (pv 0)) (blkOk_by (N := ["_law_alphabet_here", "_law_longest", "_law_found", "_law_level", "_law_k", "_law_longer", "_law_text_here", "_law_character"]) (sc := defScope s__law_short_texts) (by decide +kernel)) (fun _ _ _ _ _ => (pg_name (i := 7) sc__law_short_texts.nd rfl (Or.inl rfl))) (fun _ _ _ _ _ => pts_nil) (fun _ _ _ _ _ => (pe_op op_add_str (pv 6) (pv 7)))) pa_nil)))))
    (pss_cons (ps_set (i := 3) sc__law_short_texts.nd rfl (Or.inl rfl) (pv 5))
    (pss_one (ps_set (i := 2) sc__law_short_texts.nd rfl (Or.inl rfl) (pe_op op_cat (pv 2) (pv 3))))))))
    (pss_one (ps_ret (pv 2))))), ?_⟩
    walk_at "go"
    refine ⟨by show 1 ≤ sizeLine; decide, fun p0 hp0 => ?_⟩
    walk_at "go"
    refine ⟨by show 1 ≤ sizeLine; decide, fun q0 hq0 => ?_⟩
    walk_at "go"
    refine rd_rng1j (by omega) (by omega) ?_
    rw [Int.toNat_natCast]
    have h3 : 3 ^ k ≤ 3 ^ 5 := Nat.pow_le_pow_right (by decide) h2
    refine for_range (lo := 0) (n := k) (fun i σ H' => ∃ (p q : Addr) (Fs Ls : List (List Nat)) (x4 x5 x6 : Option V), σ = [some (.str (S al)), some (vn k), some (.ref p), some (.ref q), x4, x5, x6, none] ∧ Same H H' ∧ H p = none ∧ H' p = some (.lst (tV Fs)) ∧ H' q = some (.lst (tV Ls)) ∧ (∀ t ∈ Fs, t.length ≤ i ∧ ∀ c ∈ t, c ∈ al) ∧ (∀ t ∈ Ls, t.length ≤ i ∧ ∀ c ∈ t, c ∈ al) ∧ 2 * Fs.length + 1 ≤ 3 ^ (i + 1) ∧ Ls.length ≤ 3 ^ i) ?_ ?_ ?_
    · have hq' : H q0 = none := by
        cases z : H q0 with
        | none => rfl
        | some o => rw [upd_ne (ne_of_none z hp0), z] at hq0; cases hq0
      have n : p0 ≠ q0 := fun z => by rw [← z, upd_same] at hq0; cases hq0
      refine ⟨p0, q0, [[]], [[]], _, _, _, rfl, Same.lay2 (Same.lay hp0) hq', hp0, by rw [upd_ne n, upd_same, empty_S]; rfl, by rw [upd_same, empty_S]; rfl, by simp, by simp, by decide, by decide⟩
    · rintro i σ H' hi ⟨p, q, Fs, Ls, x4, x5, x6, rfl, sm, hp, ep, eq, hF, hL, nF, nL⟩
      walk_at "go"
      refine ⟨by show 0 ≤ sizeLine; decide, fun r hr0 => ?_⟩
      walk_at "go"
      have hrH := L2.Same.free sm hr0
      have nqr : q ≠ r := ne_of_none eq hr0
      have npr : p ≠ r := ne_of_none ep hr0
      have p3 : 3 ^ i ≤ 3 ^ 5 := Nat.pow_le_pow_right (by decide) (by omega)
      have e81 : (3 : Nat) ^ 5 = 243 := by decide
      refine ⟨q, rfl, ⟨tV Ls, SqL.of (by rw [upd_ne nqr]; exact eq)⟩, ?_⟩
      refine for_list (K := K) (a := q) (xs := tV Ls) (fun j σ2 H2 => ∃ (x6 : Option V) (Ms : List (List Nat)), σ2 = [some (.str (S al)), some (vn k), some (.ref p), some (.ref q), some (.int (0 + (i : Int))), some (.ref r), x6, none] ∧ Same H' H2 ∧ H2 r = some (.lst (tV Ms)) ∧ (∀ t ∈ Ms, t.length ≤ i + 1 ∧ ∀ c ∈ t, c ∈ al) ∧ Ms.length ≤ j * 3) ?_ ?_ ?_ ?_
      · exact ⟨_, [], rfl, Same.lay hr0, upd_same, by simp, by simp⟩
      · rintro j σ2 H2 _ ⟨_, _, _, s2, _⟩
        exact SqL.of (s2 _ _ eq)
      · rintro j y σ2 H2 hj ⟨x6, Ms, rfl, s2, er, hM, nM⟩
        have hjl : j < Ls.length := by have := (List.getElem?_eq_some_iff.mp hj).1; rwa [tV, List.length_map] at this
        have ey : y = V.str (S Ls[j]) := by
          rw [tV, List.getElem?_map, List.getElem?_eq_getElem hjl] at hj
          exact (Option.some.inj hj).symm
        subst ey
        have ht := hL _ (List.getElem_mem hjl)
        walk_at "go"
        refine ⟨.inl ⟨rfl, _, SqL.of er⟩, ?_⟩
        walk_at "go"
        intro D hD
        have nrD : r ≠ D := ne_of_none er hD
        refine lc_text (x := al) (fun m H3 => Same H2 H3 ∧ H3 D = some (.lst (tV ((al.take m).map fun c => Ls[j] ++ [c])))) ?_ ?_ ?_
        · exact ⟨Same.lay hD, upd_same⟩
        · rintro m c H3 hm ⟨s3, eD⟩
          walk_at "go"
          refine ⟨rfl, ?_⟩
          walk_at "go"
          refine ⟨S Ls[j], S [c], rfl, rfl, by rw [S_len, S_len, PySem.sizeLine_eq]; simp; omega, ?_⟩
          rw [S_app]
          walk_at "go"
          refine ⟨_, eD, by rw [tV, List.length_map, List.length_map, List.length_take, PySem.sizeLine_eq]; omega, Same.lay2 s3 hD, ?_⟩
          rw [take_snoc hm, List.map_append, tV_app]; exact upd_same
        · rintro H3 ⟨s3, eD⟩
          rw [List.take_length] at eD
          walk_at "go"
          refine ⟨r, D, _, _, rfl, rfl, s3 _ _ er, eD, by rw [tV, tV, List.length_map, List.length_map, List.length_map, PySem.sizeLine_eq]; omega, ?_⟩
          walk_at "go"
          have s4 : Same H' (upd H3 r (.lst (tV Ms ++ tV (al.map fun c => Ls[j] ++ [c])))) := fun b o e => by
            rw [upd_ne (ne_of_none e hr0)]
            exact s3 _ _ (s2 _ _ e)
          refine ⟨_, Ms ++ al.map (fun c => Ls[j] ++ [c]), rfl, s4, by rw [tV_app]; exact upd_same, fun t hts => ?_, by rw [List.length_append, List.length_map, Nat.succ_mul]; omega⟩
          rcases List.mem_append.mp hts with hts | hts
          · exact hM t hts
          · obtain ⟨c, hc, rfl⟩ := List.mem_map.mp hts
            refine ⟨by rw [List.length_append]; simp; exact ht.1, fun d hd => ?_⟩
            rcases List.mem_append.mp hd with hd | hd
            · exact ht.2 d hd
            · rw [List.mem_singleton.mp hd]; exact hc
      · rintro σ2 H2 ⟨x6, Ms, rfl, s2, er, hM, nM⟩
        rw [tV, List.length_map] at nM
        walk_at "go"
        have hf : Fs.length ≤ 364 := by
          have : 3 ^ (i + 1) ≤ 3 ^ 6 := Nat.pow_le_pow_right (by decide) (by omega)
          have e : (3 : Nat) ^ 6 = 729 := by decide
          omega
        refine ⟨p, r, _, _, rfl, rfl, s2 _ _ ep, er, by rw [tV, tV, List.length_map, List.length_map, PySem.sizeLine_eq]; omega, fun p' hp' => ?_⟩
        walk_at "go"
        have s5 : Same H H2 := L2.Same.trans sm s2
        refine ⟨p', r, Fs ++ Ms, Ms, _, _, _, rfl, Same.lay2 s5 (L2.Same.free s5 hp'), L2.Same.free s5 hp', by rw [tV_app]; exact upd_same, by rw [upd_ne (ne_of_none er hp')]; exact er, fun t hts => ?_, hM, ?_, by rw [Nat.pow_succ]; omega⟩
        · rcases List.mem_append.mp hts with hts | hts
          · exact ⟨Nat.le_succ_of_le (hF t hts).1, (hF t hts).2⟩
          · exact hM t hts
        · rw [List.length_append, Nat.pow_succ 3 (i + 1)]
          have : 3 ^ (i + 1) = 3 ^ i * 3 := Nat.pow_succ ..
          omega
    · rintro σ H' ⟨p, q, Fs, Ls, x4, x5, x6, rfl, sm, hp, ep, eq, hF, hL, nF, nL⟩
      walk_at "go"
      exact kq p H' Fs sm hp ep hF nF
end

end Cs
namespace Cs
open PySem L2
open PyProof.Rows (envOfC)
theorem Same.ofKp2 {p : Addr} {H0 H1 H2 : Hp} (n : H0 p = none) (s : Same H0 H1) (k : Kp p H1 H2) : Same H0 H2 := fun b o e => k.at (ne_of_none e n) (s _ _ e)
theorem tV_get {Ts : List (List Nat)} {j : Nat} {y : V} (h : (tV Ts)[j]? = some y) : ∃ t ∈ Ts, y = .str (S t) := by
  rw [tV, List.getElem?_map] at h
  cases e : Ts[j]? with
  | none => rw [e] at h; cases h
  | some t => rw [e] at h; exact ⟨t, List.mem_of_getElem? e, (Option.some.inj h).symm⟩
section
variable {P : Program} {w : World} {K : PySem.W.Frag} {mg : Str → Option Value} {base : Heap}
theorem ok_law (B : Blt mg) (G__law_source : Cal P w K mg base 1 "_law_source" ["_law_script", "_law_k"] (sp_source K)) (G__law_alphabet : Cal P w K mg base 2 "_law_alphabet" ["_law_source_here", "_law_many"] sp_alphabet)
    (G__law_draw : Cal P w K mg base 1 "_law_draw" ["_law_source_here", "_law_many"] sp_draw) (G__law_part : Cal P w K mg base 4 "_law_part" ["_law_source_here", "_law_alphabet_here"] sp_part)
    (G__law_pair : Cal P w K mg base 2 "_law_pair" ["_law_source_here", "_law_p", "_law_q", "_law_r"] sp_pair)
    (G__law_short_texts : Cal P w K mg base 1 "_law_short_texts" ["_law_alphabet_here", "_law_longest"] (sp_short K)) (G__law_text : Cal P w K mg base 2 "_law_text" ["_law_source_here", "_law_alphabet_here", "_law_many"] sp_text)
    {CI : Addr} {km : Nat} (hkm : km ≤ 229) (G_matches : CalX P w K mg base km "matches" ["alphabet", "pattern", "text"] (sp_matches CI 4 3))
    {f : Addr} {fd : FuncData} (F : Fun K "law" "law" s_law f fd) : FnOk P w K mg base CX0 230 f fd ["_law_script"] (spLaw K) := by
  refine F.ok (k := 229) sc_law (fun vs H Q E h => ?_) (fun cdv A outer s H vs Q E hr h => ?_)
  · obtain ⟨a, ns, rfl, _⟩ := h
    rfl
  · obtain ⟨a, ns, rfl, hS, hlen, k⟩ := h
    refine ⟨_, (pss_cons (ps_for PassesOwn.never rfl (pi_range1 (by rfl) B.range (pa_cons pe_int pa_nil)) (pg_name (i := 1) sc_law.nd rfl (Or.inl rfl))
    (pss_cons (ps_set (i := 2) sc_law.nd rfl (Or.inr rfl) (pe_c G__law_source (hr.mono (by first | decide | omega)) (pa_cons (pv 0) (pa_cons (pv 1) pa_nil))))
    (pss_cons (ps_set (i := 3) sc_law.nd rfl (Or.inr rfl) (pe_c G__law_alphabet (hr.mono (by first | decide | omega)) (pa_cons (pv 2) (pa_cons (pe_op op_add pe_int (pe_c G__law_draw (hr.mono (by first | decide | omega)) (pa_cons (pv 2) (pa_cons pe_int pa_nil)))) pa_nil))))
    (pss_cons (ps_setLc (i := 4) (own := [("_law_j", 9)]) rfl sc_law.nd rfl rfl (sw_true rfl rfl rfl (by decide +kernel)) (pi_range1 (by rfl) B.range (pa_cons pe_int pa_nil)) (blkOk_by (N := ["_law_script", "_law_k", "_law_source_here", "_law_alphabet_here", "_law_parts", "_law_one", "_law_other", "_law_texts", "_law_text_here", "_law_j"]) (sc := defScope s_law) (by decide +kernel)) (fun _ _ _ _ _ => (pg_name (i := 9) sc_law.nd rfl (Or.inl rfl))) (fun _ _ _ _ _ => pts_nil) (fun _ _ _ _ _ => (pe_c G__law_part (hr.mono (by first | decide | omega)) (pa_cons (pv 2) (pa_cons (pv 3) pa_nil)))))
    (pss_cons (ps_asg (pe_c G__law_pair (hr.mono (by first | decide | omega)) (pa_cons (pv 2) (pa_cons (pe_ix (ix_listK (K := K) (by rfl)) (pv 4) pe_int (fun _ _ => rfl)) (pa_cons (pe_ix (ix_listK (K := K) (by rfl)) (pv 4) pe_int (fun _ _ => rfl)) (pa_cons (pe_ix (ix_listK (K := K) (by rfl)) (pv 4) pe_int (fun _ _ => rfl)) pa_nil))))) (pg_tupK (n := 2) (K := K) (by rfl) (by rfl) (pgs_cons (pg_name (i := 5) sc_law.nd rfl (Or.inl rfl)) (pgs_cons (pg_name (i := 6) sc_law.nd rfl (Or.inl rfl)) pgs_nil))))
    (pss_cons (ps_set (i := 7) sc_law.nd rfl (Or.inl rfl) (pe_c G__law_short_texts (hr.mono (by first | decide | omega)) (pa_cons (pv 3) (pa_cons (pe_op op_sub pe_int (pe_callB call_len_str (by rfl) B.len PySem.boot_len (pa_cons (pv 3) pa_nil))) pa_nil))))
    (pss_one (ps_for PassesOwn.never rfl (pi_listK (K := K) (by rfl) (pe_op op_cat (pv 7) (pe_lc (own := [("_law_j", 9)]) rfl sc_law.nd (pi_range1 (by rfl) B.range (pa_cons pe_int pa_nil)) (blkOk_by (N := ["_law_script", "_law_k", "_law_source_here", "_law_alphabet_here", "_law_parts", "_law_one", "_law_other", "_law_texts", "_law_text_here", "_law_j"]) (sc := defScope s_law) (by decide +kernel)) (fun _ _ _ _ _ => (pg_name (i := 9) sc_law.nd rfl (Or.inl rfl))) (fun _ _ _ _ _ => pts_nil) (fun _ _ _ _ _ => (pe_c G__law_text (hr.mono (by first | decide | omega)) (pa_cons (pv 2) (pa_cons (pv 3) (pa_cons (pe_c G__law_draw (hr.mono (by first | decide | omega)) (pa_cons (pv 2) (pa_cons pe_int pa_nil))) pa_nil)))))))) (pg_name (i := 8) sc_law.nd rfl (Or.inl rfl))
    (pss_one (ps_if (pt_cmpR op_ne (pe_cX G_matches (hr.mono (by first | decide | omega)) takes0 (pa_cons (pv 3) (pa_cons (pv 5) (pa_cons (pv 8) pa_nil)))) (pe_cX G_matches (hr.mono (by first | decide | omega)) takes0 (pa_cons (pv 3) (pa_cons (pv 6) (pa_cons (pv 8) pa_nil)))) (nomark _))
    (pss_one (ps_ret pe_bl))
    pss_nil))))))))))
    (pss_one (ps_ret pe_bl))), ?_⟩
    walk_at "go"
    refine rd_rng1j (by decide) (by decide) ?_
    refine for_range (lo := 0) (n := 3) (fun i σ H' => ∃ x1 x2 x3 x4 x5 x6 x7 x8 x9 : Option V, σ = [some (.ref a), x1, x2, x3, x4, x5, x6, x7, x8, x9] ∧ Same H H') ?_ ?_ ?_
    · exact ⟨_, _, _, _, _, _, _, _, _, rfl, Same.refl _⟩
    · rintro i σ H0 hi ⟨x1, x2, x3, x4, x5, x6, x7, x8, x9, rfl, sm0⟩
      walk_at "go"
      refine ⟨a, ns, _, rfl, L2.Same.seq sm0 hS, by omega, by omega, fun p H1 hp sm1 hS1 => ?_⟩
      walk_at "go"
      refine use_draw (n := 9999) (hS1.mono (by decide)) (by decide) (by decide) fun m0 H2 m1 m2 hS2 k2 => ?_
      obtain ⟨m, hm⟩ : ∃ m : Int, m = 2 + m0 := ⟨_, rfl⟩
      walk_at "go"
      rw [← hm]
      refine use_alphabet (n := 9000) (hS2.mono (by decide)) (by omega) (by omega) fun al H3 hA hal hS3 k3 => ?_
      have al3 : al.length ≤ 3 := by omega
      have al2 : 2 ≤ al.length := by omega
      walk_at "go"
      refine rd_rng1j (by decide) (by decide) ?_
      intro D hD
      have Da : D ≠ p := hS3.ne hD
      refine lc_range (lo := 0) (n := 3) (fun j H' => ∃ (vs : List V) (ps : List Pt), H' D = some (.lst vs) ∧ TpAll H' vs (ps.map Pt.d) ∧ ps.length = j ∧ (∀ x ∈ ps, Pp al x) ∧ Src p (5000 + 20 * (3 - j)) H' ∧ Kp p H3 H') ?_ ?_ ?_
      · exact ⟨[], [], upd_same, .nil, rfl, by simp, (hS3.lay Da).mono (by decide), Kp.refl.lay hD⟩
      · rintro j HH hj ⟨vs, ps, eD, hv, hl, hP, hSU, kU⟩
        walk_at "go"
        refine ⟨rfl, ?_⟩
        walk_at "go"
        refine use_part (n := 5000 + 20 * (3 - (j + 1))) hA (hSU.mono (by omega)) fun v x H4 hx ev hS4 k4 => ?_
        walk_at "go"
        have t4 := TS.kp hSU k4
        have hvl : vs.length = ps.length := by have := TpAll.length hv; rwa [List.length_map] at this
        have eD4 := k4.at Da eD
        have tD : TS H4 (upd H4 D (.lst (vs ++ [v]))) := TS.set eD4
        refine ⟨_, eD4, by rw [hvl, PySem.sizeLine_eq]; omega, vs ++ [v], ps ++ [x], upd_same, ?_, by rw [List.length_append, hl]; rfl, fun y hy => ?_, hS4.lay Da, (kU.trans k4).lay hD⟩
        · rw [List.map_append]
          exact TpAll.app ((hv.ts t4).ts tD) (.cons (ev.ts tD) .nil)
        · rcases List.mem_append.mp hy with hy | hy
          · exact hP y hy
          · rw [List.mem_singleton.mp hy]; exact hx
      · rintro H4 ⟨vs, ps, eD, hv, hl, hP, hS4, k4⟩
        obtain ⟨pa, pb, pc, rfl⟩ : ∃ pa pb pc, ps = [pa, pb, pc] := by
          match ps, hl with
          | [a, b, c], _ => exact ⟨a, b, c, rfl⟩
        have hpa := hP pa (by simp)
        have hpb := hP pb (by simp)
        have hpc := hP pc (by simp)
        obtain ⟨va, vs1, rfl, eva, hv⟩ := hv.consE
        obtain ⟨vb, vs2, rfl, evb, hv⟩ := hv.consE
        obtain ⟨vc, vs3, rfl, evc, hv⟩ := hv.consE
        rw [hv.nilE] at eD
        walk_at "go"
        refine rd_ixl (SqL.of eD) (atI_nat (j := 0) rfl) ?_
        walk_at "go"
        refine rd_ixl (SqL.of eD) (atI_nat (j := 1) rfl) ?_
        walk_at "go"
        refine rd_ixl (SqL.of eD) (atI_nat (j := 2) rfl) ?_
        walk_at "go"
        refine use_pair (n := 4999) (hS4.mono (by decide)) eva evb evc fun v x H5 hx ev hS5 k5 => ?_
        have same := pairs_same pa pb pc x hx
        obtain ⟨⟨jd1, jd2⟩, wd1, wd2⟩ := pairs_ok hpa hpb hpc x hx
        obtain ⟨x1, x2⟩ := x
        obtain ⟨aq, xs, rfl, eq, tx⟩ := ev.tupE
        obtain ⟨v1, xs1, rfl, ev1, tx⟩ := tx.consE
        obtain ⟨v2, xs2, rfl, ev2, tx⟩ := tx.consE
        rw [tx.nilE] at eq
        walk_at "go"
        refine rd_gtup (SqT.of eq) rfl ?_
        walk_at "go"
        refine ⟨S al, rfl, by rw [S_len, PySem.sizeLine_eq]; omega, ?_⟩
        rw [S_len]
        walk_at "go"
        obtain ⟨kk, hkk, hkk5⟩ : ∃ kk : Nat, (7 : Int) - ((al.length : Nat) : Int) = (kk : Int) ∧ kk ≤ 5 := ⟨7 - al.length, by omega, by omega⟩
        rw [hkk]
        refine use_short al3 hkk5 fun pT H9 Ts s9 np9 eT hT nT => ?_
        have nT3 : Ts.length ≤ 364 := by
          have h1 : 3 ^ (kk + 1) ≤ 3 ^ 6 := Nat.pow_le_pow_right (by decide) (by omega)
          have h2 : (3 : Nat) ^ 6 = 729 := by decide
          omega
        walk_at "go"
        refine rd_rng1j (by decide) (by decide) ?_
        intro D2 hD2
        have hS9 := hS5.same s9
        have D2a : D2 ≠ p := hS9.ne hD2
        have nTp : pT ≠ p := hS5.ne np9
        refine lc_range (lo := 0) (n := 12) (fun j H' => ∃ Us : List (List Nat), H' D2 = some (.lst (tV Us)) ∧ Us.length = j ∧ (∀ t ∈ Us, t.length ≤ 10 ∧ ∀ c ∈ t, c ∈ al) ∧ Src p (2000 + 20 * (12 - j)) H' ∧ Kp p H9 H') ?_ ?_ ?_
        · exact ⟨[], upd_same, rfl, by simp, (hS9.lay D2a).mono (by decide), Kp.refl.lay hD2⟩
        · rintro j HH hj ⟨Us, eD, hl, hU, hSU, kU⟩
          walk_at "go"
          refine ⟨rfl, ?_⟩
          walk_at "go"
          refine use_draw (n := 2000 + 20 * (12 - (j + 1)) + 19) (hSU.mono (by omega)) (by decide) (by decide) fun d H10 d0 d1 hS10 k10 => ?_
          obtain ⟨dn, rfl⟩ : ∃ dn : Nat, d = (dn : Int) := ⟨d.toNat, by omega⟩
          walk_at "go"
          refine use_text (n := 2000 + 20 * (12 - (j + 1))) (by omega) (by omega) (m := dn) (by omega) (hS10.mono (by omega)) fun t H11 lt ht hS11 k11 => ?_
          walk_at "go"
          refine ⟨_, k11.at D2a (k10.at D2a eD), by rw [tV, List.length_map, hl, PySem.sizeLine_eq]; omega, Us ++ [t], by rw [tV_app]; exact upd_same, by rw [List.length_append, hl]; rfl, fun u hu => ?_, hS11.lay D2a, (kU.trans (k10.trans k11)).lay hD2⟩
          rcases List.mem_append.mp hu with hu | hu
          · exact hU u hu
          · rw [List.mem_singleton.mp hu]; exact ⟨by omega, ht⟩
        · rintro H12 ⟨Us, eD2, hl, hU, hSU, kU⟩
          walk_at "go"
          have eT12 := kU.at nTp eT
          refine ⟨pT, D2, _, _, rfl, rfl, eT12, eD2, by rw [tV, tV, List.length_map, List.length_map, PySem.sizeLine_eq]; omega, fun pA hpA => ?_⟩
          rw [← tV_app]
          have hA1 : ∀ t ∈ Ts ++ Us, t.length ≤ 10 ∧ ∀ c ∈ t, c ∈ al := fun t ht => by
            rcases List.mem_append.mp ht with ht | ht
            · exact ⟨by have := (hT t ht).1; omega, (hT t ht).2⟩
            · exact hU t ht
          generalize Ts ++ Us = TA at hA1
          have K12 : Kp p H1 H12 := Kp.trans k2 (Kp.trans k3 (Kp.trans k4 (Kp.trans k5 (Kp.trans (Kp.of s9) kU))))
          have T12 : TS H5 H12 := (TS.same s9).trans (TS.kp hS9 kU)
          have sA : Same H12 (upd H12 pA (.lst (tV TA))) := Same.lay hpA
          walk_at "go"
          refine ⟨pA, rfl, ⟨tV TA, SqL.of upd_same⟩, ?_⟩
          refine for_list (K := K) (a := pA) (xs := tV TA) (fun j σ2 H2 => ∃ x8 : Option V, σ2 = [some (.ref a), some (.int (0 + (i : Nat))), some (.ref p), some (.str (S al)), some (.ref D), some v1, some v2, some (.ref pT), x8, x9] ∧ Same (upd H12 pA (.lst (tV TA))) H2) ?_ ?_ ?_ ?_
          · exact ⟨_, rfl, Same.refl _⟩
          · rintro j σ2 H2 _ ⟨_, _, s⟩
            exact SqL.of (s _ _ upd_same)
          · rintro j y σ2 H2 hj ⟨x8, rfl, s2⟩
            obtain ⟨t, htA, rfl⟩ := tV_get hj
            have ht := hA1 t htA
            have noBad : ∀ i0, ¬ Bad al t i0 := fun i0 ⟨c, hc, hn, _⟩ => hn (ht.2 c (List.mem_of_getElem? hc))
            have tt : TS H5 H2 := T12.trans ((TS.same sA).trans (TS.same s2))
            walk_at "go"
            refine rd_callS ?_
            walk_at "go"
            refine use_matches hA.nd (by omega) jd1 (ev1.ts tt) wd1 (by omega) (fun _ H3' b s3 hb => ?_) (fun i0 hb => absurd hb (noBad i0))
            walk_at "go"
            refine rd_callS ?_
            walk_at "go"
            refine use_matches hA.nd (by omega) jd2 ((ev2.ts tt).ts (TS.same s3)) wd2 (by omega) (fun _ H4' b4 s4 hb4 => ?_) (fun i0 hb => absurd hb (noBad i0))
            have eb : b4 = b := by
              have := same t
              cases b <;> cases b4 <;> simp_all
            subst eb
            walk_at "go"
            refine ite2 (fun z => absurd z (by cases b4 <;> decide)) (fun _ => ?_)
            walk_at "go"
            exact ⟨_, rfl, L2.Same.trans s2 (L2.Same.trans s3 s4)⟩
          · rintro σ2 H2 ⟨x8, rfl, s2⟩
            walk_at "go"
            exact ⟨_, _, _, _, _, _, _, _, _, rfl, L2.Same.trans sm0 (Same.ofKp2 hp sm1 (Kp.trans K12 (Kp.of (L2.Same.trans sA s2))))⟩
    · rintro σ H' ⟨x1, x2, x3, x4, x5, x6, x7, x8, x9, rfl, sm⟩
      walk_at "go"
      exact k H'
end

end Cs
namespace Cs
open PySem L2
open PyProof.Rows (envOfC)
theorem rd_cutS {t1 t2 : L2.TS} {D : Ends} {σ : St} {H : Hp} (C : St → Hp → Prop) (h1 : ∀ nx' : St → Hp → Prop, (∀ σ H, C σ H → nx' σ H) → t1 { D with nx := nx' } σ H) (h2 : ∀ σ H, C σ H → t2 D σ H) : tSeq t1 t2 D σ H := h1 _ h2
section
variable {P : Program} {w : World} {K : PySem.W.Frag} {mg : Str → Option Value} {base : Heap}
theorem ok_pair (B : Blt mg) (G__law_draw : Cal P w K mg base 1 "_law_draw" ["_law_source_here", "_law_many"] sp_draw)
    (F : At K mg "_law_pair" s__law_pair ["_law_source_here", "_law_p", "_law_q", "_law_r"]) : Cal P w K mg base 2 "_law_pair" ["_law_source_here", "_law_p", "_law_q", "_law_r"] sp_pair := by
  refine F.ok (k := 1) sc__law_pair (fun vs H Q E h => ?_) (fun f cdv A outer s H vs Q E hr h => ?_)
  · obtain ⟨a, n, vp, vq, vr, p, q, r, rfl, _⟩ := h
    rfl
  · obtain ⟨a, n, vp, vq, vr, p, q, r, rfl, S0, ep0, eq0, er0, kq⟩ := h
    refine ⟨_, (pss_cons (ps_asg (pe_tup (pa_cons (pe_tup (pa_cons pe_str pa_nil)) (pa_cons (pe_tup (pa_cons pe_str pa_nil)) pa_nil))) (pg_tupK (n := 2) (K := K) (by rfl) (by rfl) (pgs_cons (pg_name (i := 4) sc__law_pair.nd rfl (Or.inl rfl)) (pgs_cons (pg_name (i := 5) sc__law_pair.nd rfl (Or.inl rfl)) pgs_nil))))
    (pss_cons (ps_set (i := 6) sc__law_pair.nd rfl (Or.inl rfl) (pe_tup (pa_cons pe_str (pa_cons (pv 1) (pa_cons pe_int (pa_cons pe_non pa_nil))))))
    (pss_cons (ps_set (i := 7) sc__law_pair.nd rfl (Or.inl rfl) (pe_lst (pa_cons (pe_tup (pa_cons (pe_tup (pa_cons pe_str (pa_cons (pe_tup (pa_cons pe_str (pa_cons (pv 1) pa_nil))) pa_nil))) (pa_cons (pv 1) pa_nil))) (pa_cons (pe_tup (pa_cons (pe_tup (pa_cons pe_str (pa_cons (pe_tup (pa_cons pe_str (pa_cons (pv 1) (pa_cons (pv 2) pa_nil)))) (pa_cons (pv 3) pa_nil)))) (pa_cons (pe_tup (pa_cons pe_str (pa_cons (pv 1) (pa_cons (pe_tup (pa_cons pe_str (pa_cons (pv 2) (pa_cons (pv 3) pa_nil)))) pa_nil)))) pa_nil))) pa_nil))))
    (pss_cons (ps_set (i := 7) sc__law_pair.nd rfl (Or.inl rfl) (pe_op op_cat (pv 7) (pe_lst (pa_cons (pe_tup (pa_cons (pe_tup (pa_cons pe_str (pa_cons (pe_tup (pa_cons pe_str (pa_cons (pv 1) (pa_cons (pv 2) pa_nil)))) pa_nil))) (pa_cons (pe_tup (pa_cons pe_str (pa_cons (pe_tup (pa_cons pe_str (pa_cons (pv 1) pa_nil))) (pa_cons (pe_tup (pa_cons pe_str (pa_cons (pv 2) pa_nil))) pa_nil)))) pa_nil))) pa_nil))))
    (pss_cons (ps_set (i := 7) sc__law_pair.nd rfl (Or.inl rfl) (pe_op op_cat (pv 7) (pe_lst (pa_cons (pe_tup (pa_cons (pe_tup (pa_cons pe_str (pa_cons (pe_tup (pa_cons pe_str (pa_cons (pv 1) (pa_cons (pv 2) pa_nil)))) pa_nil))) (pa_cons (pe_tup (pa_cons pe_str (pa_cons (pe_tup (pa_cons pe_str (pa_cons (pv 1) pa_nil))) (pa_cons (pe_tup (pa_cons pe_str (pa_cons (pv 2) pa_nil))) pa_nil)))) pa_nil))) pa_nil))))
    (pss_cons (ps_set (i := 7) sc__law_pair.nd rfl (Or.inl rfl) (pe_op op_cat (pv 7) (pe_lst (pa_cons (pe_tup (pa_cons (pe_tup (pa_cons pe_str (pa_cons (pv 1) (pa_cons (pv 2) pa_nil)))) (pa_cons (pe_tup (pa_cons pe_str (pa_cons (pv 2) (pa_cons (pv 1) pa_nil)))) pa_nil))) (pa_cons (pe_tup (pa_cons (pe_tup (pa_cons pe_str (pa_cons (pv 1) (pa_cons (pv 2) pa_nil)))) (pa_cons (pe_tup (pa_cons pe_str (pa_cons (pv 2) (pa_cons (pv 1) (pa_cons (pv 2) pa_nil))))) pa_nil))) (pa_cons (pe_tup (pa_cons (pe_tup (pa_cons pe_str (pa_cons (pv 1) (pa_cons (pv 4) pa_nil)))) (pa_cons (pv 1) pa_nil))) pa_nil))))))
    (pss_cons (ps_set (i := 7) sc__law_pair.nd rfl (Or.inl rfl) (pe_op op_cat (pv 7) (pe_lst (pa_cons (pe_tup (pa_cons (pe_tup (pa_cons pe_str (pa_cons (pv 1) (pa_cons (pe_tup (pa_cons pe_str (pa_cons (pv 2) (pa_cons (pv 3) pa_nil)))) pa_nil)))) (pa_cons (pe_tup (pa_cons pe_str (pa_cons (pe_tup (pa_cons pe_str (pa_cons (pv 1) (pa_cons (pv 2) pa_nil)))) (pa_cons (pe_tup (pa_cons pe_str (pa_cons (pv 1) (pa_cons (pv 3) pa_nil)))) pa_nil)))) pa_nil))) pa_nil))))
    (pss_cons (ps_set (i := 7) sc__law_pair.nd rfl (Or.inl rfl) (pe_op op_cat (pv 7) (pe_lst (pa_cons (pe_tup (pa_cons (pe_tup (pa_cons pe_str (pa_cons (pe_tup (pa_cons pe_str (pa_cons (pv 1) (pa_cons (pv 2) pa_nil)))) (pa_cons (pv 3) pa_nil)))) (pa_cons (pe_tup (pa_cons pe_str (pa_cons (pe_tup (pa_cons pe_str (pa_cons (pv 1) (pa_cons (pv 3) pa_nil)))) (pa_cons (pe_tup (pa_cons pe_str (pa_cons (pv 2) (pa_cons (pv 3) pa_nil)))) pa_nil)))) pa_nil))) pa_nil))))
    (pss_cons (ps_set (i := 7) sc__law_pair.nd rfl (Or.inl rfl) (pe_op op_cat (pv 7) (pe_lst (pa_cons (pe_tup (pa_cons (pe_tup (pa_cons pe_str (pa_cons (pv 1) (pa_cons (pe_tup (pa_cons pe_str pa_nil)) pa_nil)))) (pa_cons (pv 1) pa_nil))) (pa_cons (pe_tup (pa_cons (pe_tup (pa_cons pe_str (pa_cons (pv 1) pa_nil))) (pa_cons (pv 1) pa_nil))) (pa_cons (pe_tup (pa_cons (pe_tup (pa_cons pe_str (pa_cons (pv 5) (pa_cons (pv 1) pa_nil)))) (pa_cons (pv 1) pa_nil))) pa_nil))))))
    (pss_cons (ps_set (i := 7) sc__law_pair.nd rfl (Or.inl rfl) (pe_op op_cat (pv 7) (pe_lst (pa_cons (pe_tup (pa_cons (pe_tup (pa_cons pe_str (pa_cons (pv 1) (pa_cons (pe_tup (pa_cons pe_str pa_nil)) pa_nil)))) (pa_cons (pe_tup (pa_cons pe_str pa_nil)) pa_nil))) (pa_cons (pe_tup (pa_cons (pe_tup (pa_cons pe_str (pa_cons (pv 1) (pa_cons (pv 5) (pa_cons (pv 2) pa_nil))))) (pa_cons (pe_tup (pa_cons pe_str (pa_cons (pv 1) (pa_cons (pv 2) pa_nil)))) pa_nil))) pa_nil)))))
    (pss_cons (ps_set (i := 7) sc__law_pair.nd rfl (Or.inl rfl) (pe_op op_cat (pv 7) (pe_lst (pa_cons (pe_tup (pa_cons (pv 6) (pa_cons (pe_tup (pa_cons pe_str (pa_cons (pv 5) (pa_cons (pe_tup (pa_cons pe_str (pa_cons (pv 1) (pa_cons (pv 6) pa_nil)))) pa_nil)))) pa_nil))) (pa_cons (pe_tup (pa_cons (pe_tup (pa_cons pe_str (pa_cons (pv 1) (pa_cons pe_int (pa_cons pe_non pa_nil))))) (pa_cons (pe_tup (pa_cons pe_str (pa_cons (pv 1) (pa_cons (pv 1) (pa_cons (pv 6) pa_nil))))) pa_nil))) pa_nil)))))
    (pss_cons (ps_set (i := 7) sc__law_pair.nd rfl (Or.inl rfl) (pe_op op_cat (pv 7) (pe_lst (pa_cons (pe_tup (pa_cons (pe_tup (pa_cons pe_str (pa_cons (pv 1) (pa_cons pe_int (pa_cons pe_int pa_nil))))) (pa_cons (pe_tup (pa_cons pe_str (pa_cons (pv 1) (pa_cons (pe_tup (pa_cons pe_str (pa_cons (pv 1) (pa_cons (pv 1) pa_nil)))) pa_nil)))) pa_nil))) (pa_cons (pe_tup (pa_cons (pe_tup (pa_cons pe_str (pa_cons (pv 1) (pa_cons pe_int (pa_cons pe_int pa_nil))))) (pa_cons (pv 1) pa_nil))) pa_nil)))))
    (pss_cons (ps_set (i := 7) sc__law_pair.nd rfl (Or.inl rfl) (pe_op op_cat (pv 7) (pe_lst (pa_cons (pe_tup (pa_cons (pe_tup (pa_cons pe_str (pa_cons (pv 1) (pa_cons pe_int (pa_cons pe_int pa_nil))))) (pa_cons (pe_tup (pa_cons pe_str (pa_cons (pe_tup (pa_cons pe_str (pa_cons (pv 5) (pa_cons (pv 1) pa_nil)))) (pa_cons (pe_tup (pa_cons pe_str (pa_cons (pv 5) (pa_cons (pv 1) pa_nil)))) pa_nil)))) pa_nil))) pa_nil))))
    (pss_cons (ps_set (i := 7) sc__law_pair.nd rfl (Or.inl rfl) (pe_op op_cat (pv 7) (pe_lst (pa_cons (pe_tup (pa_cons (pe_tup (pa_cons pe_str (pa_cons (pv 1) (pa_cons (pe_tup (pa_cons pe_str (pa_cons (pv 1) pa_nil))) pa_nil)))) (pa_cons (pv 4) pa_nil))) (pa_cons (pe_tup (pa_cons (pe_tup (pa_cons pe_str (pa_cons (pv 1) (pa_cons (pe_tup (pa_cons pe_str (pa_cons (pv 1) pa_nil))) pa_nil)))) (pa_cons (pe_tup (pa_cons pe_str pa_nil)) pa_nil))) (pa_cons (pe_tup (pa_cons (pe_tup (pa_cons pe_str (pa_cons (pv 1) (pa_cons (pv 1) pa_nil)))) (pa_cons (pe_tup (pa_cons pe_str (pa_cons (pv 1) pa_nil))) pa_nil))) pa_nil))))))
    (pss_cons (ps_set (i := 7) sc__law_pair.nd rfl (Or.inl rfl) (pe_op op_cat (pv 7) (pe_lst (pa_cons (pe_tup (pa_cons (pe_tup (pa_cons pe_str (pa_cons (pv 6) (pa_cons pe_int (pa_cons pe_non pa_nil))))) (pa_cons (pv 6) pa_nil))) (pa_cons (pe_tup (pa_cons (pe_tup (pa_cons pe_str (pa_cons (pv 1) (pa_cons pe_int (pa_cons pe_int pa_nil))))) (pa_cons (pv 5) pa_nil))) (pa_cons (pe_tup (pa_cons (pe_tup (pa_cons pe_str (pa_cons (pv 6) (pa_cons (pv 6) pa_nil)))) (pa_cons (pv 6) pa_nil))) pa_nil))))))
    (pss_cons (ps_set (i := 7) sc__law_pair.nd rfl (Or.inl rfl) (pe_op op_cat (pv 7) (pe_lst (pa_cons (pe_tup (pa_cons (pe_tup (pa_cons pe_str pa_nil)) (pa_cons (pe_tup (pa_cons pe_str (pa_cons (pv 4) pa_nil))) pa_nil))) (pa_cons (pe_tup (pa_cons (pe_tup (pa_cons pe_str (pa_cons (pv 5) pa_nil))) (pa_cons (pe_tup (pa_cons pe_str (pa_cons (pv 4) (pa_cons (pe_tup (pa_cons pe_str (pa_cons (pv 5) pa_nil))) pa_nil)))) pa_nil))) pa_nil)))))
    (pss_cons (ps_set (i := 7) sc__law_pair.nd rfl (Or.inl rfl) (pe_op op_cat (pv 7) (pe_lst (pa_cons (pe_tup (pa_cons (pe_tup (pa_cons pe_str (pa_cons (pv 1) (pa_cons (pv 2) (pa_cons (pv 3) (pa_cons (pv 1) (pa_cons (pv 2) pa_nil))))))) (pa_cons (pe_tup (pa_cons pe_str (pa_cons (pv 2) (pa_cons (pv 3) (pa_cons (pv 1) pa_nil))))) pa_nil))) (pa_cons (pe_tup (pa_cons (pe_tup (pa_cons pe_str (pa_cons (pv 1) (pa_cons (pv 2) (pa_cons (pv 3) (pa_cons (pv 1) (pa_cons (pv 2) pa_nil))))))) (pa_cons (pe_tup (pa_cons pe_str (pa_cons (pv 2) (pa_cons (pv 3) (pa_cons (pv 1) pa_nil))))) pa_nil))) pa_nil)))))
    (pss_cons (ps_set (i := 7) sc__law_pair.nd rfl (Or.inl rfl) (pe_op op_cat (pv 7) (pe_lst (pa_cons (pe_tup (pa_cons (pe_tup (pa_cons pe_str (pa_cons (pv 4) (pa_cons (pv 4) (pa_cons (pv 4) (pa_cons (pv 1) pa_nil)))))) (pa_cons (pv 1) pa_nil))) (pa_cons (pe_tup (pa_cons (pe_tup (pa_cons pe_str (pa_cons (pv 1) (pa_cons (pv 2) (pa_cons (pv 3) (pa_cons (pe_tup (pa_cons pe_str pa_nil)) (pa_cons (pv 1) pa_nil))))))) (pa_cons (pe_tup (pa_cons pe_str (pa_cons (pv 3) (pa_cons (pv 2) (pa_cons (pv 1) pa_nil))))) pa_nil))) pa_nil)))))
    (pss_one (ps_ret (pe_ix (ix_listK (K := K) (by rfl)) (pv 7) (pe_c G__law_draw (hr.mono (by first | decide | omega)) (pa_cons (pv 0) (pa_cons (pe_callB (call_len_seqK (K := K) (by rfl)) (by rfl) B.len PySem.boot_len (pa_cons (pv 7) pa_nil)) pa_nil))) (fun _ _ => rfl)))))))))))))))))))))), ?_⟩
    refine rd_cutS (fun σ2 H2 => ∃ aT aE : Addr, σ2 = [some (.ref a), some vp, some vq, some vr, some (.ref aT), some (.ref aE), none, none] ∧ Tp H2 (.ref aT) pT.d ∧ Tp H2 (.ref aE) pE.d ∧ Src a (n + 1) H2 ∧ Kp a H H2 ∧ TS H H2) (fun nx2 hn => ?_) (fun σ2 H2 hC => ?_)
    · walk_at "go"
      refine ⟨by show 1 ≤ sizeLine; decide, rd_tupT S0 (.cons (.str (kS "all")) .nil) fun aT H1 eTr S1 k1 t1 => ?_⟩
      have eT : Tp H1 (.ref aT) pT.d := eTr
      walk_at "go"
      refine ⟨by show 1 ≤ sizeLine; decide, rd_tupT S1 (.cons (.str (kS "row")) .nil) fun aE H2 eEr S2 k2 t2 => ?_⟩
      have eE : Tp H2 (.ref aE) pE.d := eEr
      walk_at "go"
      refine ⟨by show 2 ≤ sizeLine; decide, rd_newK S2 fun q0 H3 n0 _ e0 S3 k3 => ?_⟩
      have t3 := TS.kp S2 k3
      walk_at "go"
      refine rd_gtup (SqT.of e0) rfl ?_
      walk_at "go"
      exact hn _ _ ⟨aT, aE, rfl, eT.ts (t2.trans t3), eE.ts t3, S3, k1.trans (k2.trans k3), t1.trans (t2.trans t3)⟩
    obtain ⟨aT, aE, rfl, eT1, eE1, S1, k01, t01⟩ := hC
    obtain ⟨HA, rfl⟩ : ∃ HA, HA = H2 := ⟨H2, rfl⟩
    refine rd_cutS (fun σ2 H2 => ∃ aM : Addr, σ2 = [some (.ref a), some vp, some vq, some vr, some (.ref aT), some (.ref aE), some (.ref aM), none] ∧ Tp H2 (.ref aM) (pM p).d ∧ Src a (n + 1) H2 ∧ Kp a H H2 ∧ TS H H2 ∧ TS HA H2) (fun nx2 hn => ?_) (fun σ2 H2 hC => ?_)
    · walk_at "go"
      refine ⟨by show 4 ≤ sizeLine; decide, rd_tupT S1 (.cons (.str (kS "again")) (.cons (ep0.ts t01) (.cons (.int 0) (.cons .non .nil)))) fun aM H1 eMr S2 k1 t1 => ?_⟩
      have eM : Tp H1 (.ref aM) (pM p).d := eMr
      walk_at "go"
      exact hn _ _ ⟨aM, rfl, eM, S2, k01.trans k1, t01.trans t1, t1⟩
    obtain ⟨aM, rfl, eM, SC, k02, t02, t12⟩ := hC
    have ep := ep0.ts t02
    have eq := eq0.ts t02
    have er := er0.ts t02
    have eT := eT1.ts t12
    have eE := eE1.ts t12
    obtain ⟨HB, eHB⟩ : ∃ HB, HB = H2 := ⟨H2, rfl⟩
    rw [← eHB] at ep eq er eT eE eM k02
    have KK : Kp a HB H2 := by rw [eHB]; exact Kp.refl
    have TT : TS HB H2 := by rw [eHB]; exact TS.refl
    clear eHB t01 t02 t12 k01 S1 eT1 eE1 ep0 eq0 er0 S0
    obtain ⟨HC, rfl⟩ : ∃ HC, HC = H2 := ⟨H2, rfl⟩
    refine rd_cutS (fun σ2 H2 => ∃ (L : Addr) (xs : List V), σ2 = [some (.ref a), some vp, some vq, some vr, some (.ref aT), some (.ref aE), some (.ref aM), some (.ref L)] ∧ H2 L = some (.lst xs) ∧ L ≠ a ∧ TpAll H2 xs (([(.no (.no (p)), p), (.row [.row [p, q], r], .row [p, .row [q, r]])] : List (Pt × Pt)).map prD) ∧ Src a (n + 1) H2 ∧ Kp a HB H2 ∧ TS HB H2) (fun nx2 hn => ?_) (fun σ2 H2 hC => ?_)
    · walk_at "go"
      refine ⟨by show 2 ≤ sizeLine; decide, rd_tupT SC (.cons (.str (kS "not")) (.cons (ep.ts TT) .nil)) fun q2 H1 e1r S1 k1 t1 => ?_⟩
      have e1 : Tp H1 (.ref q2) ((.no (p) : Pt).d) := e1r
      walk_at "go"
      refine ⟨by show 2 ≤ sizeLine; decide, rd_tupT S1 (.cons (.str (kS "not")) (.cons e1 .nil)) fun q4 H2 e3r S2 k2 t2 => ?_⟩
      have e3 : Tp H2 (.ref q4) ((.no (.no (p)) : Pt).d) := e3r
      walk_at "go"
      refine ⟨by show 2 ≤ sizeLine; decide, rd_tupT S2 (.cons e3 (.cons ((ep.ts TT).ts (t1.trans t2)) .nil)) fun q6 H3 e5r S3 k3 t3 => ?_⟩
      have e5 : Tp H3 (.ref q6) (prD (.no (.no (p)), p)) := e5r
      walk_at "go"
      refine ⟨by show 3 ≤ sizeLine; decide, rd_tupT S3 (.cons (.str (kS "row")) (.cons ((ep.ts TT).ts (t1.trans (t2.trans t3))) (.cons ((eq.ts TT).ts (t1.trans (t2.trans t3))) .nil))) fun q8 H4 e7r S4 k4 t4 => ?_⟩
      have e7 : Tp H4 (.ref q8) ((.row [p, q] : Pt).d) := e7r
      walk_at "go"
      refine ⟨by show 3 ≤ sizeLine; decide, rd_tupT S4 (.cons (.str (kS "row")) (.cons e7 (.cons ((er.ts TT).ts (t1.trans (t2.trans (t3.trans t4)))) .nil))) fun q10 H5 e9r S5 k5 t5 => ?_⟩
      have e9 : Tp H5 (.ref q10) ((.row [.row [p, q], r] : Pt).d) := e9r
      walk_at "go"
      refine ⟨by show 3 ≤ sizeLine; decide, rd_tupT S5 (.cons (.str (kS "row")) (.cons ((eq.ts TT).ts (t1.trans (t2.trans (t3.trans (t4.trans t5))))) (.cons ((er.ts TT).ts (t1.trans (t2.trans (t3.trans (t4.trans t5))))) .nil))) fun q12 H6 e11r S6 k6 t6 => ?_⟩
      have e11 : Tp H6 (.ref q12) ((.row [q, r] : Pt).d) := e11r
      walk_at "go"
      refine ⟨by show 3 ≤ sizeLine; decide, rd_tupT S6 (.cons (.str (kS "row")) (.cons ((ep.ts TT).ts (t1.trans (t2.trans (t3.trans (t4.trans (t5.trans t6)))))) (.cons e11 .nil))) fun q14 H7 e13r S7 k7 t7 => ?_⟩
      have e13 : Tp H7 (.ref q14) ((.row [p, .row [q, r]] : Pt).d) := e13r
      walk_at "go"
      refine ⟨by show 2 ≤ sizeLine; decide, rd_tupT S7 (.cons (e9.ts (t6.trans t7)) (.cons e13 .nil)) fun q16 H8 e15r S8 k8 t8 => ?_⟩
      have e15 : Tp H8 (.ref q16) (prD (.row [.row [p, q], r], .row [p, .row [q, r]])) := e15r
      walk_at "go"
      have PN : TpAll H8 _ (([(.no (.no (p)), p), (.row [.row [p, q], r], .row [p, .row [q, r]])] : List (Pt × Pt)).map prD) := (.cons (e5.ts (t4.trans (t5.trans (t6.trans (t7.trans t8))))) (.cons e15 .nil))
      refine ⟨by show 2 ≤ sizeLine; decide, rd_lstT S8 fun LN H9 nLN eLN S9 k9 t9 => ?_⟩
      walk_at "go"
      exact hn _ _ ⟨LN, _, rfl, eLN, nLN, (PN.ts t9), S9, KK.trans (k1.trans (k2.trans (k3.trans (k4.trans (k5.trans (k6.trans (k7.trans (k8.trans k9)))))))), TT.trans (t1.trans (t2.trans (t3.trans (t4.trans (t5.trans (t6.trans (t7.trans (t8.trans t9))))))))⟩
    clear KK TT SC
    obtain ⟨L, xs, rfl, eL, nL, PA, SC, KK, TT⟩ := hC
    obtain ⟨HC, rfl⟩ : ∃ HC, HC = H2 := ⟨H2, rfl⟩
    refine rd_cutS (fun σ2 H2 => ∃ (L : Addr) (xs : List V), σ2 = [some (.ref a), some vp, some vq, some vr, some (.ref aT), some (.ref aE), some (.ref aM), some (.ref L)] ∧ H2 L = some (.lst xs) ∧ L ≠ a ∧ TpAll H2 xs (([(.no (.no (p)), p), (.row [.row [p, q], r], .row [p, .row [q, r]]), (.no (.any [p, q]), .all [.no (p), .no (q)])] : List (Pt × Pt)).map prD) ∧ Src a (n + 1) H2 ∧ Kp a HB H2 ∧ TS HB H2) (fun nx2 hn => ?_) (fun σ2 H2 hC => ?_)
    · walk_at "go"
      refine ⟨by show 3 ≤ sizeLine; decide, rd_tupT SC (.cons (.str (kS "any")) (.cons (ep.ts TT) (.cons (eq.ts TT) .nil))) fun q18 H1 e17r S1 k1 t1 => ?_⟩
      have e17 : Tp H1 (.ref q18) ((.any [p, q] : Pt).d) := e17r
      walk_at "go"
      refine ⟨by show 2 ≤ sizeLine; decide, rd_tupT S1 (.cons (.str (kS "not")) (.cons e17 .nil)) fun q20 H2 e19r S2 k2 t2 => ?_⟩
      have e19 : Tp H2 (.ref q20) ((.no (.any [p, q]) : Pt).d) := e19r
      walk_at "go"
      refine ⟨by show 2 ≤ sizeLine; decide, rd_tupT S2 (.cons (.str (kS "not")) (.cons ((ep.ts TT).ts (t1.trans t2)) .nil)) fun q22 H3 e21r S3 k3 t3 => ?_⟩
      have e21 : Tp H3 (.ref q22) ((.no (p) : Pt).d) := e21r
      walk_at "go"
      refine ⟨by show 2 ≤ sizeLine; decide, rd_tupT S3 (.cons (.str (kS "not")) (.cons ((eq.ts TT).ts (t1.trans (t2.trans t3))) .nil)) fun q24 H4 e23r S4 k4 t4 => ?_⟩
      have e23 : Tp H4 (.ref q24) ((.no (q) : Pt).d) := e23r
      walk_at "go"
      refine ⟨by show 3 ≤ sizeLine; decide, rd_tupT S4 (.cons (.str (kS "all")) (.cons (e21.ts t4) (.cons e23 .nil))) fun q26 H5 e25r S5 k5 t5 => ?_⟩
      have e25 : Tp H5 (.ref q26) ((.all [.no (p), .no (q)] : Pt).d) := e25r
      walk_at "go"
      refine ⟨by show 2 ≤ sizeLine; decide, rd_tupT S5 (.cons (e19.ts (t3.trans (t4.trans t5))) (.cons e25 .nil)) fun q28 H6 e27r S6 k6 t6 => ?_⟩
      have e27 : Tp H6 (.ref q28) (prD (.no (.any [p, q]), .all [.no (p), .no (q)])) := e27r
      walk_at "go"
      have PN : TpAll H6 _ (([(.no (.any [p, q]), .all [.no (p), .no (q)])] : List (Pt × Pt)).map prD) := (.cons e27 .nil)
      refine ⟨by show 1 ≤ sizeLine; decide, rd_lstT S6 fun LN H7 nLN eLN S7 k7 t7 => ?_⟩
      walk_at "go"
      have PR : TpAll H7 _ (([(.no (.no (p)), p), (.row [.row [p, q], r], .row [p, .row [q, r]]), (.no (.any [p, q]), .all [.no (p), .no (q)])] : List (Pt × Pt)).map prD) := TpAll.app (PA.ts (t1.trans (t2.trans (t3.trans (t4.trans (t5.trans (t6.trans t7))))))) (PN.ts t7)
      refine ⟨L, LN, _, _, rfl, rfl, (k7.at nL (k6.at nL (k5.at nL (k4.at nL (k3.at nL (k2.at nL (k1.at nL eL))))))), eLN, by rw [TpAll.length PA]; show 3 ≤ sizeLine; decide, rd_lstT S7 fun LM H8 nLM eLM S8 k8 t8 => ?_⟩
      walk_at "go"
      exact hn _ _ ⟨LM, _, rfl, eLM, nLM, (PR.ts t8), S8, KK.trans (k1.trans (k2.trans (k3.trans (k4.trans (k5.trans (k6.trans (k7.trans k8))))))), TT.trans (t1.trans (t2.trans (t3.trans (t4.trans (t5.trans (t6.trans (t7.trans t8)))))))⟩
    clear KK TT SC PA eL nL
    obtain ⟨L, xs, rfl, eL, nL, PA, SC, KK, TT⟩ := hC
    obtain ⟨HC, rfl⟩ : ∃ HC, HC = H2 := ⟨H2, rfl⟩
    refine rd_cutS (fun σ2 H2 => ∃ (L : Addr) (xs : List V), σ2 = [some (.ref a), some vp, some vq, some vr, some (.ref aT), some (.ref aE), some (.ref aM), some (.ref L)] ∧ H2 L = some (.lst xs) ∧ L ≠ a ∧ TpAll H2 xs (([(.no (.no (p)), p), (.row [.row [p, q], r], .row [p, .row [q, r]]), (.no (.any [p, q]), .all [.no (p), .no (q)]), (.no (.all [p, q]), .any [.no (p), .no (q)])] : List (Pt × Pt)).map prD) ∧ Src a (n + 1) H2 ∧ Kp a HB H2 ∧ TS HB H2) (fun nx2 hn => ?_) (fun σ2 H2 hC => ?_)
    · walk_at "go"
      refine ⟨by show 3 ≤ sizeLine; decide, rd_tupT SC (.cons (.str (kS "all")) (.cons (ep.ts TT) (.cons (eq.ts TT) .nil))) fun q30 H1 e29r S1 k1 t1 => ?_⟩
      have e29 : Tp H1 (.ref q30) ((.all [p, q] : Pt).d) := e29r
      walk_at "go"
      refine ⟨by show 2 ≤ sizeLine; decide, rd_tupT S1 (.cons (.str (kS "not")) (.cons e29 .nil)) fun q32 H2 e31r S2 k2 t2 => ?_⟩
      have e31 : Tp H2 (.ref q32) ((.no (.all [p, q]) : Pt).d) := e31r
      walk_at "go"
      refine ⟨by show 2 ≤ sizeLine; decide, rd_tupT S2 (.cons (.str (kS "not")) (.cons ((ep.ts TT).ts (t1.trans t2)) .nil)) fun q34 H3 e33r S3 k3 t3 => ?_⟩
      have e33 : Tp H3 (.ref q34) ((.no (p) : Pt).d) := e33r
      walk_at "go"
      refine ⟨by show 2 ≤ sizeLine; decide, rd_tupT S3 (.cons (.str (kS "not")) (.cons ((eq.ts TT).ts (t1.trans (t2.trans t3))) .nil)) fun q36 H4 e35r S4 k4 t4 => ?_⟩
      have e35 : Tp H4 (.ref q36) ((.no (q) : Pt).d) := e35r
      walk_at "go"
      refine ⟨by show 3 ≤ sizeLine; decide, rd_tupT S4 (.cons (.str (kS "any")) (.cons (e33.ts t4) (.cons e35 .nil))) fun q38 H5 e37r S5 k5 t5 => ?_⟩
      have e37 : Tp H5 (.ref q38) ((.any [.no (p), .no (q)] : Pt).d) := e37r
      walk_at "go"
      refine ⟨by show 2 ≤ sizeLine; decide, rd_tupT S5 (.cons (e31.ts (t3.trans (t4.trans t5))) (.cons e37 .nil)) fun q40 H6 e39r S6 k6 t6 => ?_⟩
      have e39 : Tp H6 (.ref q40) (prD (.no (.all [p, q]), .any [.no (p), .no (q)])) := e39r
      walk_at "go"
      have PN : TpAll H6 _ (([(.no (.all [p, q]), .any [.no (p), .no (q)])] : List (Pt × Pt)).map prD) := (.cons e39 .nil)
      refine ⟨by show 1 ≤ sizeLine; decide, rd_lstT S6 fun LN H7 nLN eLN S7 k7 t7 => ?_⟩
      walk_at "go"
      have PR : TpAll H7 _ (([(.no (.no (p)), p), (.row [.row [p, q], r], .row [p, .row [q, r]]), (.no (.any [p, q]), .all [.no (p), .no (q)]), (.no (.all [p, q]), .any [.no (p), .no (q)])] : List (Pt × Pt)).map prD) := TpAll.app (PA.ts (t1.trans (t2.trans (t3.trans (t4.trans (t5.trans (t6.trans t7))))))) (PN.ts t7)
      refine ⟨L, LN, _, _, rfl, rfl, (k7.at nL (k6.at nL (k5.at nL (k4.at nL (k3.at nL (k2.at nL (k1.at nL eL))))))), eLN, by rw [TpAll.length PA]; show 4 ≤ sizeLine; decide, rd_lstT S7 fun LM H8 nLM eLM S8 k8 t8 => ?_⟩
      walk_at "go"
      exact hn _ _ ⟨LM, _, rfl, eLM, nLM, (PR.ts t8), S8, KK.trans (k1.trans (k2.trans (k3.trans (k4.trans (k5.trans (k6.trans (k7.trans k8))))))), TT.trans (t1.trans (t2.trans (t3.trans (t4.trans (t5.trans (t6.trans (t7.trans t8)))))))⟩
    clear KK TT SC PA eL nL
    obtain ⟨L, xs, rfl, eL, nL, PA, SC, KK, TT⟩ := hC
    obtain ⟨HC, rfl⟩ : ∃ HC, HC = H2 := ⟨H2, rfl⟩
    refine rd_cutS (fun σ2 H2 => ∃ (L : Addr) (xs : List V), σ2 = [some (.ref a), some vp, some vq, some vr, some (.ref aT), some (.ref aE), some (.ref aM), some (.ref L)] ∧ H2 L = some (.lst xs) ∧ L ≠ a ∧ TpAll H2 xs (([(.no (.no (p)), p), (.row [.row [p, q], r], .row [p, .row [q, r]]), (.no (.any [p, q]), .all [.no (p), .no (q)]), (.no (.all [p, q]), .any [.no (p), .no (q)]), (.any [p, q], .any [q, p]), (.all [p, q], .all [q, p, q]), (.all [p, pT], p)] : List (Pt × Pt)).map prD) ∧ Src a (n + 1) H2 ∧ Kp a HB H2 ∧ TS HB H2) (fun nx2 hn => ?_) (fun σ2 H2 hC => ?_)
    · walk_at "go"
      refine ⟨by show 3 ≤ sizeLine; decide, rd_tupT SC (.cons (.str (kS "any")) (.cons (ep.ts TT) (.cons (eq.ts TT) .nil))) fun q42 H1 e41r S1 k1 t1 => ?_⟩
      have e41 : Tp H1 (.ref q42) ((.any [p, q] : Pt).d) := e41r
      walk_at "go"
      refine ⟨by show 3 ≤ sizeLine; decide, rd_tupT S1 (.cons (.str (kS "any")) (.cons ((eq.ts TT).ts t1) (.cons ((ep.ts TT).ts t1) .nil))) fun q44 H2 e43r S2 k2 t2 => ?_⟩
      have e43 : Tp H2 (.ref q44) ((.any [q, p] : Pt).d) := e43r
      walk_at "go"
      refine ⟨by show 2 ≤ sizeLine; decide, rd_tupT S2 (.cons (e41.ts t2) (.cons e43 .nil)) fun q46 H3 e45r S3 k3 t3 => ?_⟩
      have e45 : Tp H3 (.ref q46) (prD (.any [p, q], .any [q, p])) := e45r
      walk_at "go"
      refine ⟨by show 3 ≤ sizeLine; decide, rd_tupT S3 (.cons (.str (kS "all")) (.cons ((ep.ts TT).ts (t1.trans (t2.trans t3))) (.cons ((eq.ts TT).ts (t1.trans (t2.trans t3))) .nil))) fun q48 H4 e47r S4 k4 t4 => ?_⟩
      have e47 : Tp H4 (.ref q48) ((.all [p, q] : Pt).d) := e47r
      walk_at "go"
      refine ⟨by show 4 ≤ sizeLine; decide, rd_tupT S4 (.cons (.str (kS "all")) (.cons ((eq.ts TT).ts (t1.trans (t2.trans (t3.trans t4)))) (.cons ((ep.ts TT).ts (t1.trans (t2.trans (t3.trans t4)))) (.cons ((eq.ts TT).ts (t1.trans (t2.trans (t3.trans t4)))) .nil)))) fun q50 H5 e49r S5 k5 t5 => ?_⟩
      have e49 : Tp H5 (.ref q50) ((.all [q, p, q] : Pt).d) := e49r
      walk_at "go"
      refine ⟨by show 2 ≤ sizeLine; decide, rd_tupT S5 (.cons (e47.ts t5) (.cons e49 .nil)) fun q52 H6 e51r S6 k6 t6 => ?_⟩
      have e51 : Tp H6 (.ref q52) (prD (.all [p, q], .all [q, p, q])) := e51r
      walk_at "go"
      refine ⟨by show 3 ≤ sizeLine; decide, rd_tupT S6 (.cons (.str (kS "all")) (.cons ((ep.ts TT).ts (t1.trans (t2.trans (t3.trans (t4.trans (t5.trans t6)))))) (.cons ((eT.ts TT).ts (t1.trans (t2.trans (t3.trans (t4.trans (t5.trans t6)))))) .nil))) fun q54 H7 e53r S7 k7 t7 => ?_⟩
      have e53 : Tp H7 (.ref q54) ((.all [p, pT] : Pt).d) := e53r
      walk_at "go"
      refine ⟨by show 2 ≤ sizeLine; decide, rd_tupT S7 (.cons e53 (.cons ((ep.ts TT).ts (t1.trans (t2.trans (t3.trans (t4.trans (t5.trans (t6.trans t7))))))) .nil)) fun q56 H8 e55r S8 k8 t8 => ?_⟩
      have e55 : Tp H8 (.ref q56) (prD (.all [p, pT], p)) := e55r
      walk_at "go"
      have PN : TpAll H8 _ (([(.any [p, q], .any [q, p]), (.all [p, q], .all [q, p, q]), (.all [p, pT], p)] : List (Pt × Pt)).map prD) := (.cons (e45.ts (t4.trans (t5.trans (t6.trans (t7.trans t8))))) (.cons (e51.ts (t7.trans t8)) (.cons e55 .nil)))
      refine ⟨by show 3 ≤ sizeLine; decide, rd_lstT S8 fun LN H9 nLN eLN S9 k9 t9 => ?_⟩
      walk_at "go"
      have PR : TpAll H9 _ (([(.no (.no (p)), p), (.row [.row [p, q], r], .row [p, .row [q, r]]), (.no (.any [p, q]), .all [.no (p), .no (q)]), (.no (.all [p, q]), .any [.no (p), .no (q)]), (.any [p, q], .any [q, p]), (.all [p, q], .all [q, p, q]), (.all [p, pT], p)] : List (Pt × Pt)).map prD) := TpAll.app (PA.ts (t1.trans (t2.trans (t3.trans (t4.trans (t5.trans (t6.trans (t7.trans (t8.trans t9))))))))) (PN.ts t9)
      refine ⟨L, LN, _, _, rfl, rfl, (k9.at nL (k8.at nL (k7.at nL (k6.at nL (k5.at nL (k4.at nL (k3.at nL (k2.at nL (k1.at nL eL))))))))), eLN, by rw [TpAll.length PA]; show 7 ≤ sizeLine; decide, rd_lstT S9 fun LM H10 nLM eLM S10 k10 t10 => ?_⟩
      walk_at "go"
      exact hn _ _ ⟨LM, _, rfl, eLM, nLM, (PR.ts t10), S10, KK.trans (k1.trans (k2.trans (k3.trans (k4.trans (k5.trans (k6.trans (k7.trans (k8.trans (k9.trans k10))))))))), TT.trans (t1.trans (t2.trans (t3.trans (t4.trans (t5.trans (t6.trans (t7.trans (t8.trans (t9.trans t10)))))))))⟩
    clear KK TT SC PA eL nL
    obtain ⟨L, xs, rfl, eL, nL, PA, SC, KK, TT⟩ := hC
    obtain ⟨HC, rfl⟩ : ∃ HC, HC = H2 := ⟨H2, rfl⟩
    refine rd_cutS (fun σ2 H2 => ∃ (L : Addr) (xs : List V), σ2 = [some (.ref a), some vp, some vq, some vr, some (.ref aT), some (.ref aE), some (.ref aM), some (.ref L)] ∧ H2 L = some (.lst xs) ∧ L ≠ a ∧ TpAll H2 xs (([(.no (.no (p)), p), (.row [.row [p, q], r], .row [p, .row [q, r]]), (.no (.any [p, q]), .all [.no (p), .no (q)]), (.no (.all [p, q]), .any [.no (p), .no (q)]), (.any [p, q], .any [q, p]), (.all [p, q], .all [q, p, q]), (.all [p, pT], p), (.row [p, .any [q, r]], .any [.row [p, q], .row [p, r]])] : List (Pt × Pt)).map prD) ∧ Src a (n + 1) H2 ∧ Kp a HB H2 ∧ TS HB H2) (fun nx2 hn => ?_) (fun σ2 H2 hC => ?_)
    · walk_at "go"
      refine ⟨by show 3 ≤ sizeLine; decide, rd_tupT SC (.cons (.str (kS "any")) (.cons (eq.ts TT) (.cons (er.ts TT) .nil))) fun q58 H1 e57r S1 k1 t1 => ?_⟩
      have e57 : Tp H1 (.ref q58) ((.any [q, r] : Pt).d) := e57r
      walk_at "go"
      refine ⟨by show 3 ≤ sizeLine; decide, rd_tupT S1 (.cons (.str (kS "row")) (.cons ((ep.ts TT).ts t1) (.cons e57 .nil))) fun q60 H2 e59r S2 k2 t2 => ?_⟩
      have e59 : Tp H2 (.ref q60) ((.row [p, .any [q, r]] : Pt).d) := e59r
      walk_at "go"
      refine ⟨by show 3 ≤ sizeLine; decide, rd_tupT S2 (.cons (.str (kS "row")) (.cons ((ep.ts TT).ts (t1.trans t2)) (.cons ((eq.ts TT).ts (t1.trans t2)) .nil))) fun q62 H3 e61r S3 k3 t3 => ?_⟩
      have e61 : Tp H3 (.ref q62) ((.row [p, q] : Pt).d) := e61r
      walk_at "go"
      refine ⟨by show 3 ≤ sizeLine; decide, rd_tupT S3 (.cons (.str (kS "row")) (.cons ((ep.ts TT).ts (t1.trans (t2.trans t3))) (.cons ((er.ts TT).ts (t1.trans (t2.trans t3))) .nil))) fun q64 H4 e63r S4 k4 t4 => ?_⟩
      have e63 : Tp H4 (.ref q64) ((.row [p, r] : Pt).d) := e63r
      walk_at "go"
      refine ⟨by show 3 ≤ sizeLine; decide, rd_tupT S4 (.cons (.str (kS "any")) (.cons (e61.ts t4) (.cons e63 .nil))) fun q66 H5 e65r S5 k5 t5 => ?_⟩
      have e65 : Tp H5 (.ref q66) ((.any [.row [p, q], .row [p, r]] : Pt).d) := e65r
      walk_at "go"
      refine ⟨by show 2 ≤ sizeLine; decide, rd_tupT S5 (.cons (e59.ts (t3.trans (t4.trans t5))) (.cons e65 .nil)) fun q68 H6 e67r S6 k6 t6 => ?_⟩
      have e67 : Tp H6 (.ref q68) (prD (.row [p, .any [q, r]], .any [.row [p, q], .row [p, r]])) := e67r
      walk_at "go"
      have PN : TpAll H6 _ (([(.row [p, .any [q, r]], .any [.row [p, q], .row [p, r]])] : List (Pt × Pt)).map prD) := (.cons e67 .nil)
      refine ⟨by show 1 ≤ sizeLine; decide, rd_lstT S6 fun LN H7 nLN eLN S7 k7 t7 => ?_⟩
      walk_at "go"
      have PR : TpAll H7 _ (([(.no (.no (p)), p), (.row [.row [p, q], r], .row [p, .row [q, r]]), (.no (.any [p, q]), .all [.no (p), .no (q)]), (.no (.all [p, q]), .any [.no (p), .no (q)]), (.any [p, q], .any [q, p]), (.all [p, q], .all [q, p, q]), (.all [p, pT], p), (.row [p, .any [q, r]], .any [.row [p, q], .row [p, r]])] : List (Pt × Pt)).map prD) := TpAll.app (PA.ts (t1.trans (t2.trans (t3.trans (t4.trans (t5.trans (t6.trans t7))))))) (PN.ts t7)
      refine ⟨L, LN, _, _, rfl, rfl, (k7.at nL (k6.at nL (k5.at nL (k4.at nL (k3.at nL (k2.at nL (k1.at nL eL))))))), eLN, by rw [TpAll.length PA]; show 8 ≤ sizeLine; decide, rd_lstT S7 fun LM H8 nLM eLM S8 k8 t8 => ?_⟩
      walk_at "go"
      exact hn _ _ ⟨LM, _, rfl, eLM, nLM, (PR.ts t8), S8, KK.trans (k1.trans (k2.trans (k3.trans (k4.trans (k5.trans (k6.trans (k7.trans k8))))))), TT.trans (t1.trans (t2.trans (t3.trans (t4.trans (t5.trans (t6.trans (t7.trans t8)))))))⟩
    clear KK TT SC PA eL nL
    obtain ⟨L, xs, rfl, eL, nL, PA, SC, KK, TT⟩ := hC
    obtain ⟨HC, rfl⟩ : ∃ HC, HC = H2 := ⟨H2, rfl⟩
    refine rd_cutS (fun σ2 H2 => ∃ (L : Addr) (xs : List V), σ2 = [some (.ref a), some vp, some vq, some vr, some (.ref aT), some (.ref aE), some (.ref aM), some (.ref L)] ∧ H2 L = some (.lst xs) ∧ L ≠ a ∧ TpAll H2 xs (([(.no (.no (p)), p), (.row [.row [p, q], r], .row [p, .row [q, r]]), (.no (.any [p, q]), .all [.no (p), .no (q)]), (.no (.all [p, q]), .any [.no (p), .no (q)]), (.any [p, q], .any [q, p]), (.all [p, q], .all [q, p, q]), (.all [p, pT], p), (.row [p, .any [q, r]], .any [.row [p, q], .row [p, r]]), (.row [.any [p, q], r], .any [.row [p, r], .row [q, r]])] : List (Pt × Pt)).map prD) ∧ Src a (n + 1) H2 ∧ Kp a HB H2 ∧ TS HB H2) (fun nx2 hn => ?_) (fun σ2 H2 hC => ?_)
    · walk_at "go"
      refine ⟨by show 3 ≤ sizeLine; decide, rd_tupT SC (.cons (.str (kS "any")) (.cons (ep.ts TT) (.cons (eq.ts TT) .nil))) fun q70 H1 e69r S1 k1 t1 => ?_⟩
      have e69 : Tp H1 (.ref q70) ((.any [p, q] : Pt).d) := e69r
      walk_at "go"
      refine ⟨by show 3 ≤ sizeLine; decide, rd_tupT S1 (.cons (.str (kS "row")) (.cons e69 (.cons ((er.ts TT).ts t1) .nil))) fun q72 H2 e71r S2 k2 t2 => ?_⟩
      have e71 : Tp H2 (.ref q72) ((.row [.any [p, q], r] : Pt).d) := e71r
      walk_at "go"
      refine ⟨by show 3 ≤ sizeLine; decide, rd_tupT S2 (.cons (.str (kS "row")) (.cons ((ep.ts TT).ts (t1.trans t2)) (.cons ((er.ts TT).ts (t1.trans t2)) .nil))) fun q74 H3 e73r S3 k3 t3 => ?_⟩
      have e73 : Tp H3 (.ref q74) ((.row [p, r] : Pt).d) := e73r
      walk_at "go"
      refine ⟨by show 3 ≤ sizeLine; decide, rd_tupT S3 (.cons (.str (kS "row")) (.cons ((eq.ts TT).ts (t1.trans (t2.trans t3))) (.cons ((er.ts TT).ts (t1.trans (t2.trans t3))) .nil))) fun q76 H4 e75r S4 k4 t4 => ?_⟩
      have e75 : Tp H4 (.ref q76) ((.row [q, r] : Pt).d) := e75r
      walk_at "go"
      refine ⟨by show 3 ≤ sizeLine; decide, rd_tupT S4 (.cons (.str (kS "any")) (.cons (e73.ts t4) (.cons e75 .nil))) fun q78 H5 e77r S5 k5 t5 => ?_⟩
      have e77 : Tp H5 (.ref q78) ((.any [.row [p, r], .row [q, r]] : Pt).d) := e77r
      walk_at "go"
      refine ⟨by show 2 ≤ sizeLine; decide, rd_tupT S5 (.cons (e71.ts (t3.trans (t4.trans t5))) (.cons e77 .nil)) fun q80 H6 e79r S6 k6 t6 => ?_⟩
      have e79 : Tp H6 (.ref q80) (prD (.row [.any [p, q], r], .any [.row [p, r], .row [q, r]])) := e79r
      walk_at "go"
      have PN : TpAll H6 _ (([(.row [.any [p, q], r], .any [.row [p, r], .row [q, r]])] : List (Pt × Pt)).map prD) := (.cons e79 .nil)
      refine ⟨by show 1 ≤ sizeLine; decide, rd_lstT S6 fun LN H7 nLN eLN S7 k7 t7 => ?_⟩
      walk_at "go"
      have PR : TpAll H7 _ (([(.no (.no (p)), p), (.row [.row [p, q], r], .row [p, .row [q, r]]), (.no (.any [p, q]), .all [.no (p), .no (q)]), (.no (.all [p, q]), .any [.no (p), .no (q)]), (.any [p, q], .any [q, p]), (.all [p, q], .all [q, p, q]), (.all [p, pT], p), (.row [p, .any [q, r]], .any [.row [p, q], .row [p, r]]), (.row [.any [p, q], r], .any [.row [p, r], .row [q, r]])] : List (Pt × Pt)).map prD) := TpAll.app (PA.ts (t1.trans (t2.trans (t3.trans (t4.trans (t5.trans (t6.trans t7))))))) (PN.ts t7)
      refine ⟨L, LN, _, _, rfl, rfl, (k7.at nL (k6.at nL (k5.at nL (k4.at nL (k3.at nL (k2.at nL (k1.at nL eL))))))), eLN, by rw [TpAll.length PA]; show 9 ≤ sizeLine; decide, rd_lstT S7 fun LM H8 nLM eLM S8 k8 t8 => ?_⟩
      walk_at "go"
      exact hn _ _ ⟨LM, _, rfl, eLM, nLM, (PR.ts t8), S8, KK.trans (k1.trans (k2.trans (k3.trans (k4.trans (k5.trans (k6.trans (k7.trans k8))))))), TT.trans (t1.trans (t2.trans (t3.trans (t4.trans (t5.trans (t6.trans (t7.trans t8)))))))⟩
    clear KK TT SC PA eL nL
    obtain ⟨L, xs, rfl, eL, nL, PA, SC, KK, TT⟩ := hC
    obtain ⟨HC, rfl⟩ : ∃ HC, HC = H2 := ⟨H2, rfl⟩
    refine rd_cutS (fun σ2 H2 => ∃ (L : Addr) (xs : List V), σ2 = [some (.ref a), some vp, some vq, some vr, some (.ref aT), some (.ref aE), some (.ref aM), some (.ref L)] ∧ H2 L = some (.lst xs) ∧ L ≠ a ∧ TpAll H2 xs (([(.no (.no (p)), p), (.row [.row [p, q], r], .row [p, .row [q, r]]), (.no (.any [p, q]), .all [.no (p), .no (q)]), (.no (.all [p, q]), .any [.no (p), .no (q)]), (.any [p, q], .any [q, p]), (.all [p, q], .all [q, p, q]), (.all [p, pT], p), (.row [p, .any [q, r]], .any [.row [p, q], .row [p, r]]), (.row [.any [p, q], r], .any [.row [p, r], .row [q, r]]), (.any [p, .any []], p), (.row [p], p), (.row [pE, p], p)] : List (Pt × Pt)).map prD) ∧ Src a (n + 1) H2 ∧ Kp a HB H2 ∧ TS HB H2) (fun nx2 hn => ?_) (fun σ2 H2 hC => ?_)
    · walk_at "go"
      refine ⟨by show 1 ≤ sizeLine; decide, rd_tupT SC (.cons (.str (kS "any")) .nil) fun q82 H1 e81r S1 k1 t1 => ?_⟩
      have e81 : Tp H1 (.ref q82) ((.any [] : Pt).d) := e81r
      walk_at "go"
      refine ⟨by show 3 ≤ sizeLine; decide, rd_tupT S1 (.cons (.str (kS "any")) (.cons ((ep.ts TT).ts t1) (.cons e81 .nil))) fun q84 H2 e83r S2 k2 t2 => ?_⟩
      have e83 : Tp H2 (.ref q84) ((.any [p, .any []] : Pt).d) := e83r
      walk_at "go"
      refine ⟨by show 2 ≤ sizeLine; decide, rd_tupT S2 (.cons e83 (.cons ((ep.ts TT).ts (t1.trans t2)) .nil)) fun q86 H3 e85r S3 k3 t3 => ?_⟩
      have e85 : Tp H3 (.ref q86) (prD (.any [p, .any []], p)) := e85r
      walk_at "go"
      refine ⟨by show 2 ≤ sizeLine; decide, rd_tupT S3 (.cons (.str (kS "row")) (.cons ((ep.ts TT).ts (t1.trans (t2.trans t3))) .nil)) fun q88 H4 e87r S4 k4 t4 => ?_⟩
      have e87 : Tp H4 (.ref q88) ((.row [p] : Pt).d) := e87r
      walk_at "go"
      refine ⟨by show 2 ≤ sizeLine; decide, rd_tupT S4 (.cons e87 (.cons ((ep.ts TT).ts (t1.trans (t2.trans (t3.trans t4)))) .nil)) fun q90 H5 e89r S5 k5 t5 => ?_⟩
      have e89 : Tp H5 (.ref q90) (prD (.row [p], p)) := e89r
      walk_at "go"
      refine ⟨by show 3 ≤ sizeLine; decide, rd_tupT S5 (.cons (.str (kS "row")) (.cons ((eE.ts TT).ts (t1.trans (t2.trans (t3.trans (t4.trans t5))))) (.cons ((ep.ts TT).ts (t1.trans (t2.trans (t3.trans (t4.trans t5))))) .nil))) fun q92 H6 e91r S6 k6 t6 => ?_⟩
      have e91 : Tp H6 (.ref q92) ((.row [pE, p] : Pt).d) := e91r
      walk_at "go"
      refine ⟨by show 2 ≤ sizeLine; decide, rd_tupT S6 (.cons e91 (.cons ((ep.ts TT).ts (t1.trans (t2.trans (t3.trans (t4.trans (t5.trans t6)))))) .nil)) fun q94 H7 e93r S7 k7 t7 => ?_⟩
      have e93 : Tp H7 (.ref q94) (prD (.row [pE, p], p)) := e93r
      walk_at "go"
      have PN : TpAll H7 _ (([(.any [p, .any []], p), (.row [p], p), (.row [pE, p], p)] : List (Pt × Pt)).map prD) := (.cons (e85.ts (t4.trans (t5.trans (t6.trans t7)))) (.cons (e89.ts (t6.trans t7)) (.cons e93 .nil)))
      refine ⟨by show 3 ≤ sizeLine; decide, rd_lstT S7 fun LN H8 nLN eLN S8 k8 t8 => ?_⟩
      walk_at "go"
      have PR : TpAll H8 _ (([(.no (.no (p)), p), (.row [.row [p, q], r], .row [p, .row [q, r]]), (.no (.any [p, q]), .all [.no (p), .no (q)]), (.no (.all [p, q]), .any [.no (p), .no (q)]), (.any [p, q], .any [q, p]), (.all [p, q], .all [q, p, q]), (.all [p, pT], p), (.row [p, .any [q, r]], .any [.row [p, q], .row [p, r]]), (.row [.any [p, q], r], .any [.row [p, r], .row [q, r]]), (.any [p, .any []], p), (.row [p], p), (.row [pE, p], p)] : List (Pt × Pt)).map prD) := TpAll.app (PA.ts (t1.trans (t2.trans (t3.trans (t4.trans (t5.trans (t6.trans (t7.trans t8)))))))) (PN.ts t8)
      refine ⟨L, LN, _, _, rfl, rfl, (k8.at nL (k7.at nL (k6.at nL (k5.at nL (k4.at nL (k3.at nL (k2.at nL (k1.at nL eL)))))))), eLN, by rw [TpAll.length PA]; show 12 ≤ sizeLine; decide, rd_lstT S8 fun LM H9 nLM eLM S9 k9 t9 => ?_⟩
      walk_at "go"
      exact hn _ _ ⟨LM, _, rfl, eLM, nLM, (PR.ts t9), S9, KK.trans (k1.trans (k2.trans (k3.trans (k4.trans (k5.trans (k6.trans (k7.trans (k8.trans k9)))))))), TT.trans (t1.trans (t2.trans (t3.trans (t4.trans (t5.trans (t6.trans (t7.trans (t8.trans t9))))))))⟩
    clear KK TT SC PA eL nL
    obtain ⟨L, xs, rfl, eL, nL, PA, SC, KK, TT⟩ := hC
    obtain ⟨HC, rfl⟩ : ∃ HC, HC = H2 := ⟨H2, rfl⟩
    refine rd_cutS (fun σ2 H2 => ∃ (L : Addr) (xs : List V), σ2 = [some (.ref a), some vp, some vq, some vr, some (.ref aT), some (.ref aE), some (.ref aM), some (.ref L)] ∧ H2 L = some (.lst xs) ∧ L ≠ a ∧ TpAll H2 xs (([(.no (.no (p)), p), (.row [.row [p, q], r], .row [p, .row [q, r]]), (.no (.any [p, q]), .all [.no (p), .no (q)]), (.no (.all [p, q]), .any [.no (p), .no (q)]), (.any [p, q], .any [q, p]), (.all [p, q], .all [q, p, q]), (.all [p, pT], p), (.row [p, .any [q, r]], .any [.row [p, q], .row [p, r]]), (.row [.any [p, q], r], .any [.row [p, r], .row [q, r]]), (.any [p, .any []], p), (.row [p], p), (.row [pE, p], p), (.row [p, .any []], .any []), (.row [p, pE, q], .row [p, q])] : List (Pt × Pt)).map prD) ∧ Src a (n + 1) H2 ∧ Kp a HB H2 ∧ TS HB H2) (fun nx2 hn => ?_) (fun σ2 H2 hC => ?_)
    · walk_at "go"
      refine ⟨by show 1 ≤ sizeLine; decide, rd_tupT SC (.cons (.str (kS "any")) .nil) fun q96 H1 e95r S1 k1 t1 => ?_⟩
      have e95 : Tp H1 (.ref q96) ((.any [] : Pt).d) := e95r
      walk_at "go"
      refine ⟨by show 3 ≤ sizeLine; decide, rd_tupT S1 (.cons (.str (kS "row")) (.cons ((ep.ts TT).ts t1) (.cons e95 .nil))) fun q98 H2 e97r S2 k2 t2 => ?_⟩
      have e97 : Tp H2 (.ref q98) ((.row [p, .any []] : Pt).d) := e97r
      walk_at "go"
      refine ⟨by show 1 ≤ sizeLine; decide, rd_tupT S2 (.cons (.str (kS "any")) .nil) fun q100 H3 e99r S3 k3 t3 => ?_⟩
      have e99 : Tp H3 (.ref q100) ((.any [] : Pt).d) := e99r
      walk_at "go"
      refine ⟨by show 2 ≤ sizeLine; decide, rd_tupT S3 (.cons (e97.ts t3) (.cons e99 .nil)) fun q102 H4 e101r S4 k4 t4 => ?_⟩
      have e101 : Tp H4 (.ref q102) (prD (.row [p, .any []], .any [])) := e101r
      walk_at "go"
      refine ⟨by show 4 ≤ sizeLine; decide, rd_tupT S4 (.cons (.str (kS "row")) (.cons ((ep.ts TT).ts (t1.trans (t2.trans (t3.trans t4)))) (.cons ((eE.ts TT).ts (t1.trans (t2.trans (t3.trans t4)))) (.cons ((eq.ts TT).ts (t1.trans (t2.trans (t3.trans t4)))) .nil)))) fun q104 H5 e103r S5 k5 t5 => ?_⟩
      have e103 : Tp H5 (.ref q104) ((.row [p, pE, q] : Pt).d) := e103r
      walk_at "go"
      refine ⟨by show 3 ≤ sizeLine; decide, rd_tupT S5 (.cons (.str (kS "row")) (.cons ((ep.ts TT).ts (t1.trans (t2.trans (t3.trans (t4.trans t5))))) (.cons ((eq.ts TT).ts (t1.trans (t2.trans (t3.trans (t4.trans t5))))) .nil))) fun q106 H6 e105r S6 k6 t6 => ?_⟩
      have e105 : Tp H6 (.ref q106) ((.row [p, q] : Pt).d) := e105r
      walk_at "go"
      refine ⟨by show 2 ≤ sizeLine; decide, rd_tupT S6 (.cons (e103.ts t6) (.cons e105 .nil)) fun q108 H7 e107r S7 k7 t7 => ?_⟩
      have e107 : Tp H7 (.ref q108) (prD (.row [p, pE, q], .row [p, q])) := e107r
      walk_at "go"
      have PN : TpAll H7 _ (([(.row [p, .any []], .any []), (.row [p, pE, q], .row [p, q])] : List (Pt × Pt)).map prD) := (.cons (e101.ts (t5.trans (t6.trans t7))) (.cons e107 .nil))
      refine ⟨by show 2 ≤ sizeLine; decide, rd_lstT S7 fun LN H8 nLN eLN S8 k8 t8 => ?_⟩
      walk_at "go"
      have PR : TpAll H8 _ (([(.no (.no (p)), p), (.row [.row [p, q], r], .row [p, .row [q, r]]), (.no (.any [p, q]), .all [.no (p), .no (q)]), (.no (.all [p, q]), .any [.no (p), .no (q)]), (.any [p, q], .any [q, p]), (.all [p, q], .all [q, p, q]), (.all [p, pT], p), (.row [p, .any [q, r]], .any [.row [p, q], .row [p, r]]), (.row [.any [p, q], r], .any [.row [p, r], .row [q, r]]), (.any [p, .any []], p), (.row [p], p), (.row [pE, p], p), (.row [p, .any []], .any []), (.row [p, pE, q], .row [p, q])] : List (Pt × Pt)).map prD) := TpAll.app (PA.ts (t1.trans (t2.trans (t3.trans (t4.trans (t5.trans (t6.trans (t7.trans t8)))))))) (PN.ts t8)
      refine ⟨L, LN, _, _, rfl, rfl, (k8.at nL (k7.at nL (k6.at nL (k5.at nL (k4.at nL (k3.at nL (k2.at nL (k1.at nL eL)))))))), eLN, by rw [TpAll.length PA]; show 14 ≤ sizeLine; decide, rd_lstT S8 fun LM H9 nLM eLM S9 k9 t9 => ?_⟩
      walk_at "go"
      exact hn _ _ ⟨LM, _, rfl, eLM, nLM, (PR.ts t9), S9, KK.trans (k1.trans (k2.trans (k3.trans (k4.trans (k5.trans (k6.trans (k7.trans (k8.trans k9)))))))), TT.trans (t1.trans (t2.trans (t3.trans (t4.trans (t5.trans (t6.trans (t7.trans (t8.trans t9))))))))⟩
    clear KK TT SC PA eL nL
    obtain ⟨L, xs, rfl, eL, nL, PA, SC, KK, TT⟩ := hC
    obtain ⟨HC, rfl⟩ : ∃ HC, HC = H2 := ⟨H2, rfl⟩
    refine rd_cutS (fun σ2 H2 => ∃ (L : Addr) (xs : List V), σ2 = [some (.ref a), some vp, some vq, some vr, some (.ref aT), some (.ref aE), some (.ref aM), some (.ref L)] ∧ H2 L = some (.lst xs) ∧ L ≠ a ∧ TpAll H2 xs (([(.no (.no (p)), p), (.row [.row [p, q], r], .row [p, .row [q, r]]), (.no (.any [p, q]), .all [.no (p), .no (q)]), (.no (.all [p, q]), .any [.no (p), .no (q)]), (.any [p, q], .any [q, p]), (.all [p, q], .all [q, p, q]), (.all [p, pT], p), (.row [p, .any [q, r]], .any [.row [p, q], .row [p, r]]), (.row [.any [p, q], r], .any [.row [p, r], .row [q, r]]), (.any [p, .any []], p), (.row [p], p), (.row [pE, p], p), (.row [p, .any []], .any []), (.row [p, pE, q], .row [p, q]), (pM p, .any [pE, .row [p, pM p]]), (.again (p) 2 none, .row [p, p, pM p])] : List (Pt × Pt)).map prD) ∧ Src a (n + 1) H2 ∧ Kp a HB H2 ∧ TS HB H2) (fun nx2 hn => ?_) (fun σ2 H2 hC => ?_)
    · walk_at "go"
      refine ⟨by show 3 ≤ sizeLine; decide, rd_tupT SC (.cons (.str (kS "row")) (.cons (ep.ts TT) (.cons (eM.ts TT) .nil))) fun q110 H1 e109r S1 k1 t1 => ?_⟩
      have e109 : Tp H1 (.ref q110) ((.row [p, pM p] : Pt).d) := e109r
      walk_at "go"
      refine ⟨by show 3 ≤ sizeLine; decide, rd_tupT S1 (.cons (.str (kS "any")) (.cons ((eE.ts TT).ts t1) (.cons e109 .nil))) fun q112 H2 e111r S2 k2 t2 => ?_⟩
      have e111 : Tp H2 (.ref q112) ((.any [pE, .row [p, pM p]] : Pt).d) := e111r
      walk_at "go"
      refine ⟨by show 2 ≤ sizeLine; decide, rd_tupT S2 (.cons ((eM.ts TT).ts (t1.trans t2)) (.cons e111 .nil)) fun q114 H3 e113r S3 k3 t3 => ?_⟩
      have e113 : Tp H3 (.ref q114) (prD (pM p, .any [pE, .row [p, pM p]])) := e113r
      walk_at "go"
      refine ⟨by show 4 ≤ sizeLine; decide, rd_tupT S3 (.cons (.str (kS "again")) (.cons ((ep.ts TT).ts (t1.trans (t2.trans t3))) (.cons (.int 2) (.cons .non .nil)))) fun q116 H4 e115r S4 k4 t4 => ?_⟩
      have e115 : Tp H4 (.ref q116) ((.again (p) 2 none : Pt).d) := e115r
      walk_at "go"
      refine ⟨by show 4 ≤ sizeLine; decide, rd_tupT S4 (.cons (.str (kS "row")) (.cons ((ep.ts TT).ts (t1.trans (t2.trans (t3.trans t4)))) (.cons ((ep.ts TT).ts (t1.trans (t2.trans (t3.trans t4)))) (.cons ((eM.ts TT).ts (t1.trans (t2.trans (t3.trans t4)))) .nil)))) fun q118 H5 e117r S5 k5 t5 => ?_⟩
      have e117 : Tp H5 (.ref q118) ((.row [p, p, pM p] : Pt).d) := e117r
      walk_at "go"
      refine ⟨by show 2 ≤ sizeLine; decide, rd_tupT S5 (.cons (e115.ts t5) (.cons e117 .nil)) fun q120 H6 e119r S6 k6 t6 => ?_⟩
      have e119 : Tp H6 (.ref q120) (prD (.again (p) 2 none, .row [p, p, pM p])) := e119r
      walk_at "go"
      have PN : TpAll H6 _ (([(pM p, .any [pE, .row [p, pM p]]), (.again (p) 2 none, .row [p, p, pM p])] : List (Pt × Pt)).map prD) := (.cons (e113.ts (t4.trans (t5.trans t6))) (.cons e119 .nil))
      refine ⟨by show 2 ≤ sizeLine; decide, rd_lstT S6 fun LN H7 nLN eLN S7 k7 t7 => ?_⟩
      walk_at "go"
      have PR : TpAll H7 _ (([(.no (.no (p)), p), (.row [.row [p, q], r], .row [p, .row [q, r]]), (.no (.any [p, q]), .all [.no (p), .no (q)]), (.no (.all [p, q]), .any [.no (p), .no (q)]), (.any [p, q], .any [q, p]), (.all [p, q], .all [q, p, q]), (.all [p, pT], p), (.row [p, .any [q, r]], .any [.row [p, q], .row [p, r]]), (.row [.any [p, q], r], .any [.row [p, r], .row [q, r]]), (.any [p, .any []], p), (.row [p], p), (.row [pE, p], p), (.row [p, .any []], .any []), (.row [p, pE, q], .row [p, q]), (pM p, .any [pE, .row [p, pM p]]), (.again (p) 2 none, .row [p, p, pM p])] : List (Pt × Pt)).map prD) := TpAll.app (PA.ts (t1.trans (t2.trans (t3.trans (t4.trans (t5.trans (t6.trans t7))))))) (PN.ts t7)
      refine ⟨L, LN, _, _, rfl, rfl, (k7.at nL (k6.at nL (k5.at nL (k4.at nL (k3.at nL (k2.at nL (k1.at nL eL))))))), eLN, by rw [TpAll.length PA]; show 16 ≤ sizeLine; decide, rd_lstT S7 fun LM H8 nLM eLM S8 k8 t8 => ?_⟩
      walk_at "go"
      exact hn _ _ ⟨LM, _, rfl, eLM, nLM, (PR.ts t8), S8, KK.trans (k1.trans (k2.trans (k3.trans (k4.trans (k5.trans (k6.trans (k7.trans k8))))))), TT.trans (t1.trans (t2.trans (t3.trans (t4.trans (t5.trans (t6.trans (t7.trans t8)))))))⟩
    clear KK TT SC PA eL nL
    obtain ⟨L, xs, rfl, eL, nL, PA, SC, KK, TT⟩ := hC
    obtain ⟨HC, rfl⟩ : ∃ HC, HC = H2 := ⟨H2, rfl⟩
    refine rd_cutS (fun σ2 H2 => ∃ (L : Addr) (xs : List V), σ2 = [some (.ref a), some vp, some vq, some vr, some (.ref aT), some (.ref aE), some (.ref aM), some (.ref L)] ∧ H2 L = some (.lst xs) ∧ L ≠ a ∧ TpAll H2 xs (([(.no (.no (p)), p), (.row [.row [p, q], r], .row [p, .row [q, r]]), (.no (.any [p, q]), .all [.no (p), .no (q)]), (.no (.all [p, q]), .any [.no (p), .no (q)]), (.any [p, q], .any [q, p]), (.all [p, q], .all [q, p, q]), (.all [p, pT], p), (.row [p, .any [q, r]], .any [.row [p, q], .row [p, r]]), (.row [.any [p, q], r], .any [.row [p, r], .row [q, r]]), (.any [p, .any []], p), (.row [p], p), (.row [pE, p], p), (.row [p, .any []], .any []), (.row [p, pE, q], .row [p, q]), (pM p, .any [pE, .row [p, pM p]]), (.again (p) 2 none, .row [p, p, pM p]), (.again (p) 1 (some 2), .any [p, .row [p, p]]), (.again (p) 1 (some 1), p)] : List (Pt × Pt)).map prD) ∧ Src a (n + 1) H2 ∧ Kp a HB H2 ∧ TS HB H2) (fun nx2 hn => ?_) (fun σ2 H2 hC => ?_)
    · walk_at "go"
      refine ⟨by show 4 ≤ sizeLine; decide, rd_tupT SC (.cons (.str (kS "again")) (.cons (ep.ts TT) (.cons (.int 1) (.cons (.int 2) .nil)))) fun q122 H1 e121r S1 k1 t1 => ?_⟩
      have e121 : Tp H1 (.ref q122) ((.again (p) 1 (some 2) : Pt).d) := e121r
      walk_at "go"
      refine ⟨by show 3 ≤ sizeLine; decide, rd_tupT S1 (.cons (.str (kS "row")) (.cons ((ep.ts TT).ts t1) (.cons ((ep.ts TT).ts t1) .nil))) fun q124 H2 e123r S2 k2 t2 => ?_⟩
      have e123 : Tp H2 (.ref q124) ((.row [p, p] : Pt).d) := e123r
      walk_at "go"
      refine ⟨by show 3 ≤ sizeLine; decide, rd_tupT S2 (.cons (.str (kS "any")) (.cons ((ep.ts TT).ts (t1.trans t2)) (.cons e123 .nil))) fun q126 H3 e125r S3 k3 t3 => ?_⟩
      have e125 : Tp H3 (.ref q126) ((.any [p, .row [p, p]] : Pt).d) := e125r
      walk_at "go"
      refine ⟨by show 2 ≤ sizeLine; decide, rd_tupT S3 (.cons (e121.ts (t2.trans t3)) (.cons e125 .nil)) fun q128 H4 e127r S4 k4 t4 => ?_⟩
      have e127 : Tp H4 (.ref q128) (prD (.again (p) 1 (some 2), .any [p, .row [p, p]])) := e127r
      walk_at "go"
      refine ⟨by show 4 ≤ sizeLine; decide, rd_tupT S4 (.cons (.str (kS "again")) (.cons ((ep.ts TT).ts (t1.trans (t2.trans (t3.trans t4)))) (.cons (.int 1) (.cons (.int 1) .nil)))) fun q130 H5 e129r S5 k5 t5 => ?_⟩
      have e129 : Tp H5 (.ref q130) ((.again (p) 1 (some 1) : Pt).d) := e129r
      walk_at "go"
      refine ⟨by show 2 ≤ sizeLine; decide, rd_tupT S5 (.cons e129 (.cons ((ep.ts TT).ts (t1.trans (t2.trans (t3.trans (t4.trans t5))))) .nil)) fun q132 H6 e131r S6 k6 t6 => ?_⟩
      have e131 : Tp H6 (.ref q132) (prD (.again (p) 1 (some 1), p)) := e131r
      walk_at "go"
      have PN : TpAll H6 _ (([(.again (p) 1 (some 2), .any [p, .row [p, p]]), (.again (p) 1 (some 1), p)] : List (Pt × Pt)).map prD) := (.cons (e127.ts (t5.trans t6)) (.cons e131 .nil))
      refine ⟨by show 2 ≤ sizeLine; decide, rd_lstT S6 fun LN H7 nLN eLN S7 k7 t7 => ?_⟩
      walk_at "go"
      have PR : TpAll H7 _ (([(.no (.no (p)), p), (.row [.row [p, q], r], .row [p, .row [q, r]]), (.no (.any [p, q]), .all [.no (p), .no (q)]), (.no (.all [p, q]), .any [.no (p), .no (q)]), (.any [p, q], .any [q, p]), (.all [p, q], .all [q, p, q]), (.all [p, pT], p), (.row [p, .any [q, r]], .any [.row [p, q], .row [p, r]]), (.row [.any [p, q], r], .any [.row [p, r], .row [q, r]]), (.any [p, .any []], p), (.row [p], p), (.row [pE, p], p), (.row [p, .any []], .any []), (.row [p, pE, q], .row [p, q]), (pM p, .any [pE, .row [p, pM p]]), (.again (p) 2 none, .row [p, p, pM p]), (.again (p) 1 (some 2), .any [p, .row [p, p]]), (.again (p) 1 (some 1), p)] : List (Pt × Pt)).map prD) := TpAll.app (PA.ts (t1.trans (t2.trans (t3.trans (t4.trans (t5.trans (t6.trans t7))))))) (PN.ts t7)
      refine ⟨L, LN, _, _, rfl, rfl, (k7.at nL (k6.at nL (k5.at nL (k4.at nL (k3.at nL (k2.at nL (k1.at nL eL))))))), eLN, by rw [TpAll.length PA]; show 18 ≤ sizeLine; decide, rd_lstT S7 fun LM H8 nLM eLM S8 k8 t8 => ?_⟩
      walk_at "go"
      exact hn _ _ ⟨LM, _, rfl, eLM, nLM, (PR.ts t8), S8, KK.trans (k1.trans (k2.trans (k3.trans (k4.trans (k5.trans (k6.trans (k7.trans k8))))))), TT.trans (t1.trans (t2.trans (t3.trans (t4.trans (t5.trans (t6.trans (t7.trans t8)))))))⟩
    clear KK TT SC PA eL nL
    obtain ⟨L, xs, rfl, eL, nL, PA, SC, KK, TT⟩ := hC
    obtain ⟨HC, rfl⟩ : ∃ HC, HC = H2 := ⟨H2, rfl⟩
    refine rd_cutS (fun σ2 H2 => ∃ (L : Addr) (xs : List V), σ2 = [some (.ref a), some vp, some vq, some vr, some (.ref aT), some (.ref aE), some (.ref aM), some (.ref L)] ∧ H2 L = some (.lst xs) ∧ L ≠ a ∧ TpAll H2 xs (([(.no (.no (p)), p), (.row [.row [p, q], r], .row [p, .row [q, r]]), (.no (.any [p, q]), .all [.no (p), .no (q)]), (.no (.all [p, q]), .any [.no (p), .no (q)]), (.any [p, q], .any [q, p]), (.all [p, q], .all [q, p, q]), (.all [p, pT], p), (.row [p, .any [q, r]], .any [.row [p, q], .row [p, r]]), (.row [.any [p, q], r], .any [.row [p, r], .row [q, r]]), (.any [p, .any []], p), (.row [p], p), (.row [pE, p], p), (.row [p, .any []], .any []), (.row [p, pE, q], .row [p, q]), (pM p, .any [pE, .row [p, pM p]]), (.again (p) 2 none, .row [p, p, pM p]), (.again (p) 1 (some 2), .any [p, .row [p, p]]), (.again (p) 1 (some 1), p), (.again (p) 0 (some 2), .row [.any [pE, p], .any [pE, p]])] : List (Pt × Pt)).map prD) ∧ Src a (n + 1) H2 ∧ Kp a HB H2 ∧ TS HB H2) (fun nx2 hn => ?_) (fun σ2 H2 hC => ?_)
    · walk_at "go"
      refine ⟨by show 4 ≤ sizeLine; decide, rd_tupT SC (.cons (.str (kS "again")) (.cons (ep.ts TT) (.cons (.int 0) (.cons (.int 2) .nil)))) fun q134 H1 e133r S1 k1 t1 => ?_⟩
      have e133 : Tp H1 (.ref q134) ((.again (p) 0 (some 2) : Pt).d) := e133r
      walk_at "go"
      refine ⟨by show 3 ≤ sizeLine; decide, rd_tupT S1 (.cons (.str (kS "any")) (.cons ((eE.ts TT).ts t1) (.cons ((ep.ts TT).ts t1) .nil))) fun q136 H2 e135r S2 k2 t2 => ?_⟩
      have e135 : Tp H2 (.ref q136) ((.any [pE, p] : Pt).d) := e135r
      walk_at "go"
      refine ⟨by show 3 ≤ sizeLine; decide, rd_tupT S2 (.cons (.str (kS "any")) (.cons ((eE.ts TT).ts (t1.trans t2)) (.cons ((ep.ts TT).ts (t1.trans t2)) .nil))) fun q138 H3 e137r S3 k3 t3 => ?_⟩
      have e137 : Tp H3 (.ref q138) ((.any [pE, p] : Pt).d) := e137r
      walk_at "go"
      refine ⟨by show 3 ≤ sizeLine; decide, rd_tupT S3 (.cons (.str (kS "row")) (.cons (e135.ts t3) (.cons e137 .nil))) fun q140 H4 e139r S4 k4 t4 => ?_⟩
      have e139 : Tp H4 (.ref q140) ((.row [.any [pE, p], .any [pE, p]] : Pt).d) := e139r
      walk_at "go"
      refine ⟨by show 2 ≤ sizeLine; decide, rd_tupT S4 (.cons (e133.ts (t2.trans (t3.trans t4))) (.cons e139 .nil)) fun q142 H5 e141r S5 k5 t5 => ?_⟩
      have e141 : Tp H5 (.ref q142) (prD (.again (p) 0 (some 2), .row [.any [pE, p], .any [pE, p]])) := e141r
      walk_at "go"
      have PN : TpAll H5 _ (([(.again (p) 0 (some 2), .row [.any [pE, p], .any [pE, p]])] : List (Pt × Pt)).map prD) := (.cons e141 .nil)
      refine ⟨by show 1 ≤ sizeLine; decide, rd_lstT S5 fun LN H6 nLN eLN S6 k6 t6 => ?_⟩
      walk_at "go"
      have PR : TpAll H6 _ (([(.no (.no (p)), p), (.row [.row [p, q], r], .row [p, .row [q, r]]), (.no (.any [p, q]), .all [.no (p), .no (q)]), (.no (.all [p, q]), .any [.no (p), .no (q)]), (.any [p, q], .any [q, p]), (.all [p, q], .all [q, p, q]), (.all [p, pT], p), (.row [p, .any [q, r]], .any [.row [p, q], .row [p, r]]), (.row [.any [p, q], r], .any [.row [p, r], .row [q, r]]), (.any [p, .any []], p), (.row [p], p), (.row [pE, p], p), (.row [p, .any []], .any []), (.row [p, pE, q], .row [p, q]), (pM p, .any [pE, .row [p, pM p]]), (.again (p) 2 none, .row [p, p, pM p]), (.again (p) 1 (some 2), .any [p, .row [p, p]]), (.again (p) 1 (some 1), p), (.again (p) 0 (some 2), .row [.any [pE, p], .any [pE, p]])] : List (Pt × Pt)).map prD) := TpAll.app (PA.ts (t1.trans (t2.trans (t3.trans (t4.trans (t5.trans t6)))))) (PN.ts t6)
      refine ⟨L, LN, _, _, rfl, rfl, (k6.at nL (k5.at nL (k4.at nL (k3.at nL (k2.at nL (k1.at nL eL)))))), eLN, by rw [TpAll.length PA]; show 19 ≤ sizeLine; decide, rd_lstT S6 fun LM H7 nLM eLM S7 k7 t7 => ?_⟩
      walk_at "go"
      exact hn _ _ ⟨LM, _, rfl, eLM, nLM, (PR.ts t7), S7, KK.trans (k1.trans (k2.trans (k3.trans (k4.trans (k5.trans (k6.trans k7)))))), TT.trans (t1.trans (t2.trans (t3.trans (t4.trans (t5.trans (t6.trans t7))))))⟩
    clear KK TT SC PA eL nL
    obtain ⟨L, xs, rfl, eL, nL, PA, SC, KK, TT⟩ := hC
    obtain ⟨HC, rfl⟩ : ∃ HC, HC = H2 := ⟨H2, rfl⟩
    refine rd_cutS (fun σ2 H2 => ∃ (L : Addr) (xs : List V), σ2 = [some (.ref a), some vp, some vq, some vr, some (.ref aT), some (.ref aE), some (.ref aM), some (.ref L)] ∧ H2 L = some (.lst xs) ∧ L ≠ a ∧ TpAll H2 xs (([(.no (.no (p)), p), (.row [.row [p, q], r], .row [p, .row [q, r]]), (.no (.any [p, q]), .all [.no (p), .no (q)]), (.no (.all [p, q]), .any [.no (p), .no (q)]), (.any [p, q], .any [q, p]), (.all [p, q], .all [q, p, q]), (.all [p, pT], p), (.row [p, .any [q, r]], .any [.row [p, q], .row [p, r]]), (.row [.any [p, q], r], .any [.row [p, r], .row [q, r]]), (.any [p, .any []], p), (.row [p], p), (.row [pE, p], p), (.row [p, .any []], .any []), (.row [p, pE, q], .row [p, q]), (pM p, .any [pE, .row [p, pM p]]), (.again (p) 2 none, .row [p, p, pM p]), (.again (p) 1 (some 2), .any [p, .row [p, p]]), (.again (p) 1 (some 1), p), (.again (p) 0 (some 2), .row [.any [pE, p], .any [pE, p]]), (.any [p, .no (p)], pT), (.all [p, .no (p)], .any []), (.any [p, p], .any [p])] : List (Pt × Pt)).map prD) ∧ Src a (n + 1) H2 ∧ Kp a HB H2 ∧ TS HB H2) (fun nx2 hn => ?_) (fun σ2 H2 hC => ?_)
    · walk_at "go"
      refine ⟨by show 2 ≤ sizeLine; decide, rd_tupT SC (.cons (.str (kS "not")) (.cons (ep.ts TT) .nil)) fun q144 H1 e143r S1 k1 t1 => ?_⟩
      have e143 : Tp H1 (.ref q144) ((.no (p) : Pt).d) := e143r
      walk_at "go"
      refine ⟨by show 3 ≤ sizeLine; decide, rd_tupT S1 (.cons (.str (kS "any")) (.cons ((ep.ts TT).ts t1) (.cons e143 .nil))) fun q146 H2 e145r S2 k2 t2 => ?_⟩
      have e145 : Tp H2 (.ref q146) ((.any [p, .no (p)] : Pt).d) := e145r
      walk_at "go"
      refine ⟨by show 2 ≤ sizeLine; decide, rd_tupT S2 (.cons e145 (.cons ((eT.ts TT).ts (t1.trans t2)) .nil)) fun q148 H3 e147r S3 k3 t3 => ?_⟩
      have e147 : Tp H3 (.ref q148) (prD (.any [p, .no (p)], pT)) := e147r
      walk_at "go"
      refine ⟨by show 2 ≤ sizeLine; decide, rd_tupT S3 (.cons (.str (kS "not")) (.cons ((ep.ts TT).ts (t1.trans (t2.trans t3))) .nil)) fun q150 H4 e149r S4 k4 t4 => ?_⟩
      have e149 : Tp H4 (.ref q150) ((.no (p) : Pt).d) := e149r
      walk_at "go"
      refine ⟨by show 3 ≤ sizeLine; decide, rd_tupT S4 (.cons (.str (kS "all")) (.cons ((ep.ts TT).ts (t1.trans (t2.trans (t3.trans t4)))) (.cons e149 .nil))) fun q152 H5 e151r S5 k5 t5 => ?_⟩
      have e151 : Tp H5 (.ref q152) ((.all [p, .no (p)] : Pt).d) := e151r
      walk_at "go"
      refine ⟨by show 1 ≤ sizeLine; decide, rd_tupT S5 (.cons (.str (kS "any")) .nil) fun q154 H6 e153r S6 k6 t6 => ?_⟩
      have e153 : Tp H6 (.ref q154) ((.any [] : Pt).d) := e153r
      walk_at "go"
      refine ⟨by show 2 ≤ sizeLine; decide, rd_tupT S6 (.cons (e151.ts t6) (.cons e153 .nil)) fun q156 H7 e155r S7 k7 t7 => ?_⟩
      have e155 : Tp H7 (.ref q156) (prD (.all [p, .no (p)], .any [])) := e155r
      walk_at "go"
      refine ⟨by show 3 ≤ sizeLine; decide, rd_tupT S7 (.cons (.str (kS "any")) (.cons ((ep.ts TT).ts (t1.trans (t2.trans (t3.trans (t4.trans (t5.trans (t6.trans t7))))))) (.cons ((ep.ts TT).ts (t1.trans (t2.trans (t3.trans (t4.trans (t5.trans (t6.trans t7))))))) .nil))) fun q158 H8 e157r S8 k8 t8 => ?_⟩
      have e157 : Tp H8 (.ref q158) ((.any [p, p] : Pt).d) := e157r
      walk_at "go"
      refine ⟨by show 2 ≤ sizeLine; decide, rd_tupT S8 (.cons (.str (kS "any")) (.cons ((ep.ts TT).ts (t1.trans (t2.trans (t3.trans (t4.trans (t5.trans (t6.trans (t7.trans t8)))))))) .nil)) fun q160 H9 e159r S9 k9 t9 => ?_⟩
      have e159 : Tp H9 (.ref q160) ((.any [p] : Pt).d) := e159r
      walk_at "go"
      refine ⟨by show 2 ≤ sizeLine; decide, rd_tupT S9 (.cons (e157.ts t9) (.cons e159 .nil)) fun q162 H10 e161r S10 k10 t10 => ?_⟩
      have e161 : Tp H10 (.ref q162) (prD (.any [p, p], .any [p])) := e161r
      walk_at "go"
      have PN : TpAll H10 _ (([(.any [p, .no (p)], pT), (.all [p, .no (p)], .any []), (.any [p, p], .any [p])] : List (Pt × Pt)).map prD) := (.cons (e147.ts (t4.trans (t5.trans (t6.trans (t7.trans (t8.trans (t9.trans t10))))))) (.cons (e155.ts (t8.trans (t9.trans t10))) (.cons e161 .nil)))
      refine ⟨by show 3 ≤ sizeLine; decide, rd_lstT S10 fun LN H11 nLN eLN S11 k11 t11 => ?_⟩
      walk_at "go"
      have PR : TpAll H11 _ (([(.no (.no (p)), p), (.row [.row [p, q], r], .row [p, .row [q, r]]), (.no (.any [p, q]), .all [.no (p), .no (q)]), (.no (.all [p, q]), .any [.no (p), .no (q)]), (.any [p, q], .any [q, p]), (.all [p, q], .all [q, p, q]), (.all [p, pT], p), (.row [p, .any [q, r]], .any [.row [p, q], .row [p, r]]), (.row [.any [p, q], r], .any [.row [p, r], .row [q, r]]), (.any [p, .any []], p), (.row [p], p), (.row [pE, p], p), (.row [p, .any []], .any []), (.row [p, pE, q], .row [p, q]), (pM p, .any [pE, .row [p, pM p]]), (.again (p) 2 none, .row [p, p, pM p]), (.again (p) 1 (some 2), .any [p, .row [p, p]]), (.again (p) 1 (some 1), p), (.again (p) 0 (some 2), .row [.any [pE, p], .any [pE, p]]), (.any [p, .no (p)], pT), (.all [p, .no (p)], .any []), (.any [p, p], .any [p])] : List (Pt × Pt)).map prD) := TpAll.app (PA.ts (t1.trans (t2.trans (t3.trans (t4.trans (t5.trans (t6.trans (t7.trans (t8.trans (t9.trans (t10.trans t11))))))))))) (PN.ts t11)
      refine ⟨L, LN, _, _, rfl, rfl, (k11.at nL (k10.at nL (k9.at nL (k8.at nL (k7.at nL (k6.at nL (k5.at nL (k4.at nL (k3.at nL (k2.at nL (k1.at nL eL))))))))))), eLN, by rw [TpAll.length PA]; show 22 ≤ sizeLine; decide, rd_lstT S11 fun LM H12 nLM eLM S12 k12 t12 => ?_⟩
      walk_at "go"
      exact hn _ _ ⟨LM, _, rfl, eLM, nLM, (PR.ts t12), S12, KK.trans (k1.trans (k2.trans (k3.trans (k4.trans (k5.trans (k6.trans (k7.trans (k8.trans (k9.trans (k10.trans (k11.trans k12))))))))))), TT.trans (t1.trans (t2.trans (t3.trans (t4.trans (t5.trans (t6.trans (t7.trans (t8.trans (t9.trans (t10.trans (t11.trans t12)))))))))))⟩
    clear KK TT SC PA eL nL
    obtain ⟨L, xs, rfl, eL, nL, PA, SC, KK, TT⟩ := hC
    obtain ⟨HC, rfl⟩ : ∃ HC, HC = H2 := ⟨H2, rfl⟩
    refine rd_cutS (fun σ2 H2 => ∃ (L : Addr) (xs : List V), σ2 = [some (.ref a), some vp, some vq, some vr, some (.ref aT), some (.ref aE), some (.ref aM), some (.ref L)] ∧ H2 L = some (.lst xs) ∧ L ≠ a ∧ TpAll H2 xs (([(.no (.no (p)), p), (.row [.row [p, q], r], .row [p, .row [q, r]]), (.no (.any [p, q]), .all [.no (p), .no (q)]), (.no (.all [p, q]), .any [.no (p), .no (q)]), (.any [p, q], .any [q, p]), (.all [p, q], .all [q, p, q]), (.all [p, pT], p), (.row [p, .any [q, r]], .any [.row [p, q], .row [p, r]]), (.row [.any [p, q], r], .any [.row [p, r], .row [q, r]]), (.any [p, .any []], p), (.row [p], p), (.row [pE, p], p), (.row [p, .any []], .any []), (.row [p, pE, q], .row [p, q]), (pM p, .any [pE, .row [p, pM p]]), (.again (p) 2 none, .row [p, p, pM p]), (.again (p) 1 (some 2), .any [p, .row [p, p]]), (.again (p) 1 (some 1), p), (.again (p) 0 (some 2), .row [.any [pE, p], .any [pE, p]]), (.any [p, .no (p)], pT), (.all [p, .no (p)], .any []), (.any [p, p], .any [p]), (.again (pM p) 0 none, pM p), (.again (p) 0 (some 0), pE), (.row [pM p, pM p], pM p)] : List (Pt × Pt)).map prD) ∧ Src a (n + 1) H2 ∧ Kp a HB H2 ∧ TS HB H2) (fun nx2 hn => ?_) (fun σ2 H2 hC => ?_)
    · walk_at "go"
      refine ⟨by show 4 ≤ sizeLine; decide, rd_tupT SC (.cons (.str (kS "again")) (.cons (eM.ts TT) (.cons (.int 0) (.cons .non .nil)))) fun q164 H1 e163r S1 k1 t1 => ?_⟩
      have e163 : Tp H1 (.ref q164) ((.again (pM p) 0 none : Pt).d) := e163r
      walk_at "go"
      refine ⟨by show 2 ≤ sizeLine; decide, rd_tupT S1 (.cons e163 (.cons ((eM.ts TT).ts t1) .nil)) fun q166 H2 e165r S2 k2 t2 => ?_⟩
      have e165 : Tp H2 (.ref q166) (prD (.again (pM p) 0 none, pM p)) := e165r
      walk_at "go"
      refine ⟨by show 4 ≤ sizeLine; decide, rd_tupT S2 (.cons (.str (kS "again")) (.cons ((ep.ts TT).ts (t1.trans t2)) (.cons (.int 0) (.cons (.int 0) .nil)))) fun q168 H3 e167r S3 k3 t3 => ?_⟩
      have e167 : Tp H3 (.ref q168) ((.again (p) 0 (some 0) : Pt).d) := e167r
      walk_at "go"
      refine ⟨by show 2 ≤ sizeLine; decide, rd_tupT S3 (.cons e167 (.cons ((eE.ts TT).ts (t1.trans (t2.trans t3))) .nil)) fun q170 H4 e169r S4 k4 t4 => ?_⟩
      have e169 : Tp H4 (.ref q170) (prD (.again (p) 0 (some 0), pE)) := e169r
      walk_at "go"
      refine ⟨by show 3 ≤ sizeLine; decide, rd_tupT S4 (.cons (.str (kS "row")) (.cons ((eM.ts TT).ts (t1.trans (t2.trans (t3.trans t4)))) (.cons ((eM.ts TT).ts (t1.trans (t2.trans (t3.trans t4)))) .nil))) fun q172 H5 e171r S5 k5 t5 => ?_⟩
      have e171 : Tp H5 (.ref q172) ((.row [pM p, pM p] : Pt).d) := e171r
      walk_at "go"
      refine ⟨by show 2 ≤ sizeLine; decide, rd_tupT S5 (.cons e171 (.cons ((eM.ts TT).ts (t1.trans (t2.trans (t3.trans (t4.trans t5))))) .nil)) fun q174 H6 e173r S6 k6 t6 => ?_⟩
      have e173 : Tp H6 (.ref q174) (prD (.row [pM p, pM p], pM p)) := e173r
      walk_at "go"
      have PN : TpAll H6 _ (([(.again (pM p) 0 none, pM p), (.again (p) 0 (some 0), pE), (.row [pM p, pM p], pM p)] : List (Pt × Pt)).map prD) := (.cons (e165.ts (t3.trans (t4.trans (t5.trans t6)))) (.cons (e169.ts (t5.trans t6)) (.cons e173 .nil)))
      refine ⟨by show 3 ≤ sizeLine; decide, rd_lstT S6 fun LN H7 nLN eLN S7 k7 t7 => ?_⟩
      walk_at "go"
      have PR : TpAll H7 _ (([(.no (.no (p)), p), (.row [.row [p, q], r], .row [p, .row [q, r]]), (.no (.any [p, q]), .all [.no (p), .no (q)]), (.no (.all [p, q]), .any [.no (p), .no (q)]), (.any [p, q], .any [q, p]), (.all [p, q], .all [q, p, q]), (.all [p, pT], p), (.row [p, .any [q, r]], .any [.row [p, q], .row [p, r]]), (.row [.any [p, q], r], .any [.row [p, r], .row [q, r]]), (.any [p, .any []], p), (.row [p], p), (.row [pE, p], p), (.row [p, .any []], .any []), (.row [p, pE, q], .row [p, q]), (pM p, .any [pE, .row [p, pM p]]), (.again (p) 2 none, .row [p, p, pM p]), (.again (p) 1 (some 2), .any [p, .row [p, p]]), (.again (p) 1 (some 1), p), (.again (p) 0 (some 2), .row [.any [pE, p], .any [pE, p]]), (.any [p, .no (p)], pT), (.all [p, .no (p)], .any []), (.any [p, p], .any [p]), (.again (pM p) 0 none, pM p), (.again (p) 0 (some 0), pE), (.row [pM p, pM p], pM p)] : List (Pt × Pt)).map prD) := TpAll.app (PA.ts (t1.trans (t2.trans (t3.trans (t4.trans (t5.trans (t6.trans t7))))))) (PN.ts t7)
      refine ⟨L, LN, _, _, rfl, rfl, (k7.at nL (k6.at nL (k5.at nL (k4.at nL (k3.at nL (k2.at nL (k1.at nL eL))))))), eLN, by rw [TpAll.length PA]; show 25 ≤ sizeLine; decide, rd_lstT S7 fun LM H8 nLM eLM S8 k8 t8 => ?_⟩
      walk_at "go"
      exact hn _ _ ⟨LM, _, rfl, eLM, nLM, (PR.ts t8), S8, KK.trans (k1.trans (k2.trans (k3.trans (k4.trans (k5.trans (k6.trans (k7.trans k8))))))), TT.trans (t1.trans (t2.trans (t3.trans (t4.trans (t5.trans (t6.trans (t7.trans t8)))))))⟩
    clear KK TT SC PA eL nL
    obtain ⟨L, xs, rfl, eL, nL, PA, SC, KK, TT⟩ := hC
    obtain ⟨HC, rfl⟩ : ∃ HC, HC = H2 := ⟨H2, rfl⟩
    refine rd_cutS (fun σ2 H2 => ∃ (L : Addr) (xs : List V), σ2 = [some (.ref a), some vp, some vq, some vr, some (.ref aT), some (.ref aE), some (.ref aM), some (.ref L)] ∧ H2 L = some (.lst xs) ∧ L ≠ a ∧ TpAll H2 xs (([(.no (.no (p)), p), (.row [.row [p, q], r], .row [p, .row [q, r]]), (.no (.any [p, q]), .all [.no (p), .no (q)]), (.no (.all [p, q]), .any [.no (p), .no (q)]), (.any [p, q], .any [q, p]), (.all [p, q], .all [q, p, q]), (.all [p, pT], p), (.row [p, .any [q, r]], .any [.row [p, q], .row [p, r]]), (.row [.any [p, q], r], .any [.row [p, r], .row [q, r]]), (.any [p, .any []], p), (.row [p], p), (.row [pE, p], p), (.row [p, .any []], .any []), (.row [p, pE, q], .row [p, q]), (pM p, .any [pE, .row [p, pM p]]), (.again (p) 2 none, .row [p, p, pM p]), (.again (p) 1 (some 2), .any [p, .row [p, p]]), (.again (p) 1 (some 1), p), (.again (p) 0 (some 2), .row [.any [pE, p], .any [pE, p]]), (.any [p, .no (p)], pT), (.all [p, .no (p)], .any []), (.any [p, p], .any [p]), (.again (pM p) 0 none, pM p), (.again (p) 0 (some 0), pE), (.row [pM p, pM p], pM p), (.any [], .no (pT)), (.no (pE), .all [pT, .no (pE)])] : List (Pt × Pt)).map prD) ∧ Src a (n + 1) H2 ∧ Kp a HB H2 ∧ TS HB H2) (fun nx2 hn => ?_) (fun σ2 H2 hC => ?_)
    · walk_at "go"
      refine ⟨by show 1 ≤ sizeLine; decide, rd_tupT SC (.cons (.str (kS "any")) .nil) fun q176 H1 e175r S1 k1 t1 => ?_⟩
      have e175 : Tp H1 (.ref q176) ((.any [] : Pt).d) := e175r
      walk_at "go"
      refine ⟨by show 2 ≤ sizeLine; decide, rd_tupT S1 (.cons (.str (kS "not")) (.cons ((eT.ts TT).ts t1) .nil)) fun q178 H2 e177r S2 k2 t2 => ?_⟩
      have e177 : Tp H2 (.ref q178) ((.no (pT) : Pt).d) := e177r
      walk_at "go"
      refine ⟨by show 2 ≤ sizeLine; decide, rd_tupT S2 (.cons (e175.ts t2) (.cons e177 .nil)) fun q180 H3 e179r S3 k3 t3 => ?_⟩
      have e179 : Tp H3 (.ref q180) (prD (.any [], .no (pT))) := e179r
      walk_at "go"
      refine ⟨by show 2 ≤ sizeLine; decide, rd_tupT S3 (.cons (.str (kS "not")) (.cons ((eE.ts TT).ts (t1.trans (t2.trans t3))) .nil)) fun q182 H4 e181r S4 k4 t4 => ?_⟩
      have e181 : Tp H4 (.ref q182) ((.no (pE) : Pt).d) := e181r
      walk_at "go"
      refine ⟨by show 2 ≤ sizeLine; decide, rd_tupT S4 (.cons (.str (kS "not")) (.cons ((eE.ts TT).ts (t1.trans (t2.trans (t3.trans t4)))) .nil)) fun q184 H5 e183r S5 k5 t5 => ?_⟩
      have e183 : Tp H5 (.ref q184) ((.no (pE) : Pt).d) := e183r
      walk_at "go"
      refine ⟨by show 3 ≤ sizeLine; decide, rd_tupT S5 (.cons (.str (kS "all")) (.cons ((eT.ts TT).ts (t1.trans (t2.trans (t3.trans (t4.trans t5))))) (.cons e183 .nil))) fun q186 H6 e185r S6 k6 t6 => ?_⟩
      have e185 : Tp H6 (.ref q186) ((.all [pT, .no (pE)] : Pt).d) := e185r
      walk_at "go"
      refine ⟨by show 2 ≤ sizeLine; decide, rd_tupT S6 (.cons (e181.ts (t5.trans t6)) (.cons e185 .nil)) fun q188 H7 e187r S7 k7 t7 => ?_⟩
      have e187 : Tp H7 (.ref q188) (prD (.no (pE), .all [pT, .no (pE)])) := e187r
      walk_at "go"
      have PN : TpAll H7 _ (([(.any [], .no (pT)), (.no (pE), .all [pT, .no (pE)])] : List (Pt × Pt)).map prD) := (.cons (e179.ts (t4.trans (t5.trans (t6.trans t7)))) (.cons e187 .nil))
      refine ⟨by show 2 ≤ sizeLine; decide, rd_lstT S7 fun LN H8 nLN eLN S8 k8 t8 => ?_⟩
      walk_at "go"
      have PR : TpAll H8 _ (([(.no (.no (p)), p), (.row [.row [p, q], r], .row [p, .row [q, r]]), (.no (.any [p, q]), .all [.no (p), .no (q)]), (.no (.all [p, q]), .any [.no (p), .no (q)]), (.any [p, q], .any [q, p]), (.all [p, q], .all [q, p, q]), (.all [p, pT], p), (.row [p, .any [q, r]], .any [.row [p, q], .row [p, r]]), (.row [.any [p, q], r], .any [.row [p, r], .row [q, r]]), (.any [p, .any []], p), (.row [p], p), (.row [pE, p], p), (.row [p, .any []], .any []), (.row [p, pE, q], .row [p, q]), (pM p, .any [pE, .row [p, pM p]]), (.again (p) 2 none, .row [p, p, pM p]), (.again (p) 1 (some 2), .any [p, .row [p, p]]), (.again (p) 1 (some 1), p), (.again (p) 0 (some 2), .row [.any [pE, p], .any [pE, p]]), (.any [p, .no (p)], pT), (.all [p, .no (p)], .any []), (.any [p, p], .any [p]), (.again (pM p) 0 none, pM p), (.again (p) 0 (some 0), pE), (.row [pM p, pM p], pM p), (.any [], .no (pT)), (.no (pE), .all [pT, .no (pE)])] : List (Pt × Pt)).map prD) := TpAll.app (PA.ts (t1.trans (t2.trans (t3.trans (t4.trans (t5.trans (t6.trans (t7.trans t8)))))))) (PN.ts t8)
      refine ⟨L, LN, _, _, rfl, rfl, (k8.at nL (k7.at nL (k6.at nL (k5.at nL (k4.at nL (k3.at nL (k2.at nL (k1.at nL eL)))))))), eLN, by rw [TpAll.length PA]; show 27 ≤ sizeLine; decide, rd_lstT S8 fun LM H9 nLM eLM S9 k9 t9 => ?_⟩
      walk_at "go"
      exact hn _ _ ⟨LM, _, rfl, eLM, nLM, (PR.ts t9), S9, KK.trans (k1.trans (k2.trans (k3.trans (k4.trans (k5.trans (k6.trans (k7.trans (k8.trans k9)))))))), TT.trans (t1.trans (t2.trans (t3.trans (t4.trans (t5.trans (t6.trans (t7.trans (t8.trans t9))))))))⟩
    clear KK TT SC PA eL nL
    obtain ⟨L, xs, rfl, eL, nL, PA, SC, KK, TT⟩ := hC
    obtain ⟨HC, rfl⟩ : ∃ HC, HC = H2 := ⟨H2, rfl⟩
    refine rd_cutS (fun σ2 H2 => ∃ (L : Addr) (xs : List V), σ2 = [some (.ref a), some vp, some vq, some vr, some (.ref aT), some (.ref aE), some (.ref aM), some (.ref L)] ∧ H2 L = some (.lst xs) ∧ L ≠ a ∧ TpAll H2 xs (([(.no (.no (p)), p), (.row [.row [p, q], r], .row [p, .row [q, r]]), (.no (.any [p, q]), .all [.no (p), .no (q)]), (.no (.all [p, q]), .any [.no (p), .no (q)]), (.any [p, q], .any [q, p]), (.all [p, q], .all [q, p, q]), (.all [p, pT], p), (.row [p, .any [q, r]], .any [.row [p, q], .row [p, r]]), (.row [.any [p, q], r], .any [.row [p, r], .row [q, r]]), (.any [p, .any []], p), (.row [p], p), (.row [pE, p], p), (.row [p, .any []], .any []), (.row [p, pE, q], .row [p, q]), (pM p, .any [pE, .row [p, pM p]]), (.again (p) 2 none, .row [p, p, pM p]), (.again (p) 1 (some 2), .any [p, .row [p, p]]), (.again (p) 1 (some 1), p), (.again (p) 0 (some 2), .row [.any [pE, p], .any [pE, p]]), (.any [p, .no (p)], pT), (.all [p, .no (p)], .any []), (.any [p, p], .any [p]), (.again (pM p) 0 none, pM p), (.again (p) 0 (some 0), pE), (.row [pM p, pM p], pM p), (.any [], .no (pT)), (.no (pE), .all [pT, .no (pE)]), (.any [p, q, r, p, q], .any [q, r, p]), (.all [p, q, r, p, q], .all [q, r, p])] : List (Pt × Pt)).map prD) ∧ Src a (n + 1) H2 ∧ Kp a HB H2 ∧ TS HB H2) (fun nx2 hn => ?_) (fun σ2 H2 hC => ?_)
    · walk_at "go"
      refine ⟨by show 6 ≤ sizeLine; decide, rd_tupT SC (.cons (.str (kS "any")) (.cons (ep.ts TT) (.cons (eq.ts TT) (.cons (er.ts TT) (.cons (ep.ts TT) (.cons (eq.ts TT) .nil)))))) fun q190 H1 e189r S1 k1 t1 => ?_⟩
      have e189 : Tp H1 (.ref q190) ((.any [p, q, r, p, q] : Pt).d) := e189r
      walk_at "go"
      refine ⟨by show 4 ≤ sizeLine; decide, rd_tupT S1 (.cons (.str (kS "any")) (.cons ((eq.ts TT).ts t1) (.cons ((er.ts TT).ts t1) (.cons ((ep.ts TT).ts t1) .nil)))) fun q192 H2 e191r S2 k2 t2 => ?_⟩
      have e191 : Tp H2 (.ref q192) ((.any [q, r, p] : Pt).d) := e191r
      walk_at "go"
      refine ⟨by show 2 ≤ sizeLine; decide, rd_tupT S2 (.cons (e189.ts t2) (.cons e191 .nil)) fun q194 H3 e193r S3 k3 t3 => ?_⟩
      have e193 : Tp H3 (.ref q194) (prD (.any [p, q, r, p, q], .any [q, r, p])) := e193r
      walk_at "go"
      refine ⟨by show 6 ≤ sizeLine; decide, rd_tupT S3 (.cons (.str (kS "all")) (.cons ((ep.ts TT).ts (t1.trans (t2.trans t3))) (.cons ((eq.ts TT).ts (t1.trans (t2.trans t3))) (.cons ((er.ts TT).ts (t1.trans (t2.trans t3))) (.cons ((ep.ts TT).ts (t1.trans (t2.trans t3))) (.cons ((eq.ts TT).ts (t1.trans (t2.trans t3))) .nil)))))) fun q196 H4 e195r S4 k4 t4 => ?_⟩
      have e195 : Tp H4 (.ref q196) ((.all [p, q, r, p, q] : Pt).d) := e195r
      walk_at "go"
      refine ⟨by show 4 ≤ sizeLine; decide, rd_tupT S4 (.cons (.str (kS "all")) (.cons ((eq.ts TT).ts (t1.trans (t2.trans (t3.trans t4)))) (.cons ((er.ts TT).ts (t1.trans (t2.trans (t3.trans t4)))) (.cons ((ep.ts TT).ts (t1.trans (t2.trans (t3.trans t4)))) .nil)))) fun q198 H5 e197r S5 k5 t5 => ?_⟩
      have e197 : Tp H5 (.ref q198) ((.all [q, r, p] : Pt).d) := e197r
      walk_at "go"
      refine ⟨by show 2 ≤ sizeLine; decide, rd_tupT S5 (.cons (e195.ts t5) (.cons e197 .nil)) fun q200 H6 e199r S6 k6 t6 => ?_⟩
      have e199 : Tp H6 (.ref q200) (prD (.all [p, q, r, p, q], .all [q, r, p])) := e199r
      walk_at "go"
      have PN : TpAll H6 _ (([(.any [p, q, r, p, q], .any [q, r, p]), (.all [p, q, r, p, q], .all [q, r, p])] : List (Pt × Pt)).map prD) := (.cons (e193.ts (t4.trans (t5.trans t6))) (.cons e199 .nil))
      refine ⟨by show 2 ≤ sizeLine; decide, rd_lstT S6 fun LN H7 nLN eLN S7 k7 t7 => ?_⟩
      walk_at "go"
      have PR : TpAll H7 _ (([(.no (.no (p)), p), (.row [.row [p, q], r], .row [p, .row [q, r]]), (.no (.any [p, q]), .all [.no (p), .no (q)]), (.no (.all [p, q]), .any [.no (p), .no (q)]), (.any [p, q], .any [q, p]), (.all [p, q], .all [q, p, q]), (.all [p, pT], p), (.row [p, .any [q, r]], .any [.row [p, q], .row [p, r]]), (.row [.any [p, q], r], .any [.row [p, r], .row [q, r]]), (.any [p, .any []], p), (.row [p], p), (.row [pE, p], p), (.row [p, .any []], .any []), (.row [p, pE, q], .row [p, q]), (pM p, .any [pE, .row [p, pM p]]), (.again (p) 2 none, .row [p, p, pM p]), (.again (p) 1 (some 2), .any [p, .row [p, p]]), (.again (p) 1 (some 1), p), (.again (p) 0 (some 2), .row [.any [pE, p], .any [pE, p]]), (.any [p, .no (p)], pT), (.all [p, .no (p)], .any []), (.any [p, p], .any [p]), (.again (pM p) 0 none, pM p), (.again (p) 0 (some 0), pE), (.row [pM p, pM p], pM p), (.any [], .no (pT)), (.no (pE), .all [pT, .no (pE)]), (.any [p, q, r, p, q], .any [q, r, p]), (.all [p, q, r, p, q], .all [q, r, p])] : List (Pt × Pt)).map prD) := TpAll.app (PA.ts (t1.trans (t2.trans (t3.trans (t4.trans (t5.trans (t6.trans t7))))))) (PN.ts t7)
      refine ⟨L, LN, _, _, rfl, rfl, (k7.at nL (k6.at nL (k5.at nL (k4.at nL (k3.at nL (k2.at nL (k1.at nL eL))))))), eLN, by rw [TpAll.length PA]; show 29 ≤ sizeLine; decide, rd_lstT S7 fun LM H8 nLM eLM S8 k8 t8 => ?_⟩
      walk_at "go"
      exact hn _ _ ⟨LM, _, rfl, eLM, nLM, (PR.ts t8), S8, KK.trans (k1.trans (k2.trans (k3.trans (k4.trans (k5.trans (k6.trans (k7.trans k8))))))), TT.trans (t1.trans (t2.trans (t3.trans (t4.trans (t5.trans (t6.trans (t7.trans t8)))))))⟩
    clear KK TT SC PA eL nL
    obtain ⟨L, xs, rfl, eL, nL, PA, SC, KK, TT⟩ := hC
    obtain ⟨HC, rfl⟩ : ∃ HC, HC = H2 := ⟨H2, rfl⟩
    refine rd_cutS (fun σ2 H2 => ∃ (L : Addr) (xs : List V), σ2 = [some (.ref a), some vp, some vq, some vr, some (.ref aT), some (.ref aE), some (.ref aM), some (.ref L)] ∧ H2 L = some (.lst xs) ∧ L ≠ a ∧ TpAll H2 xs (([(.no (.no (p)), p), (.row [.row [p, q], r], .row [p, .row [q, r]]), (.no (.any [p, q]), .all [.no (p), .no (q)]), (.no (.all [p, q]), .any [.no (p), .no (q)]), (.any [p, q], .any [q, p]), (.all [p, q], .all [q, p, q]), (.all [p, pT], p), (.row [p, .any [q, r]], .any [.row [p, q], .row [p, r]]), (.row [.any [p, q], r], .any [.row [p, r], .row [q, r]]), (.any [p, .any []], p), (.row [p], p), (.row [pE, p], p), (.row [p, .any []], .any []), (.row [p, pE, q], .row [p, q]), (pM p, .any [pE, .row [p, pM p]]), (.again (p) 2 none, .row [p, p, pM p]), (.again (p) 1 (some 2), .any [p, .row [p, p]]), (.again (p) 1 (some 1), p), (.again (p) 0 (some 2), .row [.any [pE, p], .any [pE, p]]), (.any [p, .no (p)], pT), (.all [p, .no (p)], .any []), (.any [p, p], .any [p]), (.again (pM p) 0 none, pM p), (.again (p) 0 (some 0), pE), (.row [pM p, pM p], pM p), (.any [], .no (pT)), (.no (pE), .all [pT, .no (pE)]), (.any [p, q, r, p, q], .any [q, r, p]), (.all [p, q, r, p, q], .all [q, r, p]), (.all [pT, pT, pT, p], p), (.any [p, q, r, .any [], p], .any [r, q, p])] : List (Pt × Pt)).map prD) ∧ Src a (n + 1) H2 ∧ Kp a HB H2 ∧ TS HB H2) (fun nx2 hn => ?_) (fun σ2 H2 hC => ?_)
    · walk_at "go"
      refine ⟨by show 5 ≤ sizeLine; decide, rd_tupT SC (.cons (.str (kS "all")) (.cons (eT.ts TT) (.cons (eT.ts TT) (.cons (eT.ts TT) (.cons (ep.ts TT) .nil))))) fun q202 H1 e201r S1 k1 t1 => ?_⟩
      have e201 : Tp H1 (.ref q202) ((.all [pT, pT, pT, p] : Pt).d) := e201r
      walk_at "go"
      refine ⟨by show 2 ≤ sizeLine; decide, rd_tupT S1 (.cons e201 (.cons ((ep.ts TT).ts t1) .nil)) fun q204 H2 e203r S2 k2 t2 => ?_⟩
      have e203 : Tp H2 (.ref q204) (prD (.all [pT, pT, pT, p], p)) := e203r
      walk_at "go"
      refine ⟨by show 1 ≤ sizeLine; decide, rd_tupT S2 (.cons (.str (kS "any")) .nil) fun q206 H3 e205r S3 k3 t3 => ?_⟩
      have e205 : Tp H3 (.ref q206) ((.any [] : Pt).d) := e205r
      walk_at "go"
      refine ⟨by show 6 ≤ sizeLine; decide, rd_tupT S3 (.cons (.str (kS "any")) (.cons ((ep.ts TT).ts (t1.trans (t2.trans t3))) (.cons ((eq.ts TT).ts (t1.trans (t2.trans t3))) (.cons ((er.ts TT).ts (t1.trans (t2.trans t3))) (.cons e205 (.cons ((ep.ts TT).ts (t1.trans (t2.trans t3))) .nil)))))) fun q208 H4 e207r S4 k4 t4 => ?_⟩
      have e207 : Tp H4 (.ref q208) ((.any [p, q, r, .any [], p] : Pt).d) := e207r
      walk_at "go"
      refine ⟨by show 4 ≤ sizeLine; decide, rd_tupT S4 (.cons (.str (kS "any")) (.cons ((er.ts TT).ts (t1.trans (t2.trans (t3.trans t4)))) (.cons ((eq.ts TT).ts (t1.trans (t2.trans (t3.trans t4)))) (.cons ((ep.ts TT).ts (t1.trans (t2.trans (t3.trans t4)))) .nil)))) fun q210 H5 e209r S5 k5 t5 => ?_⟩
      have e209 : Tp H5 (.ref q210) ((.any [r, q, p] : Pt).d) := e209r
      walk_at "go"
      refine ⟨by show 2 ≤ sizeLine; decide, rd_tupT S5 (.cons (e207.ts t5) (.cons e209 .nil)) fun q212 H6 e211r S6 k6 t6 => ?_⟩
      have e211 : Tp H6 (.ref q212) (prD (.any [p, q, r, .any [], p], .any [r, q, p])) := e211r
      walk_at "go"
      have PN : TpAll H6 _ (([(.all [pT, pT, pT, p], p), (.any [p, q, r, .any [], p], .any [r, q, p])] : List (Pt × Pt)).map prD) := (.cons (e203.ts (t3.trans (t4.trans (t5.trans t6)))) (.cons e211 .nil))
      refine ⟨by show 2 ≤ sizeLine; decide, rd_lstT S6 fun LN H7 nLN eLN S7 k7 t7 => ?_⟩
      walk_at "go"
      have PR : TpAll H7 _ (([(.no (.no (p)), p), (.row [.row [p, q], r], .row [p, .row [q, r]]), (.no (.any [p, q]), .all [.no (p), .no (q)]), (.no (.all [p, q]), .any [.no (p), .no (q)]), (.any [p, q], .any [q, p]), (.all [p, q], .all [q, p, q]), (.all [p, pT], p), (.row [p, .any [q, r]], .any [.row [p, q], .row [p, r]]), (.row [.any [p, q], r], .any [.row [p, r], .row [q, r]]), (.any [p, .any []], p), (.row [p], p), (.row [pE, p], p), (.row [p, .any []], .any []), (.row [p, pE, q], .row [p, q]), (pM p, .any [pE, .row [p, pM p]]), (.again (p) 2 none, .row [p, p, pM p]), (.again (p) 1 (some 2), .any [p, .row [p, p]]), (.again (p) 1 (some 1), p), (.again (p) 0 (some 2), .row [.any [pE, p], .any [pE, p]]), (.any [p, .no (p)], pT), (.all [p, .no (p)], .any []), (.any [p, p], .any [p]), (.again (pM p) 0 none, pM p), (.again (p) 0 (some 0), pE), (.row [pM p, pM p], pM p), (.any [], .no (pT)), (.no (pE), .all [pT, .no (pE)]), (.any [p, q, r, p, q], .any [q, r, p]), (.all [p, q, r, p, q], .all [q, r, p]), (.all [pT, pT, pT, p], p), (.any [p, q, r, .any [], p], .any [r, q, p])] : List (Pt × Pt)).map prD) := TpAll.app (PA.ts (t1.trans (t2.trans (t3.trans (t4.trans (t5.trans (t6.trans t7))))))) (PN.ts t7)
      refine ⟨L, LN, _, _, rfl, rfl, (k7.at nL (k6.at nL (k5.at nL (k4.at nL (k3.at nL (k2.at nL (k1.at nL eL))))))), eLN, by rw [TpAll.length PA]; show 31 ≤ sizeLine; decide, rd_lstT S7 fun LM H8 nLM eLM S8 k8 t8 => ?_⟩
      walk_at "go"
      exact hn _ _ ⟨LM, _, rfl, eLM, nLM, (PR.ts t8), S8, KK.trans (k1.trans (k2.trans (k3.trans (k4.trans (k5.trans (k6.trans (k7.trans k8))))))), TT.trans (t1.trans (t2.trans (t3.trans (t4.trans (t5.trans (t6.trans (t7.trans t8)))))))⟩
    clear KK TT SC PA eL nL
    obtain ⟨L, xs, rfl, eL, nL, PA, SC, KK, TT⟩ := hC
    obtain ⟨HC, rfl⟩ : ∃ HC, HC = H2 := ⟨H2, rfl⟩
    walk_at "go"
    have hall : TpAll HC xs ((pairsP p q r).map prD) := PA
    refine rd_len (.inl (SqL.of eL)) ?_
    walk_at "go"
    have hlen := TpAll.length hall
    refine use_draw (n := n) SC (by rw [hlen]; show (0 : Int) < 31; decide) (by rw [hlen]; show (31 : Int) < 2 ^ 30; decide) fun i0 HZ i1 i2 SZ kZ => ?_
    obtain ⟨i, rfl⟩ : ∃ i : Nat, i0 = (i : Int) := ⟨i0.toNat, by omega⟩
    rw [hlen] at i2
    have hi : i < 31 := by
      have : ((((pairsP p q r).map prD).length : Nat) : Int) = 31 := rfl
      omega
    have hi' : i < (pairsP p q r).length := hi
    obtain ⟨v, hv, ev⟩ := TpAll.get' (i := i) (d := prD (pairsP p q r)[i]) hall (by rw [List.getElem?_map, List.getElem?_eq_getElem hi']; rfl)
    walk_at "go"
    refine rd_ixl (SqL.of (kZ.at nL eL)) (atI_nat hv) ?_
    walk_at "go"
    exact kq v _ HZ (List.getElem_mem hi') (ev.ts (TS.kp SC kZ)) SZ (k02.trans (KK.trans kZ))
end

end Cs

open PySem PySem.W PyProof.Rows in
set_option maxRecDepth 100000 in
set_option maxHeartbeats 0 in
theorem PySem.Challenge.cw_cutscribe_k04_whole_matching_rules_holds : PySem.Challenge.rw_cutscribe_k04_whole_matching_rules.Holds := by
  w_on; o_law; k_head; (case hw => w_witness2)
  k_fill
  refine Cs.walk_c (st := Cs.s_law) (l := PySem.Challenge.rw_cutscribe_k04_whole_matching_rules) rfl rfl rfl (fun w h Y => PySem.W.kIn_of Y) ?F
  case F =>
    intro w mg h KX G
    have B : Cs.Blt mg := by
      refine' Cs.blt_mk KX G ?z0 ?z1 ?z2 ?z3 ?z4 ?z5 ?z6 ?z7 ?z8 ?z9 ?z10 ?z11 ?z12 ?z13 ?z14 ?z15 ?z16
      (case z0 => k_is)
      (case z1 => k_is)
      (case z2 => k_is)
      (case z3 => k_is)
      (case z4 => k_is)
      (case z5 => k_is)
      (case z6 => k_is)
      (case z7 => k_is)
      (case z8 => k_is)
      (case z9 => k_is)
      (case z10 => k_is)
      (case z11 => k_is)
      (case z12 => k_is)
      (case z13 => k_is)
      (case z14 => k_is)
      (case z15 => k_is)
      (case z16 => k_is)
    have A__choice : Cs.At (L2.KOf KX) mg "_choice" Cs.s__choice ["pieces"] := by
      refine' Cs.at_mk KX G ?a ?l ?c ?k ?b
      (case a => k_is)
      (case l => k_is)
      (case c => k_is)
      (case k => k_is)
      (case b => exact fun _ _ _ _ _ _ us hl => match us, hl with | [_], _ => rfl)
    have A__holds : Cs.At (L2.KOf KX) mg "_holds" Cs.s__holds ["verdict", "state"] := by
      refine' Cs.at_mk KX G ?a ?l ?c ?k ?b
      (case a => k_is)
      (case l => k_is)
      (case c => k_is)
      (case k => k_is)
      (case b => exact fun _ _ _ _ _ _ us hl => match us, hl with | [_, _], _ => rfl)
    have A_matches : Cs.At (L2.KOf KX) mg "matches" Cs.s_matches ["alphabet", "pattern", "text"] := by
      refine' Cs.at_mk KX G ?a ?l ?c ?k ?b
      (case a => k_is)
      (case l => k_is)
      (case c => k_is)
      (case k => k_is)
      (case b => exact fun _ _ _ _ _ _ us hl => match us, hl with | [_, _, _], _ => rfl)
    have A_check_text : Cs.At (L2.KOf KX) mg "check_text" Cs.s_check_text ["alphabet", "text"] := by
      refine' Cs.at_mk KX G ?a ?l ?c ?k ?b
      (case a => k_is)
      (case l => k_is)
      (case c => k_is)
      (case k => k_is)
      (case b => exact fun _ _ _ _ _ _ us hl => match us, hl with | [_, _], _ => rfl)
    have A__law_source : Cs.At (L2.KOf KX) mg "_law_source" Cs.s__law_source ["_law_script", "_law_k"] := by
      refine' Cs.at_mk KX G ?a ?l ?c ?k ?b
      (case a => k_is)
      (case l => k_is)
      (case c => k_is)
      (case k => k_is)
      (case b => exact fun _ _ _ _ _ _ us hl => match us, hl with | [_, _], _ => rfl)
    have A__law_draw : Cs.At (L2.KOf KX) mg "_law_draw" Cs.s__law_draw ["_law_source_here", "_law_many"] := by
      refine' Cs.at_mk KX G ?a ?l ?c ?k ?b
      (case a => k_is)
      (case l => k_is)
      (case c => k_is)
      (case k => k_is)
      (case b => exact fun _ _ _ _ _ _ us hl => match us, hl with | [_, _], _ => rfl)
    have A__law_alphabet : Cs.At (L2.KOf KX) mg "_law_alphabet" Cs.s__law_alphabet ["_law_source_here", "_law_many"] := by
      refine' Cs.at_mk KX G ?a ?l ?c ?k ?b
      (case a => k_is)
      (case l => k_is)
      (case c => k_is)
      (case k => k_is)
      (case b => exact fun _ _ _ _ _ _ us hl => match us, hl with | [_, _], _ => rfl)
    have A__law_set : Cs.At (L2.KOf KX) mg "_law_set" Cs.s__law_set ["_law_source_here", "_law_alphabet_here"] := by
      refine' Cs.at_mk KX G ?a ?l ?c ?k ?b
      (case a => k_is)
      (case l => k_is)
      (case c => k_is)
      (case k => k_is)
      (case b => exact fun _ _ _ _ _ _ us hl => match us, hl with | [_, _], _ => rfl)
    have A__law_row : Cs.At (L2.KOf KX) mg "_law_row" Cs.s__law_row ["_law_source_here", "_law_alphabet_here", "_law_many"] := by
      refine' Cs.at_mk KX G ?a ?l ?c ?k ?b
      (case a => k_is)
      (case l => k_is)
      (case c => k_is)
      (case k => k_is)
      (case b => exact fun _ _ _ _ _ _ us hl => match us, hl with | [_, _, _], _ => rfl)
    have A__law_text : Cs.At (L2.KOf KX) mg "_law_text" Cs.s__law_text ["_law_source_here", "_law_alphabet_here", "_law_many"] := by
      refine' Cs.at_mk KX G ?a ?l ?c ?k ?b
      (case a => k_is)
      (case l => k_is)
      (case c => k_is)
      (case k => k_is)
      (case b => exact fun _ _ _ _ _ _ us hl => match us, hl with | [_, _, _], _ => rfl)
    have A__law_short_texts : Cs.At (L2.KOf KX) mg "_law_short_texts" Cs.s__law_short_texts ["_law_alphabet_here", "_law_longest"] := by
      refine' Cs.at_mk KX G ?a ?l ?c ?k ?b
      (case a => k_is)
      (case l => k_is)
      (case c => k_is)
      (case k => k_is)
      (case b => exact fun _ _ _ _ _ _ us hl => match us, hl with | [_, _], _ => rfl)
    have A__law_part : Cs.At (L2.KOf KX) mg "_law_part" Cs.s__law_part ["_law_source_here", "_law_alphabet_here"] := by
      refine' Cs.at_mk KX G ?a ?l ?c ?k ?b
      (case a => k_is)
      (case l => k_is)
      (case c => k_is)
      (case k => k_is)
      (case b => exact fun _ _ _ _ _ _ us hl => match us, hl with | [_, _], _ => rfl)
    have A__law_pair : Cs.At (L2.KOf KX) mg "_law_pair" Cs.s__law_pair ["_law_source_here", "_law_p", "_law_q", "_law_r"] := by
      refine' Cs.at_mk KX G ?a ?l ?c ?k ?b
      (case a => k_is)
      (case l => k_is)
      (case c => k_is)
      (case k => k_is)
      (case b => exact fun _ _ _ _ _ _ us hl => match us, hl with | [_, _, _, _], _ => rfl)
    have C_START : ∃ u, mg "START" = some u ∧ L2.RelV (.int 1) u := by
      refine' Cs.const_mk KX G ?a ?r
      (case a => k_is)
      (case r => exact ⟨_, rfl⟩)
    refine' Cs.law_mk ?a ?l ?c ?k ?b ?G2
    (case a => k_is)
    (case l => k_is)
    (case c => k_is)
    (case k => k_is)
    (case b => exact fun _ _ _ _ _ _ _ => rfl)
    (case G2 =>
      intro base f fd F
      have hM : ∃ C, Cs.MachAt (L2.KOf KX) mg C := by
        refine' Cs.mach_mk KX G ?aC ?pg ?hd ?po ?sa ?nR ?nF ?nV C_START ?mk ?kc ?m0 ?m1 ?m2 ?m3 ?m4 ?m5 ?m6 ?m7 ?m8 ?m9
        (case aC => ((try dsimp only [L2.KOf]); k_is))
        (case pg => ((try dsimp only [L2.KOf]); k_is))
        (case hd => ((try dsimp only [L2.KOf]); k_is))
        (case po => ((try dsimp only [L2.KOf]); k_is))
        (case sa => ((try dsimp only [L2.KOf]); k_is))
        (case nR => ((try dsimp only [L2.KOf]); k_is))
        (case nF => ((try dsimp only [L2.KOf]); k_is))
        (case nV => ((try dsimp only [L2.KOf]); k_is))
        (case mk => ((try dsimp only [L2.KOf]); k_is))
        (case kc => ((try dsimp only [L2.KOf]); k_is))
        (case m0 =>
          refine' Cs.atm_mk ?a ?i ?l ?c ?k ?b
          (case a => ((try dsimp only [L2.KOf]); k_is))
          (case i => ((try dsimp only [L2.KOf]); k_is))
          (case l => ((try dsimp only [L2.KOf]); k_is))
          (case c => ((try dsimp only [L2.KOf]); k_is))
          (case k => ((try dsimp only [L2.KOf]); k_is))
          (case b => exact fun _ _ _ _ _ _ us hl => match us, hl with | [_, _, _], _ => rfl))
        (case m1 =>
          refine' Cs.atm_mk ?a ?i ?l ?c ?k ?b
          (case a => ((try dsimp only [L2.KOf]); k_is))
          (case i => ((try dsimp only [L2.KOf]); k_is))
          (case l => ((try dsimp only [L2.KOf]); k_is))
          (case c => ((try dsimp only [L2.KOf]); k_is))
          (case k => ((try dsimp only [L2.KOf]); k_is))
          (case b => exact fun _ _ _ _ _ _ us hl => match us, hl with | [_, _, _], _ => rfl))
        (case m2 =>
          refine' Cs.atm_mk ?a ?i ?l ?c ?k ?b
          (case a => ((try dsimp only [L2.KOf]); k_is))
          (case i => ((try dsimp only [L2.KOf]); k_is))
          (case l => ((try dsimp only [L2.KOf]); k_is))
          (case c => ((try dsimp only [L2.KOf]); k_is))
          (case k => ((try dsimp only [L2.KOf]); k_is))
          (case b => exact fun _ _ _ _ _ _ us hl => match us, hl with | [_, _], _ => rfl))
        (case m3 =>
          refine' Cs.atm_mk ?a ?i ?l ?c ?k ?b
          (case a => ((try dsimp only [L2.KOf]); k_is))
          (case i => ((try dsimp only [L2.KOf]); k_is))
          (case l => ((try dsimp only [L2.KOf]); k_is))
          (case c => ((try dsimp only [L2.KOf]); k_is))
          (case k => ((try dsimp only [L2.KOf]); k_is))
          (case b => exact fun _ _ _ _ _ _ us hl => match us, hl with | [_, _], _ => rfl))
        (case m4 =>
          refine' Cs.atm_mk ?a ?i ?l ?c ?k ?b
          (case a => ((try dsimp only [L2.KOf]); k_is))
          (case i => ((try dsimp only [L2.KOf]); k_is))
          (case l => ((try dsimp only [L2.KOf]); k_is))
          (case c => ((try dsimp only [L2.KOf]); k_is))
          (case k => ((try dsimp only [L2.KOf]); k_is))
          (case b => exact fun _ _ _ _ _ _ us hl => match us, hl with | [_, _], _ => rfl))
        (case m5 =>
          refine' Cs.atm_mk ?a ?i ?l ?c ?k ?b
          (case a => ((try dsimp only [L2.KOf]); k_is))
          (case i => ((try dsimp only [L2.KOf]); k_is))
          (case l => ((try dsimp only [L2.KOf]); k_is))
          (case c => ((try dsimp only [L2.KOf]); k_is))
          (case k => ((try dsimp only [L2.KOf]); k_is))
          (case b => exact fun _ _ _ _ _ _ us hl => match us, hl with | [_, _], _ => rfl))
        (case m6 =>
          refine' Cs.atm_mk ?a ?i ?l ?c ?k ?b
          (case a => ((try dsimp only [L2.KOf]); k_is))
          (case i => ((try dsimp only [L2.KOf]); k_is))
          (case l => ((try dsimp only [L2.KOf]); k_is))
          (case c => ((try dsimp only [L2.KOf]); k_is))
          (case k => ((try dsimp only [L2.KOf]); k_is))
          (case b => exact fun _ _ _ _ _ _ us hl => match us, hl with | [_, _, _, _], _ => rfl))
        (case m7 =>
          refine' Cs.atm_mk ?a ?i ?l ?c ?k ?b
          (case a => ((try dsimp only [L2.KOf]); k_is))
          (case i => ((try dsimp only [L2.KOf]); k_is))
          (case l => ((try dsimp only [L2.KOf]); k_is))
          (case c => ((try dsimp only [L2.KOf]); k_is))
          (case k => ((try dsimp only [L2.KOf]); k_is))
          (case b => exact fun _ _ _ _ _ _ us hl => match us, hl with | [_, _], _ => rfl))
        (case m8 =>
          refine' Cs.atm_mk ?a ?i ?l ?c ?k ?b
          (case a => ((try dsimp only [L2.KOf]); k_is))
          (case i => ((try dsimp only [L2.KOf]); k_is))
          (case l => ((try dsimp only [L2.KOf]); k_is))
          (case c => ((try dsimp only [L2.KOf]); k_is))
          (case k => ((try dsimp only [L2.KOf]); k_is))
          (case b => exact fun _ _ _ _ _ _ us hl => match us, hl with | [_, _], _ => rfl))
        (case m9 =>
          refine' Cs.atm_mk ?a ?i ?l ?c ?k ?b
          (case a => ((try dsimp only [L2.KOf]); k_is))
          (case i => ((try dsimp only [L2.KOf]); k_is))
          (case l => ((try dsimp only [L2.KOf]); k_is))
          (case c => ((try dsimp only [L2.KOf]); k_is))
          (case k => ((try dsimp only [L2.KOf]); k_is))
          (case b => exact fun _ _ _ _ _ _ us hl => match us, hl with | [_, _, _], _ => rfl))
      have hI : ∃ CI, Cs.NewAt PySem.Challenge.rw_cutscribe_k04_whole_matching_rules.prog w (L2.KOf KX) mg base "InvalidText" CI ["position"] := by
        refine' Exists.intro _ ?newI
        (case newI =>
          refine' Cs.new_mk (st := Cs.s_i_InvalidText) (qn := "InvalidText.__init__") (ps := ["self", "position"]) (PySem.W.mg_of KX G ?g) ?o ?r ?sa ?tC ?e ?iC ?tI ?l ?c ?k ?b ?ok
          (case g => ((try dsimp only [L2.KOf]); k_is))
          (case o => ((try dsimp only [L2.KOf]); k_is))
          (case r => decide +kernel)
          (case sa => ((try dsimp only [L2.KOf]); k_is))
          (case tC => ((try dsimp only [L2.KOf]); k_is))
          (case e =>
            (try dsimp only [L2.KOf])
            refine Cs.eB_mk ?_ ?_ ?_ ?_ ?_ ?_ ?_ ?_ ?_
            all_goals k_is)
          (case iC => ((try dsimp only [L2.KOf]); k_is))
          (case tI => ((try dsimp only [L2.KOf]); k_is))
          (case l => ((try dsimp only [L2.KOf]); k_is))
          (case c => ((try dsimp only [L2.KOf]); k_is))
          (case k => ((try dsimp only [L2.KOf]); k_is))
          (case b => exact fun _ _ _ _ _ _ us hl => match us, hl with | [_, _], _ => rfl)
          (case ok => exact fun hO _ _ F => Cs.ok_i_InvalidText hO (by ((try dsimp only [L2.KOf]); k_is)) F))
      obtain ⟨C, M⟩ := hM
      obtain ⟨CI, NI⟩ := hI
      have Gd := Cs.ok_draw (P := PySem.Challenge.rw_cutscribe_k04_whole_matching_rules.prog) (w := w) (base := base) A__law_draw
      have Gs := Cs.ok_source (P := PySem.Challenge.rw_cutscribe_k04_whole_matching_rules.prog) (w := w) (base := base) B A__law_source
      have Ga := Cs.ok_alphabet B Gd A__law_alphabet
      have Gse := Cs.ok_set B Gd A__law_set
      have Gr := Cs.ok_row B Gse A__law_row
      have Gpt := Cs.ok_part Gd Gse Gr A__law_part
      have Gpr := Cs.ok_pair B Gd A__law_pair
      have Gsh := Cs.ok_short (P := PySem.Challenge.rw_cutscribe_k04_whole_matching_rules.prog) (w := w) (base := base) B A__law_short_texts
      have Gtx := Cs.ok_text B Gd A__law_text
      have Gma := Cs.matches_all (P := PySem.Challenge.rw_cutscribe_k04_whole_matching_rules.prog) (w := w) (base := base) B M A__choice A__holds NI A_check_text A_matches
      exact Cs.ok_law B Gs Ga Gd Gpt Gpr Gsh Gtx (by decide) Gma F)
#print axioms PySem.Challenge.cw_cutscribe_k04_whole_matching_rules_holds
