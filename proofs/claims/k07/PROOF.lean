import PyProof.Rows.All
import Wide.All
import OpenK.AllK
import Wide.FinOn
import HandS.ForMost
import HandS.Flow
import HandS.TupAny
import HandS.TupMul
import HandS.Conv
import HandS.IsInst
import HandS.Strs
import HandS.SetFor
import HandS.ExcInit
import HandS.ExcValue
import HandS.ExcIs
import HandS.ExcField
import KE.KExcIs
import HandS.Style
import HandS.DictComp
import KE.KDictKeyed
import KE.KDictLaws
import KE.KTupTabMore
import HandS.SetKeys
import HandS.TupLen
import HandS.WordsDict
import PyProof.ZipIter
import PyProof.ListNew
import PyProof.CollectWalk
import KE.KDictList
import KE.KLam
import HandS.Lambda
import HandS.Nested
import PyProof.Cells
import HandS.Small
import HandS.WordsExc
import HandS.EndTab
import KE.KNestM
import HandS.Defaults
import PySem.Challenge.RW_cutscribe_k07_automata_at_the_limit
set_option Elab.async false
set_option linter.all false
set_option maxRecDepth 100000
set_option maxHeartbeats 4000000
/-! What every law of this place leans on: callees by name, readings step by step, the heap beside the source of draws. -/
namespace Cs
open PySem L2
open PyProof.Rows (envOfC)

/-! ### callees -/
structure At (K : PySem.W.Frag) (mg : Str → Option Value) (x : Str) (st : Stmt) (ps : List Str) : Prop where
  ex : ∃ f fd, Fun K x x st f fd ∧ mg x = some (.ref f) ∧ Binds K fd ps []
structure Cal (P : Program) (w : World) (K : PySem.W.Frag) (mg : Str → Option Value) (base : Heap) (k : Nat) (x : Str) (ps : List Str) (sp : Sp) : Prop where
  ex : ∃ f fd, mg x = some (.ref f) ∧ PySem.W.keepIn K (.ref f) = true ∧ Binds K fd ps [] ∧ FnOk P w K mg base CX0 k f fd ps sp
section
variable {P : Program} {w : World} {K : PySem.W.Frag} {mg : Str → Option Value} {base : Heap}
theorem Cal.mono {j k : Nat} {x : Str} {ps : List Str} {sp : Sp} (C : Cal P w K mg base j x ps sp) (h : j ≤ k) : Cal P w K mg base k x ps sp := by
  obtain ⟨f, fd, a, b, c, d⟩ := C.ex
  exact ⟨f, fd, a, b, c, d.mono h⟩
theorem Cal.imp {k : Nat} {x : Str} {ps : List Str} {sp sp' : Sp} (C : Cal P w K mg base k x ps sp) (h : ∀ vs H Q E, sp' vs H Q E → sp vs H Q E) : Cal P w K mg base k x ps sp' := by
  obtain ⟨f, fd, a, b, c, d⟩ := C.ex
  exact ⟨f, fd, a, b, c, d.imp h⟩
theorem At.ok {x : Str} {st : Stmt} {N ps : List Str} {k : Nat} {sp : Sp} (F : At K mg x st ps) (S : FnScope N ps (defScope st)) (len : ∀ vs H Q E, sp vs H Q E → vs.length = ps.length)
    (hbody : ∀ (f : Addr) (cdv : Value) (A : Around) (outer : List Env) (s : Shared) (H : Hp) (vs : List V) (Q : VK) (E : XK), Room k (A.deeper (envOfC x (defScope st) s.heap.objs.size f cdv)) → sp vs H Q E →
      ∃ t, PSs (cxOf CX0 P w K mg base N x (defScope st) f cdv A outer s H E).nox (defBody st) t ∧ t { nx := fun _ H' => Q .non H', rt := Q } (start N vs) H) : Cal P w K mg base (k + 1) x ps sp := by
  obtain ⟨f, fd, F, m, b⟩ := F.ex
  exact ⟨f, fd, m, F.kp, b, F.ok S len (hbody f)⟩
end
section
variable {X : Cx} {k : Nat} {x : Str} {ps : List Str} {sp : Sp} {p pos : Pos} {e : Expr} {es : List Expr} {t : TA}
theorem pe_c (C : Cal X.prog X.w X.K X.mg X.base k x ps sp) (hr : Room k X.A) (ha : PA X (e :: es) t) (hg : Gl X x := by rfl) (hdb : (x == ("__debug__" : Str)) = false := by decide) (he : starEach (e :: es) X.env = (false, eval e X.env) :: starEach es X.env := by rfl)
    (hpl : (backTo pos (starEach es X.env)).any (·.1) = false := by rfl) : PE X (.Call (.Name x p) (e :: es) [] pos) (tCall sp [] E0 t) := by
  obtain ⟨f, fd, hm, hk, hb, F⟩ := C.ex
  exact pe_call F hr hg hm hk hb .nil pass0 ha hdb he hpl
end

/-- a built-in class as a value -/
theorem pe_ty {X : Cx} {x : Str} {T : String} {pos : Pos} (hm : X.mg x = none) (hv : bootBuiltins x = some (.type T)) (hg : Gl X x := by rfl) (hn : x ≠ "__name__" := by decide) (hd : (x == ("__debug__" : Str)) = false := by decide) : PE X (.Name x pos) (tC (.ty T)) := pe_bltn hg hm hv rfl hn hd
/-- a module's constant -/
theorem pe_k {X : Cx} {x : Str} {v : V} {pos : Pos} (h : ∃ u, X.mg x = some u ∧ RelV v u) (hg : Gl X x := by rfl) (hd : (x == ("__debug__" : Str)) = false := by decide) : PE X (.Name x pos) (tC v) := by
  obtain ⟨u, hm, r⟩ := h
  exact pe_glob hg hm r hd

/-! ### the rules whose reading names the written part, with that part given: within a comprehension's block it must not lean on the block -/
section
variable {X : Cx} {K : PySem.W.Frag} {tg : Expr}
def rLenQ (K : PySem.W.Frag) : List V → Hp → VK → Prop := fun xs H Q => ∃ p ys, xs = [.ref p] ∧ (SqL K H p ys ∨ SqT K H p ys) ∧ Q (.int ys.length) H
def rTupOf (K : PySem.W.Frag) : List V → Hp → VK → Prop := fun xs H Q => ∃ p ys, xs = [.ref p] ∧ ((SqL K H p ys ∧ ∀ l, H l = none → Q (.ref l) (upd H l (.tup ys))) ∨ (SqT K H p ys ∧ Q (.ref p) H))
def rLstOf (K : PySem.W.Frag) : List V → Hp → VK → Prop := fun xs H Q => ∃ p ys, xs = [.ref p] ∧ (SqL K H p ys ∨ SqT K H p ys) ∧ ∀ l, H l = none → Q (.ref l) (upd H l (.lst ys))
theorem call_len_seqK (h : X.K = K) : CallR X (.builtin "len") (rLenQ K) := by subst h; exact call_len_seq
theorem call_tuple_ofK (h : X.K = K) : CallR X (.type "tuple") (rTupOf K) := by subst h; exact call_tuple_of
theorem call_list_ofK (h : X.K = K) : CallR X (.type "list") (rLstOf K) := by subst h; exact call_list_of
theorem call_isiK' (h : X.K = K) : CallR X (.builtin "isinstance") (rIsi K) := by subst h; exact call_isi
theorem ix_listK (h : X.K = K) : IxR X (rIxL K) := by subst h; exact ix_list
theorem ix_tupK (h : X.K = K) : IxR X (rIxT K) := by subst h; exact ix_tup
theorem op_in_seqK (h : X.K = K) : OpR X (compareOp .In) (rIn K false) := by subst h; exact op_in_seq
theorem op_notIn_seqK (h : X.K = K) : OpR X (compareOp .NotIn) (rIn K true) := by subst h; exact op_notIn_seq
theorem op_eqDK (h : X.K = K) (hu : X.A.units + 64 < cLine) : OpR X (compareOp .Eq) (rEqD K) := by subst h; exact op_eqD hu
theorem op_neDK (h : X.K = K) (hu : X.A.units + 64 < cLine) : OpR X (compareOp .NotEq) (rNeD K) := by subst h; exact op_neD hu
theorem op_catTK (h : X.K = K) : OpR X (binaryOp .Add) (rCatT K) := by subst h; exact op_catT
theorem sl_listK (h : X.K = K) : SlR X (rSlL K) := by subst h; exact sl_list
theorem sl_tupAK (h : X.K = K) : SlR X (rSlA K) := by subst h; exact sl_tupA
theorem cr_sumK (h : X.K = K) (hc : X.calm = true) : CallR X (.builtin "sum") (rSum K) := by subst h; exact cr_sum hc
theorem cr_allK (h : X.K = K) (hc : X.calm = true) : CallR X (.builtin "all") (rAll K) := by subst h; exact cr_all hc
theorem cr_anyK (h : X.K = K) (hc : X.calm = true) : CallR X (.builtin "any") (rAny K) := by subst h; exact cr_any hc
theorem mt_indexK (h : X.K = K) : MtR X "list.index" (rIndex K) := by subst h; exact mt_index
theorem pi_listK {l : Expr} {tl : TE} (h : X.K = K) (hl : PE X l tl) : PI X tg l (iList K tl) := by subst h; exact pi_list hl
theorem pi_tupK {l : Expr} {tl : TE} (h : X.K = K) (hl : PE X l tl) : PI X tg l (iTup K tl) := by subst h; exact pi_tup hl
theorem pg_tupK {es : List Expr} {k : Nat} {t : TGs} {n : Nat} {pos : Pos} (hK : X.K = K) (hc : X.calm = true) (h : PGs X es t)
    (hn : (assignEach es X.env).length = n := by rfl) (hst : (assignEach es X.env).findIdx? (·.1) = none := by rfl) : PG X (.Tuple es k pos) (gTup K n t) := by subst hK; exact pg_tup hc h hn hst
def tTruth (K : PySem.W.Frag) (ta : TE) : TT := fun σ H Q => ta σ H fun x H' => ∃ k, TruV K x H' k ∧ Q k H'
theorem pt_truthK {a : Expr} {ta : TE} (h : X.K = K) (ha : PE X a ta) (he : ∀ whole, isTrue a X.env whole = (do let v ← whole; standAt a.pos; holding [v] (truthy v)) := by intro _; rfl) : PT X a (tTruth K ta) := by subst h; exact pt_truth ha he
variable {o e : Expr} {es : List Expr} {to te : TE} {t : TA} {name : Str} {apos cpos pos : Pos} {T id : String} {r : V → List V → Hp → VK → Prop}
theorem pe_bm0K (h : X.K = K) (pa : PlainAttrs T) (slot : Slot T name id) (hty : typeOf (.builtin id) = pure (.type "method_descriptor")) (hm : MtR X id r) (ho : PE X o to)
    (hbase : attributeBase o name X.env (eval o X.env) = eval o X.env := by rfl) (hline : (apos.endLine == cpos.line) = true := by rfl) : PE X (.Call (.Attribute o name apos) [] [] cpos) (tBM0 K T r to) := by subst h; exact pe_bm0 pa slot hty hm ho hbase hline
theorem pe_bmK (h : X.K = K) (pa : PlainAttrs T) (slot : Slot T name id) (hty : typeOf (.builtin id) = pure (.type "method_descriptor")) (hm : MtR X id r) (ho : PE X o to) (ha : PA X (e :: es) t)
    (hbase : attributeBase o name X.env (eval o X.env) = eval o X.env := by rfl)
    (hfew : ((backTo cpos (starEach (e :: es) X.env)).all (fun x => !x.1) && (backToKw cpos (keywordEach [] X.env)).all (fun x => x.1.isSome)
      && decide ((e :: es).length + ([] : List Keyword).length + (if ([] : List Keyword).isEmpty then 0 else 1) < 30)) = true := by rfl)
    (hline : (apos.endLine == cpos.line) = true := by rfl) (hs : starEach (e :: es) X.env = (false, eval e X.env) :: starEach es X.env := by rfl) (hplain : (backTo cpos (starEach es X.env)).any (·.1) = false := by rfl) :
    PE X (.Call (.Attribute o name apos) (e :: es) [] cpos) (tBM K T r to t) := by subst h; exact pe_bm pa slot hty hm ho ha hbase hfew hline hs hplain
def rJoin (K : PySem.W.Frag) : V → List V → Hp → VK → Prop := fun x xs H Q => ∃ a p, ∃ ys : List Str, x = .str a ∧ xs = [.ref p] ∧ (SqL K H p (ys.map V.str) ∨ SqT K H p (ys.map V.str)) ∧ (ys.map (·.length)).sum + ys.length * a.length ≤ 16777216 ∧ Q (.str (Txt.join a ys)) H
theorem pe_joinK (h : X.K = K) (ho : PE X o to) (he : PE X e te) (hs : starEach [e] X.env = [(false, eval e X.env)] := by rfl) (hbase : attributeBase o "join" X.env (eval o X.env) = eval o X.env := by rfl) (hline : (apos.endLine == pos.line) = true := by rfl) :
    PE X (.Call (.Attribute o "join" apos) [e] [] pos) (tM1 (rJoin K) to te) := by subst h; exact pe_join ho he hs hbase hline
end

/-! ### readings, step by step -/
section
variable {σ : St} {H : Hp} {D : Ends} {Q : VK} {t u : TS} {te ta tb tc : TE} {v x y : V} {i : Nat} {tt c c2 : TT} {tas : TA} {K : PySem.W.Frag}
theorem rd_seq (h : t { D with nx := u D } σ H) : tSeq t u D σ H := h
theorem rd_next (h : D.nx σ H) : tNext D σ H := h
theorem rd_asg {g : TG} (h : te σ H fun x H1 => g x σ H1 D.nx) : tAsg te g D σ H := h
theorem rd_gname {R : St → Hp → Prop} (h : R (σ.set i (some v)) H) : gName i v σ H R := h
theorem rd_var (e : σ[i]? = some (some v)) (q : Q v H) : tVar i σ H Q := ⟨v, e, q⟩
theorem rd_c (q : Q v H) : tC v σ H Q := q
theorem rd_op {r : R2} (h : ta σ H fun x H1 => tb σ H1 fun y H2 => r x y H2 Q) : tOp r ta tb σ H Q := h
theorem rd_un {r : V → Hp → VK → Prop} (h : ta σ H fun x H1 => r x H1 Q) : tUn r ta σ H Q := h
theorem rd_test {R : Bool → Hp → Prop} (h : te σ H fun x H' => ∃ k, x = .bl k ∧ R k H') : tTest te σ H R := h
theorem rd_tB {R : Bool → Hp → Prop} (h : te σ H fun x H' => ∃ k, x = .bl k ∧ R k H') : tB te σ H R := h
theorem rd_bl {b : Bool} {R : Bool → Prop} (q : R b) : ∃ k, V.bl b = .bl k ∧ R k := ⟨b, rfl, q⟩
theorem rd_ifs (h : c σ H fun b H1 => if b = true then t D σ H1 else u D σ H1) : tIfS c t u D σ H := h
theorem rd_ret (h : te σ H D.rt) : tRet te D σ H := h
theorem rd_retN (h : D.rt .non H) : tRetN D σ H := h
theorem rd_drop (h : te σ H fun _ H1 => D.nx σ H1) : tDrop te D σ H := h
theorem rd_nil {R : List V → Hp → Prop} (h : R [] H) : tNil σ H R := h
theorem rd_cons {R : List V → Hp → Prop} (h : te σ H fun x H1 => tas σ H1 fun xs H2 => R (x :: xs) H2) : tCons te tas σ H R := h
/-- a new object at any free place -/
def New (H : Hp) (o : HO) (R : Addr → Hp → Prop) : Prop := ∀ p, H p = none → R p (upd H p o)
theorem rd_tup (h : tas σ H fun xs H1 => xs.length ≤ sizeLine ∧ New H1 (.tup xs) fun p H2 => Q (.ref p) H2) : tTup tas σ H Q := h
theorem rd_lst (h : tas σ H fun xs H1 => xs.length ≤ sizeLine ∧ New H1 (.lst xs) fun p H2 => Q (.ref p) H2) : tLst tas σ H Q := h
theorem rd_catT {a b : Addr} {xs ys : List V} (h1 : SqT K H a xs) (h2 : SqT K H b ys) (h3 : xs ≠ []) (h4 : xs.length + ys.length ≤ sizeLine) (q1 : ys = [] → Q (.ref a) H) (q2 : ys ≠ [] → New H (.tup (xs ++ ys)) fun p H2 => Q (.ref p) H2) : rCatT K (.ref a) (.ref b) H Q := ⟨a, b, xs, ys, rfl, rfl, h1, h2, h3, h4, q1, q2⟩
theorem rd_tupl {a : Addr} {xs : List V} (h : SqL K H a xs) (q : New H (.tup xs) fun p H2 => Q (.ref p) H2) : rTupOf K [V.ref a] H Q := ⟨a, xs, rfl, .inl ⟨h, q⟩⟩
theorem rd_tupt {a : Addr} {xs : List V} (h : SqT K H a xs) (q : Q (.ref a) H) : rTupOf K [V.ref a] H Q := ⟨a, xs, rfl, .inr ⟨h, q⟩⟩
theorem rd_lstof {a : Addr} {xs : List V} (h : SqL K H a xs ∨ SqT K H a xs) (q : New H (.lst xs) fun p H2 => Q (.ref p) H2) : rLstOf K [V.ref a] H Q := ⟨a, xs, rfl, h, q⟩
theorem rd_cb {r : List V → Hp → VK → Prop} (h : tas σ H fun vs H1 => r vs H1 Q) : tCB r tas σ H Q := h
theorem rd_call {sp : Sp} {E : XK} (h : tas σ H fun vs H1 => sp (vs ++ []) H1 Q E) : tCall sp [] E tas σ H Q := h
theorem rd_and {R : Bool → Hp → Prop} (h : c σ H fun b H1 => if b = true then c2 σ H1 R else R false H1) : tAnd c c2 σ H R := h
theorem rd_or {R : Bool → Hp → Prop} (h : c σ H fun b H1 => if b = true then R true H1 else c2 σ H1 R) : tOr c c2 σ H R := h
theorem rd_not {R : Bool → Hp → Prop} (h : c σ H fun b H1 => R (!b) H1) : tNot c σ H R := h
theorem rd_andV (h : ta σ H fun x H1 => ∃ c, x = .bl c ∧ if c = true then tb σ H1 Q else Q (.bl false) H1) : tAndV ta tb σ H Q := h
theorem rd_orV (h : ta σ H fun x H1 => ∃ c, x = .bl c ∧ if c = true then Q (.bl true) H1 else tb σ H1 Q) : tOrV ta tb σ H Q := h
theorem rd_notV (h : ta σ H fun x H1 => ∃ c, x = .bl c ∧ Q (.bl (!c)) H1) : tNotV ta σ H Q := h
theorem rd_ife (h : c σ H fun b H1 => if b = true then ta σ H1 Q else tb σ H1 Q) : tIf c ta tb σ H Q := h
theorem rd_bm0 {T : String} {r : V → List V → Hp → VK → Prop} (h : te σ H fun x H1 => tyV K T x H1 ∧ r x [] H1 Q) : tBM0 K T r te σ H Q := h
theorem rd_bm {T : String} {r : V → List V → Hp → VK → Prop} (h : te σ H fun x H1 => tyV K T x H1 ∧ tas σ H1 fun xs H2 => r x xs H2 Q) : tBM K T r te tas σ H Q := h
theorem rd_gsub {to ti : TE} {s : TSet} {R : St → Hp → Prop} (h : to σ H fun o H1 => ti σ H1 fun i H2 => s o i v H2 fun H3 => R σ H3) : gSub to ti s v σ H R := h
theorem rd_i0 {g : Int → Int → V} {a b : Int} (q : Q (g a b) H) : rI0 g (.int a) (.int b) H Q := ⟨a, b, rfl, rfl, q⟩
theorem rd_i {C : Int → Int → Prop} {g : Int → Int → V} {a b : Int} (h : C a b) (q : Q (g a b) H) : rI C g (.int a) (.int b) H Q := ⟨a, b, rfl, rfl, h, q⟩
theorem rd_eq (h : scal x y = true) (q : Q (.bl (decide (x = y))) H) : rEq x y H Q := ⟨h, q⟩
theorem rd_ne (h : scal x y = true) (q : Q (.bl (!decide (x = y))) H) : rNe x y H Q := ⟨h, q⟩
theorem rd_ixl {a : Addr} {xs : List V} {n : Int} (h : SqL K H a xs) (e : atI xs n = some v) (q : Q v H) : rIxL K (.ref a) (.int n) H Q := ⟨a, xs, n, v, rfl, rfl, h, e, q⟩
theorem rd_ixt {a : Addr} {xs : List V} {n : Int} (h : SqT K H a xs) (e : atI xs n = some v) (q : Q v H) : rIxT K (.ref a) (.int n) H Q := ⟨a, xs, n, v, rfl, rfl, h, e, q⟩
theorem rd_setl {a : Addr} {xs : List V} {n : Int} {j : Nat} {R : Hp → Prop} (h : H a = some (.lst xs)) (e : ixN xs.length n = some j) (q : R (upd H a (.lst (xs.set j v)))) : rSetL (.ref a) (.int n) v H R := ⟨a, xs, n, j, rfl, rfl, h, e, q⟩
theorem rd_m1 {r : V → List V → Hp → VK → Prop} (h : ta σ H fun x H1 => (∃ a, x = .str a) ∧ tb σ H1 fun y H2 => r x [y] H2 Q) : tM1 r ta tb σ H Q := h
theorem rd_gtup {n : Nat} {a : Addr} {xs : List V} {ts : TGs} {R : St → Hp → Prop} (h : SqT K H a xs) (e : xs.length = n) (q : ts xs σ H R) : gTup K n ts (.ref a) σ H R := ⟨a, xs, rfl, h, e, q⟩
theorem rd_gcons {g : TG} {ts : TGs} {vs : List V} {R : St → Hp → Prop} (q : g v σ H fun σ' H' => ts vs σ' H' R) : gCons g ts (v :: vs) σ H R := ⟨v, vs, rfl, q⟩
theorem rd_gnil {R : St → Hp → Prop} (q : R σ H) : gNil [] σ H R := ⟨rfl, q⟩
theorem rd_truth {R : Bool → Hp → Prop} (h : te σ H fun x H' => ∃ k, TruV K x H' k ∧ R k H') : tTruth K te σ H R := h
theorem rd_yes {R : Bool → Hp → Prop} (h : R true H) : tYes σ H R := h
theorem rd_sl {r : V → Option Int → Option Int → Hp → VK → Prop} {tl th : TO} (h : te σ H fun x H1 => tl σ H1 fun l H2 => th σ H2 fun u H3 => r x l u H3 Q) : tSl r te tl th σ H Q := h
theorem rd_nopart {R : Option Int → Hp → Prop} (h : R none H) : tNoPart σ H R := h
theorem rd_part {R : Option Int → Hp → Prop} (h : te σ H fun x H1 => ∃ i, x = .int i ∧ R (some i) H1) : tPart te σ H R := h
theorem rd_int {n : Int} {R : Int → Prop} (q : R n) : ∃ k, V.int n = .int k ∧ R k := ⟨n, rfl, q⟩
theorem rd_strx {z : Str} {R : Prop} (q : R) : (∃ a, V.str z = .str a) ∧ R := ⟨⟨z, rfl⟩, q⟩
theorem rd_len {a : Addr} {xs : List V} (h : SqL K H a xs ∨ SqT K H a xs) (q : Q (.int xs.length) H) : rLenQ K [V.ref a] H Q := ⟨a, xs, rfl, h, q⟩
theorem rd_isi {v c : V} {tv u : Value} {b : Bool} (h1 : ClsV c u) (h2 : TyX K H v tv) (h3 : PySem.W.kitOne K tv u = some b) (q : Q (.bl b) H) : rIsi K [v, c] H Q := ⟨v, c, tv, u, b, rfl, h1, h2, h3, q⟩
theorem rd_in {x : V} {p : Addr} {xs : List V} {neg : Bool} (h : SqL K H p xs ∨ SqT K H p xs) (fx : flatV x = true) (fs : xs.all flatV = true) (q : Q (.bl (if neg then !inV x xs else inV x xs)) H) : rIn K neg x (.ref p) H Q := ⟨p, xs, rfl, h, fx, fs, q⟩
theorem rd_sla {a : Addr} {xs : List V} {lo hi : Option Int} (h : SqT K H a xs) (q1 : HT.sIx xs.length 0 lo = 0 ∧ HT.sIx xs.length xs.length hi = xs.length → Q (.ref a) H) (q2 : ¬ (HT.sIx xs.length 0 lo = 0 ∧ HT.sIx xs.length xs.length hi = xs.length) → New H (.tup (cutV xs lo hi)) fun p H2 => Q (.ref p) H2) : rSlA K (.ref a) lo hi H Q := ⟨a, xs, rfl, h, q1, q2⟩
theorem rd_sum {a : Addr} {ns : List Int} (h : SqL K H a (ns.map V.int)) (q : Q (.int ns.sum) H) : rSum K [V.ref a] H Q := ⟨a, ns, rfl, h, q⟩
theorem rd_all {a : Addr} {ns : List Bool} (h : SqL K H a (ns.map V.bl)) (q : Q (.bl (ns.all id)) H) : rAll K [V.ref a] H Q := ⟨a, ns, rfl, h, q⟩
theorem rd_any {a : Addr} {ns : List Bool} (h : SqL K H a (ns.map V.bl)) (q : Q (.bl (ns.any id)) H) : rAny K [V.ref a] H Q := ⟨a, ns, rfl, h, q⟩
theorem rd_chain {r r' : R2} (h : ta σ H fun x H1 => tb σ H1 fun y H2 => r x y H2 fun z H3 => ∃ k, z = .bl k ∧ (if k = true then tc σ H3 fun w' H4 => r' y w' H4 Q else Q (.bl false) H3)) : tChain r r' ta tb tc σ H Q := h
theorem rd_rng1 {R : It → Hp → Prop} (h : tas σ H fun vs H1 => ∃ j : Int, vs = [.int j] ∧ -(2 ^ 62) ≤ j ∧ j < 2 ^ 62 ∧ R (Itr 0 j.toNat) H1) : iRng1 tas σ H R := h
theorem rd_rng1j {n : Int} {R : Int → Prop} (h1 : -(2 ^ 62) ≤ n) (h2 : n < 2 ^ 62) (q : R n) : ∃ j : Int, ([V.int n] : List V) = [.int j] ∧ -(2 ^ 62) ≤ j ∧ j < 2 ^ 62 ∧ R j := ⟨n, rfl, h1, h2, q⟩
theorem rd_ilist {R : It → Hp → Prop} (h : te σ H fun x H1 => ∃ a, x = .ref a ∧ (∃ xs, SqL K H1 a xs) ∧ R (Itl K a) H1) : iList K te σ H R := h
theorem rd_itup {R : It → Hp → Prop} (h : te σ H fun x H1 => ∃ a, x = .ref a ∧ (∃ xs, SqT K H1 a xs) ∧ R (Itt K a) H1) : iTup K te σ H R := h
theorem rd_istr {R : It → Hp → Prop} (h : te σ H fun v H1 => ∃ x, v = .str x ∧ R (Its x) H1) : iStr te σ H R := h
theorem rd_strj {z : Str} {R : Str → Prop} (q : R z) : ∃ x, V.str z = .str x ∧ R x := ⟨z, rfl, q⟩
theorem rd_lc {wi : TI} {g : TG} {vs : List Nat} (h : wi σ H fun J H1 => ∀ D, H1 D = none → ∃ W : Nat → Nat → Hp → Prop, (∃ m, W 0 m (upd H1 D (.lst []))) ∧ ∀ i m H, W i m H →
  (J.stop i H ∧ Q (.ref D) H) ∨ (J.go i H ∧ ∃ Nx : Hp → Prop, (∀ H', Nx H' → ∃ m', m' < m ∧ W (i + 1) m' H') ∧ ∀ x H', J.yld i H x H' → g x (wipe σ vs) H' fun σ2 H2 => wipe σ2 vs = wipe σ vs ∧ tt σ2 H2 fun b H3 =>
    if b = true then te σ2 H3 fun y H4 => ∃ acc, H4 D = some (.lst acc) ∧ acc.length < sizeLine ∧ Nx (upd H4 D (.lst (acc ++ [y]))) else Nx H3)) : tLc wi g tt te vs σ H Q := h
theorem rd_for {wi : TI} {g : TG} (h : wi σ H fun J H1 => ∃ W : Nat → Nat → St → Hp → Prop, (∃ m, W 0 m σ H1) ∧ ∀ i m σ H, W i m σ H →
  (J.stop i H ∧ D.nx σ H) ∨ (J.go i H ∧ ∃ N : St → Hp → Prop, (∀ σ' H', N σ' H' → ∃ m', m' < m ∧ W (i + 1) m' σ' H') ∧ ∀ x H', J.yld i H x H' → g x σ H' fun σ2 H2 => t { D with nx := N, ct := N, bk := D.nx } σ2 H2)) : tFor wi g t D σ H := h
theorem rd_par {i j : Nat} (h : tas σ H fun vs H1 => ∃ v w, vs = [v, w] ∧ D.nx ((σ.set i (some v)).set j (some w)) H1) : tPar i j tas D σ H := h
theorem rd_parj {a b : V} {R : V → V → Prop} (q : R a b) : ∃ v w, ([a, b] : List V) = [v, w] ∧ R v w := ⟨a, b, rfl, q⟩
theorem rd_aug {ti : TIp} (e : σ[i]? = some (some x)) (h : te σ H fun y H1 => ti x y H1 fun z H2 => D.nx (σ.set i (some z)) H2) : tAug i te ti D σ H := ⟨x, e, h⟩
theorem rd_ipi {g : Int → Int → Int} {a b : Int} (q : Q (.int (g a b)) H) : ipI g (.int a) (.int b) H Q := ⟨a, b, rfl, rfl, q⟩
/-- while, by an invariant that bears a measure -/
theorem rd_while {m0 : Nat} (W : Nat → St → Hp → Prop) (w0 : W m0 σ H) (hs : ∀ m σ H, W m σ H → c σ H fun b H1 => if b = true then t { D with nx := fun σ' H' => ∃ m', m' < m ∧ W m' σ' H', ct := fun σ' H' => ∃ m', m' < m ∧ W m' σ' H', bk := D.nx } σ H1 else D.nx σ H1)
    (mono : ∀ σ H Q Q', (∀ b H1, Q b H1 → Q' b H1) → c σ H Q → c σ H Q') : tWhile c t D σ H := by
  refine ⟨W, ⟨m0, w0⟩, fun m σ H h => ?_⟩
  refine mono σ H _ _ (fun b H1 q => ?_) (hs m σ H h)
  cases b with
  | true => exact ⟨_, fun σ' H' z => z, q⟩
  | false => exact q
/-- a new object: what is said of the heap behind it -/
theorem rd_new {o : HO} {R : Addr → Hp → Prop} (k : ∀ p H', H p = none → H' p = some o → Same H H' → R p H') : New H o R := fun p hp =>
  k p _ hp upd_same fun b ob e => by rw [upd_ne (ne_of_none e hp)]; exact e
end
/-! ### the heap beside one list -/
def hid (a : Addr) (H : Hp) : Hp := fun b => if b = a then none else H b
theorem hid_ne {a b : Addr} {H : Hp} (h : b ≠ a) : hid a H b = H b := by unfold hid; rw [if_neg h]
theorem hid_sub {a b : Addr} {H : Hp} {o : HO} (h : hid a H b = some o) : b ≠ a ∧ H b = some o := by
  unfold hid at h
  by_cases e : b = a
  · rw [if_pos e] at h; cases h
  · rw [if_neg e] at h; exact ⟨e, h⟩
theorem hid_le {a : Addr} {H : Hp} : Same (hid a H) H := fun _ _ h => (hid_sub h).2
/-- all but a is kept -/
def Kp (a : Addr) (H H' : Hp) : Prop := Same (hid a H) (hid a H')
theorem Kp.refl {a : Addr} {H : Hp} : Kp a H H := Same.refl _
theorem Kp.trans {a : Addr} {H H1 H2 : Hp} (x : Kp a H H1) (y : Kp a H1 H2) : Kp a H H2 := Same.trans x y
theorem Kp.of {a : Addr} {H H' : Hp} (s : Same H H') : Kp a H H' := fun b o e => by
  obtain ⟨n, e⟩ := hid_sub e
  rw [hid_ne n]; exact s b o e
theorem Kp.set {a : Addr} {H : Hp} {o : HO} : Kp a H (upd H a o) := fun b u e => by
  obtain ⟨n, e⟩ := hid_sub e
  rw [hid_ne n, upd_ne n]; exact e
theorem Kp.at {a b : Addr} {H H' : Hp} {o : HO} (k : Kp a H H') (n : b ≠ a) (e : H b = some o) : H' b = some o := by
  have q : hid a H b = some o := by rw [hid_ne n]; exact e
  exact (hid_sub (k b o q)).2
theorem Same.seqT {K : PySem.W.Frag} {H H' : Hp} {a : Addr} {xs : List V} (e : Same H H') (h : SqT K H a xs) : SqT K H' a xs := by
  rcases h with (h | ⟨o, h⟩) | h
  · exact .inl (.inl (e _ _ h))
  · exact .inl (.inr ⟨o, e _ _ h⟩)
  · exact .inr h

/-! ### data that a heap bears -/
mutual
theorem Dp.mono {K : PySem.W.Frag} {H H' : Hp} (s : Same H H') : ∀ {v : V} {d : PyData}, Dp K H v d → Dp K H' v d
  | _, _, .non => .non
  | _, _, .bl b => .bl b
  | _, _, .int i => .int i
  | _, _, .str x => .str x
  | _, _, .lst h t => .lst (L2.Same.seq s h) (DpAll.mono s t)
  | _, _, .tup h t => .tup (Same.seqT s h) (DpAll.mono s t)
theorem DpAll.mono {K : PySem.W.Frag} {H H' : Hp} (s : Same H H') : ∀ {vs : List V} {ds : List PyData}, DpAll K H vs ds → DpAll K H' vs ds
  | _, _, .nil => .nil
  | _, _, .cons h t => .cons (Dp.mono s h) (DpAll.mono s t)
end
theorem DpAll.length {K : PySem.W.Frag} {H : Hp} : ∀ {vs : List V} {ds : List PyData}, DpAll K H vs ds → vs.length = ds.length
  | _, _, .nil => rfl
  | _, _, .cons _ t => by rw [List.length_cons, List.length_cons, DpAll.length t]
theorem DpAll.get {K : PySem.W.Frag} {H : Hp} : ∀ {vs : List V} {ds : List PyData} {i : Nat} {v : V}, DpAll K H vs ds → vs[i]? = some v → ∃ d, ds[i]? = some d ∧ Dp K H v d
  | _, _, _, _, .nil, e => by simp at e
  | _, _, 0, _, .cons h _, e => by
    simp at e; subst e; exact ⟨_, rfl, h⟩
  | _, _, i + 1, v, .cons _ t, e => by
    obtain ⟨d, a, b⟩ := DpAll.get (i := i) (v := v) t (by simpa using e)
    exact ⟨d, by simpa using a, b⟩
theorem DpAll.get' {K : PySem.W.Frag} {H : Hp} : ∀ {vs : List V} {ds : List PyData} {i : Nat} {d : PyData}, DpAll K H vs ds → ds[i]? = some d → ∃ v, vs[i]? = some v ∧ Dp K H v d
  | _, _, _, _, .nil, e => by simp at e
  | _, _, 0, _, .cons h _, e => by
    simp at e; subst e; exact ⟨_, rfl, h⟩
  | _, _, i + 1, v, .cons _ t, e => by
    obtain ⟨d, a, b⟩ := DpAll.get' (i := i) (d := v) t (by simpa using e)
    exact ⟨d, by simpa using a, b⟩
theorem DpAll.app {K : PySem.W.Frag} {H : Hp} : ∀ {vs ws : List V} {ds es : List PyData}, DpAll K H vs ds → DpAll K H ws es → DpAll K H (vs ++ ws) (ds ++ es)
  | _, _, _, _, .nil, t => t
  | _, _, _, _, .cons h t, u => .cons h (DpAll.app t u)
theorem DpAll.take {K : PySem.W.Frag} {H : Hp} : ∀ {vs : List V} {ds : List PyData} (n : Nat), DpAll K H vs ds → DpAll K H (vs.take n) (ds.take n)
  | _, _, 0, _ => .nil
  | _, _, _ + 1, .nil => .nil
  | _, _, n + 1, .cons h t => .cons h (DpAll.take n t)
theorem DpAll.drop {K : PySem.W.Frag} {H : Hp} : ∀ {vs : List V} {ds : List PyData} (n : Nat), DpAll K H vs ds → DpAll K H (vs.drop n) (ds.drop n)
  | _, _, 0, t => t
  | _, _, _ + 1, .nil => .nil
  | _, _, n + 1, .cons _ t => DpAll.drop n t

/-! ### the source of draws: a list of three ints at a; n draws may still be made -/
def Src (a : Addr) (n : Nat) (H : Hp) : Prop := ∃ d s c : Int, H a = some (.lst [.int d, .int s, .int c]) ∧ 0 ≤ s ∧ s < 2 ^ 40 ∧ 0 ≤ c ∧ c + (n : Int) ≤ 2 ^ 40
theorem Src.mono {a : Addr} {n m : Nat} {H : Hp} (h : Src a m H) (l : n ≤ m) : Src a n H := by
  obtain ⟨d, s, c, e, h1, h2, h3, h4⟩ := h
  exact ⟨d, s, c, e, h1, h2, h3, by omega⟩
theorem Src.same {a : Addr} {n : Nat} {H H' : Hp} (h : Src a n H) (s : Same H H') : Src a n H' := by
  obtain ⟨d, s', c, e, r⟩ := h
  exact ⟨d, s', c, s _ _ e, r⟩
theorem Src.ne {a p : Addr} {n : Nat} {H : Hp} (h : Src a n H) (e : H p = none) : p ≠ a := by
  obtain ⟨_, _, _, q, _⟩ := h
  rintro rfl
  rw [e] at q; cases q
end Cs
local macro_rules | `(tactic| walk_at "go") => `(tactic| repeat (first
  | with_reducible refine Cs.rd_seq ?_ | with_reducible refine Cs.rd_asg ?_ | with_reducible refine Cs.rd_gname ?_ | with_reducible refine Cs.rd_var rfl ?_ | with_reducible refine Cs.rd_c ?_ | with_reducible refine Cs.rd_op ?_
  | with_reducible refine Cs.rd_i0 ?_ | with_reducible refine Cs.rd_cons ?_ | with_reducible refine Cs.rd_nil ?_ | with_reducible refine Cs.rd_call ?_ | with_reducible refine Cs.rd_cb ?_ | with_reducible refine Cs.rd_ret ?_ | with_reducible refine Cs.rd_ifs ?_
  | with_reducible refine Cs.rd_test ?_ | with_reducible refine Cs.rd_tB ?_ | with_reducible refine Cs.rd_bl ?_ | with_reducible refine Cs.rd_eq rfl ?_ | with_reducible refine Cs.rd_ne rfl ?_ | with_reducible refine Cs.rd_tup ?_ | with_reducible refine Cs.rd_lst ?_
  | with_reducible refine Cs.rd_bm0 ?_ | with_reducible refine Cs.rd_bm ?_ | with_reducible refine Cs.rd_gsub ?_ | with_reducible refine Cs.rd_and ?_ | with_reducible refine Cs.rd_or ?_ | with_reducible refine Cs.rd_not ?_ | with_reducible refine Cs.rd_andV ?_
  | with_reducible refine Cs.rd_orV ?_ | with_reducible refine Cs.rd_notV ?_ | with_reducible refine Cs.rd_ife ?_ | with_reducible refine Cs.rd_drop ?_ | with_reducible refine Cs.rd_next ?_ | with_reducible refine Cs.rd_un ?_ | with_reducible refine L2.iteT ?_ | with_reducible refine L2.iteF ?_
  | with_reducible refine Cs.rd_m1 ?_ | with_reducible refine Cs.rd_gcons ?_ | with_reducible refine Cs.rd_gnil ?_ | with_reducible refine Cs.rd_truth ?_ | with_reducible refine Cs.rd_yes ?_ | with_reducible refine Cs.rd_sl ?_ | with_reducible refine Cs.rd_nopart ?_ | with_reducible refine Cs.rd_part ?_ | with_reducible refine Cs.rd_int ?_ | with_reducible refine Cs.rd_strx ?_
  | with_reducible refine Cs.rd_rng1 ?_ | with_reducible refine Cs.rd_ilist ?_ | with_reducible refine Cs.rd_itup ?_ | with_reducible refine Cs.rd_istr ?_ | with_reducible refine Cs.rd_strj ?_ | with_reducible refine Cs.rd_lc ?_ | with_reducible refine Cs.rd_for ?_
  | with_reducible refine Cs.rd_chain ?_
  | with_reducible refine Cs.rd_par ?_ | with_reducible refine Cs.rd_parj ?_ | with_reducible refine Cs.rd_aug rfl ?_ | with_reducible refine Cs.rd_ipi ?_))
namespace Cs
open PySem L2
open PyProof.Rows (envOfC)
def topS (i : Nat) : Stmt := PySem.Challenge.pw_cutscribe_k07_automata_at_the_limit.main.body.getD i (.Pass ⟨0, 0, 0, 0⟩)
abbrev s_Machine___init__ : Stmt := inClass (topS 5) 0
theorem sc_Machine___init__ : FnScope ["self", "alphabet", "pattern", "character"] ["self", "alphabet", "pattern"] (defScope s_Machine___init__) := ⟨rfl, rfl, rfl, by decide +kernel, rfl, by decide +kernel, by decide +kernel⟩
abbrev s_Machine_step : Stmt := inClass (topS 5) 1
theorem sc_Machine_step : FnScope ["self", "state", "character", "reached", "place", "following"] ["self", "state", "character"] (defScope s_Machine_step) := ⟨rfl, rfl, rfl, by decide +kernel, rfl, by decide +kernel, by decide +kernel⟩
abbrev s_Machine_accepts : Stmt := inClass (topS 5) 2
theorem sc_Machine_accepts : FnScope ["self", "state"] ["self", "state"] (defScope s_Machine_accepts) := ⟨rfl, rfl, rfl, by decide +kernel, rfl, by decide +kernel, by decide +kernel⟩
abbrev s_Machine__judge : Stmt := inClass (topS 5) 3
theorem sc_Machine__judge : FnScope ["self", "pattern", "empty", "first", "last", "part"] ["self", "pattern"] (defScope s_Machine__judge) := ⟨rfl, rfl, rfl, by decide +kernel, rfl, by decide +kernel, by decide +kernel⟩
abbrev s_Machine__piece : Stmt := inClass (topS 5) 4
theorem sc_Machine__piece : FnScope ["self", "pattern", "word", "part"] ["self", "pattern"] (defScope s_Machine__piece) := ⟨rfl, rfl, rfl, by decide +kernel, rfl, by decide +kernel, by decide +kernel⟩
abbrev s_Machine__place : Stmt := inClass (topS 5) 5
theorem sc_Machine__place : FnScope ["self", "characters", "place", "character"] ["self", "characters"] (defScope s_Machine__place) := ⟨rfl, rfl, rfl, by decide +kernel, rfl, by decide +kernel, by decide +kernel⟩
abbrev s_Machine__copies : Stmt := inClass (topS 5) 6
theorem sc_Machine__copies : FnScope ["self", "part", "low", "high", "needed", "spare", "_", "first", "last"] ["self", "part", "low", "high"] (defScope s_Machine__copies) := ⟨rfl, rfl, rfl, by decide +kernel, rfl, by decide +kernel, by decide +kernel⟩
abbrev s_Machine__loop : Stmt := inClass (topS 5) 7
theorem sc_Machine__loop : FnScope ["self", "part", "_", "first", "last"] ["self", "part"] (defScope s_Machine__loop) := ⟨rfl, rfl, rfl, by decide +kernel, rfl, by decide +kernel, by decide +kernel⟩
abbrev s_Machine__chain : Stmt := inClass (topS 5) 8
theorem sc_Machine__chain : FnScope ["self", "pieces", "empty", "first", "last", "piece_empty", "piece_first", "piece_last"] ["self", "pieces"] (defScope s_Machine__chain) := ⟨rfl, rfl, rfl, by decide +kernel, rfl, by decide +kernel, by decide +kernel⟩
abbrev s_Machine__link : Stmt := inClass (topS 5) 9
theorem sc_Machine__link : FnScope ["self", "before", "after", "place"] ["self", "before", "after"] (defScope s_Machine__link) := ⟨rfl, rfl, rfl, by decide +kernel, rfl, by decide +kernel, by decide +kernel⟩
abbrev s__choice : Stmt := topS 6
theorem sc__choice : FnScope ["pieces", "empty", "first", "last", "piece_empty", "piece_first", "piece_last"] ["pieces"] (defScope s__choice) := ⟨rfl, rfl, rfl, by decide +kernel, rfl, by decide +kernel, by decide +kernel⟩
abbrev s__holds : Stmt := topS 7
theorem sc__holds : FnScope ["verdict", "state", "word", "told", "answers", "part"] ["verdict", "state"] (defScope s__holds) := ⟨rfl, rfl, rfl, by decide +kernel, rfl, by decide +kernel, by decide +kernel⟩
abbrev s_automaton : Stmt := topS 10
theorem sc_automaton : FnScope ["alphabet", "pattern", "machine", "states", "rows", "marks", "classes", "state"] ["alphabet", "pattern"] (defScope s_automaton) := ⟨rfl, rfl, rfl, by decide +kernel, rfl, by decide +kernel, by decide +kernel⟩
abbrev s__explored : Stmt := topS 11
theorem sc__explored : FnScope ["first", "steps", "most", "numbers", "states", "rows", "following", "after"] ["first", "steps", "most"] (defScope s__explored) := ⟨rfl, rfl, rfl, by decide +kernel, rfl, by decide +kernel, by decide +kernel⟩
abbrev s__classes : Stmt := topS 12
theorem sc__classes : FnScope ["rows", "marks", "classes", "steps", "finer", "row", "after"] ["rows", "marks"] (defScope s__classes) := ⟨rfl, rfl, rfl, by decide +kernel, rfl, by decide +kernel, by decide +kernel⟩
abbrev s__numbered : Stmt := topS 13
theorem sc__numbered : FnScope ["labels", "numbers", "label"] ["labels"] (defScope s__numbered) := ⟨rfl, rfl, rfl, by decide +kernel, rfl, by decide +kernel, by decide +kernel⟩
abbrev s__merged : Stmt := topS 14
theorem sc__merged : FnScope ["rows", "marks", "classes", "firsts", "small_rows", "number", "state", "after"] ["rows", "marks", "classes"] (defScope s__merged) := ⟨rfl, rfl, rfl, by decide +kernel, rfl, by decide +kernel, by decide +kernel⟩
abbrev s__law_source : Stmt := topS 16
theorem sc__law_source : FnScope ["_law_script", "_law_k", "_law_cell", "_law_deep"] ["_law_script", "_law_k"] (defScope s__law_source) := ⟨rfl, rfl, rfl, by decide +kernel, rfl, by decide +kernel, by decide +kernel⟩
abbrev s__law_draw : Stmt := topS 17
theorem sc__law_draw : FnScope ["_law_source_here", "_law_many", "_law_digit", "_law_seed"] ["_law_source_here", "_law_many"] (defScope s__law_draw) := ⟨rfl, rfl, rfl, by decide +kernel, rfl, by decide +kernel, by decide +kernel⟩
abbrev s__law_alphabet : Stmt := topS 18
theorem sc__law_alphabet : FnScope ["_law_source_here", "_law_many", "_law_left", "_law_k"] ["_law_source_here", "_law_many"] (defScope s__law_alphabet) := ⟨rfl, rfl, rfl, by decide +kernel, rfl, by decide +kernel, by decide +kernel⟩
abbrev s__law_size : Stmt := topS 19
theorem sc__law_size : FnScope ["_law_alphabet_here", "_law_pattern", "_law_found"] ["_law_alphabet_here", "_law_pattern"] (defScope s__law_size) := ⟨rfl, rfl, rfl, by decide +kernel, rfl, by decide +kernel, by decide +kernel⟩
abbrev s__law_case : Stmt := topS 20
theorem sc__law_case : FnScope ["_law_source_here", "_law_alphabet_here", "_law_x", "_law_y", "_law_c", "_law_e", "_law_both", "_law_many", "_law_far", "_law_even", "_law_shift", "_law_first", "_law_again", "_law_second", "_law_alone"] ["_law_source_here", "_law_alphabet_here"] (defScope s__law_case) := ⟨rfl, rfl, rfl, by decide +kernel, rfl, by decide +kernel, by decide +kernel⟩
abbrev s_law : Stmt := topS 21
theorem sc_law : FnScope ["_law_script", "_law_k", "_law_source_here", "_law_alphabet_here", "_law_pattern", "_law_due"] ["_law_script"] (defScope s_law) := ⟨rfl, rfl, rfl, by decide +kernel, rfl, by decide +kernel, by decide +kernel⟩
end Cs
namespace Cs
open PySem L2
open PyProof.Rows (envOfC)
/-! the built-in names, which no law's text binds anew -/
structure Blt (mg : Str → Option Value) : Prop where
  len : mg "len" = none
  range : mg "range" = none
  isinstance : mg "isinstance" = none
  max : mg "max" = none
  min : mg "min" = none
  sum : mg "sum" = none
  all : mg "all" = none
  any : mg "any" = none
  list : mg "list" = none
  tuple : mg "tuple" = none
  int : mg "int" = none
  str : mg "str" = none
  bool : mg "bool" = none
  sorted : mg "sorted" = none
  set : mg "set" = none
  enumerate : mg "enumerate" = none
  zip : mg "zip" = none

end Cs
namespace Cs
open PySem L2
open PyProof.Rows (envOfC)
/-! what the top has left, def by def -/
theorem at_mk {K : PySem.W.Frag} {h : Heap} {mg : Str → Option Value} (X : K.In h) (G : h.Ns mainGlobals mg) {x : Str} {st : Stmt} {ps : List Str} {f : Addr} {oc : Value} {od an : Option Addr} {osl : Array (Option Value)} {kV dc pm cd ct : Value}
    (a : PySem.W.nsIn K mainGlobals x = some (some (.ref f))) (l : K.lookup f = some ⟨oc, od, .func (PySem.W.fnOf x x (defArgs st) (defBody st) (defScope st) .none kV dc pm an cd ct), osl⟩) (c : PySem.W.codeIn K cd x = true) (k : PySem.W.keepIn K (.ref f) = true)
    (b : ∀ (kV dc pm : Value) (an : Option Addr) (cd ct : Value) (us : List Value), us.length = ps.length → bindArgs (PySem.W.fnOf x x (defArgs st) (defBody st) (defScope st) .none kV dc pm an cd ct) ⟨us, []⟩ = pure (ps.zip us)) : At K mg x st ps :=
  ⟨⟨f, _, fun_mk l c k, PySem.W.mg_of X G a, (fun_mk l c k).binds b⟩⟩
def spLaw (K : PySem.W.Frag) : Sp := fun vs H Q _ => ∃ (a : Addr) (ns : List Int), vs = [.ref a] ∧ SqL K H a (ns.map V.int) ∧ ns.length ≤ 63 ∧ ∀ H', Q (.bl true) H'
theorem walk_c {l : PySem.W.OpenLaw} {q : Program} {loose : List Str} {XP : (Str → Option Value) → Heap → Prop} {YP : World → Heap → Prop} {d : DefRec} {K : Params → PySem.W.Frag} {st : Stmt} (hn : l.most = some 63) (hdf : d.params.defaults = []) (hnm : d.name = "law")
    (hY : ∀ (w : World) (h : Heap), YP w h → (K w.params).In h)
    (F : ∀ (w : World) (mg : Str → Option Value) (h : Heap), (K w.params).In h → h.Ns mainGlobals mg →
      ∃ (f : Addr) (oc : Value) (od an : Option Addr) (osl : Array (Option Value)) (kV dc pm cd ct : Value), PySem.W.nsIn (K w.params) mainGlobals "law" = some (some (.ref f)) ∧ (K w.params).lookup f = some ⟨oc, od, .func (PySem.W.fnOf "law" "law" (defArgs st) (defBody st) (defScope st) .none kV dc pm an cd ct), osl⟩ ∧
        PySem.W.codeIn (K w.params) cd "law" = true ∧ PySem.W.keepIn (K w.params) (.ref f) = true ∧
        (∀ (kV dc pm : Value) (an : Option Addr) (cd ct u : Value), bindArgs (PySem.W.fnOf "law" "law" (defArgs st) (defBody st) (defScope st) .none kV dc pm an cd ct) ⟨[u], []⟩ = pure [(("_law_script" : Str), u)]) ∧
        ∀ (base : Heap) (f : Addr) (fd : FuncData), Fun (K w.params) "law" "law" st f fd → FnOk l.prog w (K w.params) mg base CX0 230 f fd ["_law_script"] (spLaw (K w.params))) :
    PySem.W.WalkO q loose XP YP l.row.toRowW d [] (fun f vs => PySem.call f vs) := by
  refine L2.walk_of (n := 63) (k := 230) (x := "_law_script") (CX := fun _ => CX0) (sp := fun w => spLaw (K w.params)) hn (by decide) hdf ⟨rfl, by decide, by decide⟩ hY (fun w mg fa h X G hfa => ?_) (fun _ _ a ns hl _ hS => ⟨a, ns, rfl, hS, hl, fun _ => rfl⟩) fun _ _ _ _ _ z => z
  obtain ⟨f, oc, od, an, osl, kV, dc, pm, cd, ct, a, lk, c, k, hb, G2⟩ := F w mg h X G
  rw [hnm] at hfa
  have e := hfa.symm.trans (PySem.W.mg_of X G a)
  cases e
  exact ⟨_, fun s v => .of_eq (hb _ _ _ _ _ _ _), fun base _ _ => G2 base _ _ (fun_mk lk c k)⟩
theorem blt_mk {K : PySem.W.Frag} {h : Heap} {mg : Str → Option Value} (X : K.In h) (G : h.Ns mainGlobals mg) (z0 : PySem.W.nsIn K mainGlobals "len" = some none) (z1 : PySem.W.nsIn K mainGlobals "range" = some none) (z2 : PySem.W.nsIn K mainGlobals "isinstance" = some none) (z3 : PySem.W.nsIn K mainGlobals "max" = some none) (z4 : PySem.W.nsIn K mainGlobals "min" = some none) (z5 : PySem.W.nsIn K mainGlobals "sum" = some none) (z6 : PySem.W.nsIn K mainGlobals "all" = some none) (z7 : PySem.W.nsIn K mainGlobals "any" = some none) (z8 : PySem.W.nsIn K mainGlobals "list" = some none) (z9 : PySem.W.nsIn K mainGlobals "tuple" = some none) (z10 : PySem.W.nsIn K mainGlobals "int" = some none) (z11 : PySem.W.nsIn K mainGlobals "str" = some none) (z12 : PySem.W.nsIn K mainGlobals "bool" = some none) (z13 : PySem.W.nsIn K mainGlobals "sorted" = some none) (z14 : PySem.W.nsIn K mainGlobals "set" = some none) (z15 : PySem.W.nsIn K mainGlobals "enumerate" = some none) (z16 : PySem.W.nsIn K mainGlobals "zip" = some none) : Blt mg :=
  ⟨PySem.W.mg_none_of X G z0, PySem.W.mg_none_of X G z1, PySem.W.mg_none_of X G z2, PySem.W.mg_none_of X G z3, PySem.W.mg_none_of X G z4, PySem.W.mg_none_of X G z5, PySem.W.mg_none_of X G z6, PySem.W.mg_none_of X G z7, PySem.W.mg_none_of X G z8, PySem.W.mg_none_of X G z9, PySem.W.mg_none_of X G z10, PySem.W.mg_none_of X G z11, PySem.W.mg_none_of X G z12, PySem.W.mg_none_of X G z13, PySem.W.mg_none_of X G z14, PySem.W.mg_none_of X G z15, PySem.W.mg_none_of X G z16⟩
theorem const_mk {K : PySem.W.Frag} {h : Heap} {mg : Str → Option Value} (X : K.In h) (G : h.Ns mainGlobals mg) {x : Str} {u : Value} {v : V} (a : PySem.W.nsIn K mainGlobals x = some (some u)) (r : RelV v u) : ∃ u, mg x = some u ∧ RelV v u := ⟨u, PySem.W.mg_of X G a, r⟩
theorem law_mk {P : Program} {w : World} {K : PySem.W.Frag} {mg : Str → Option Value} {st : Stmt} {f : Addr} {oc : Value} {od an : Option Addr} {osl : Array (Option Value)} {kV dc pm cd ct : Value}
    (a : PySem.W.nsIn K mainGlobals "law" = some (some (.ref f))) (l : K.lookup f = some ⟨oc, od, .func (PySem.W.fnOf "law" "law" (defArgs st) (defBody st) (defScope st) .none kV dc pm an cd ct), osl⟩) (c : PySem.W.codeIn K cd "law" = true) (k : PySem.W.keepIn K (.ref f) = true)
    (b : ∀ (kV dc pm : Value) (an : Option Addr) (cd ct u : Value), bindArgs (PySem.W.fnOf "law" "law" (defArgs st) (defBody st) (defScope st) .none kV dc pm an cd ct) ⟨[u], []⟩ = pure [(("_law_script" : Str), u)])
    (G2 : ∀ (base : Heap) (f : Addr) (fd : FuncData), Fun K "law" "law" st f fd → FnOk P w K mg base CX0 230 f fd ["_law_script"] (spLaw K)) :
    ∃ (f : Addr) (oc : Value) (od an : Option Addr) (osl : Array (Option Value)) (kV dc pm cd ct : Value), PySem.W.nsIn K mainGlobals "law" = some (some (.ref f)) ∧ K.lookup f = some ⟨oc, od, .func (PySem.W.fnOf "law" "law" (defArgs st) (defBody st) (defScope st) .none kV dc pm an cd ct), osl⟩ ∧
      PySem.W.codeIn K cd "law" = true ∧ PySem.W.keepIn K (.ref f) = true ∧
      (∀ (kV dc pm : Value) (an : Option Addr) (cd ct u : Value), bindArgs (PySem.W.fnOf "law" "law" (defArgs st) (defBody st) (defScope st) .none kV dc pm an cd ct) ⟨[u], []⟩ = pure [(("_law_script" : Str), u)]) ∧
      ∀ (base : Heap) (f : Addr) (fd : FuncData), Fun K "law" "law" st f fd → FnOk P w K mg base CX0 230 f fd ["_law_script"] (spLaw K) :=
  ⟨f, oc, od, an, osl, kV, dc, pm, cd, ct, a, l, c, k, b, G2⟩

end Cs
namespace Cs
open PySem L2
open PyProof.Rows (envOfC)
/-! list(text): a new list of its signs -/
section
open PySem.Calls PyProof.Rows PyProof.V PySem.Spec PySem.W
variable {prog : Program} {w : World} {A : Around} {E : Value → Shared → Prop} {s : Shared} {x : Str} {t : Tok}
theorem hint_str {Q : Bool → Shared → Prop} (h : Q false s) : wpAny (model prog w) A (Builtin.List.listLengthHint (.str x t)) Q E s := by
  have hT : s.TypeIs (.str x t) "str" := typeIs_str s x t
  unfold Builtin.List.listLengthHint
  refine wpAny_bind (wpAny_specialOf hT PySem.F.slot_str_len.lookup ?_)
  generalize hid : ("str.__len__" : String) = id0
  wp_delta
  rw [show splitId id0 = some ("str", "__len__") from by subst hid; decide +kernel]
  subst hid
  refine wpAny_bind (wpAny_isInstance (T := "str") (b := true) hT (by rw [isSubtype_type]; kernel_rfl) ?_)
  refine wpAny_ite_split (fun hab => absurd hab (by decide)) (fun _ => ?_)
  refine wpAny_ite_split (fun _ => ?_) (fun hab => absurd (by decide +kernel) hab)
  refine wpAny_bind (wpAny_typeOf hT ?_)
  exact wpAny_pure h
theorem extend_str {R : Result → Shared → Prop} (hh : A.handled = none) (S : Addr) (res : Value) (c₀ : Nat) (hS : s.heap.get? S = some { cls := .type "list", data := .seq #[] c₀ })
    (hR : ∀ h' tk acc' c', (∀ b o, b ≠ S → s.heap.get? b = some o → h'.get? b = some o) → h'.get? S = some { cls := .type "list", dict := none, data := .seq acc' c', slots := #[] } → ItemsOf (SignAt x) acc' x.cps.size → R (.ok (.ret res)) { s with heap := h', toks := tk }) (hn : x.cps.size ≤ sizeLine) :
    wpAny (model prog w) A.in1 (Builtin.List.listExtendWith (.ref S) (.str x t) res)
      (fun fin s' => match fin with | .done f => R (.ok f) s' | .again c' => c'.quiet = true ∧ codeAny (model prog w) A c' R s') (fun e s' => R (.error e) s') s := by
  have hSI : S ≠ s.heap.objs.size := Nat.ne_of_lt (Heap.lt_size hS)
  have hSf : S ∉ [s.heap.objs.size] := by simp only [List.mem_cons, List.not_mem_nil, or_false]; exact hSI
  obtain ⟨oI, St, hit, W, st⟩ : ∃ (oI : Obj) (St : Nat → Heap → Prop),
      (∀ (E : Value → Shared → Prop) (Q : Value → Shared → Prop), Q (.ref s.heap.objs.size) { s with heap := s.heap.push oI } → wpAny (model prog w) A.in1 (pyIter (.str x t)) Q E s) ∧
      Walks prog w A.in1 s.heap.objs.size [s.heap.objs.size] [s.heap.objs.size] x.cps.size (SignAt x) St ∧ St 0 (s.heap.push oI) := by
    cases ha : x.cps.all (· < 128)
    · exact ⟨_, _, fun _ _ hq => wpAny_pyIter_wide ha hq, Walks.strWide (A := A.in1) hh _ x t, ⟨_, Heap.get?_push_size _ rfl, rfl, rfl⟩⟩
    · exact ⟨_, _, fun _ _ hq => wpAny_pyIter_ascii ha hq, Walks.strAscii (A := A.in1) hh _ x t, ⟨_, Heap.get?_push_size _ rfl, rfl, rfl⟩⟩
  have key : ∀ (h : Heap) (c₁ tk : Nat), St 0 h → (∀ b o, b ≠ S → s.heap.get? b = some o → h.get? b = some o) →
      h.get? S = some { cls := .type "list", data := .seq #[] c₁ } → codeAny (model prog w) A (.builtin "list.extend.loop" ⟨[.ref S, .ref s.heap.objs.size, res], []⟩) R { s with heap := h, toks := tk } := by
    intro h c₁ tk hst hk hS₁
    refine codeAny_extend_loopS W.toS hn S hSf res x.cps.size 0 _ #[] c₁ rfl (Nat.zero_le _) hst hS₁ (ItemsOf.nil _) fun s' acc' c' hm hS' hacc => ?_
    rw [Moved.eq_with hm]
    refine hR s'.heap s'.toks acc' c' (fun b o hb e => hm.heap b o (fun hmem => ?_) (hk b o hb e)) hS' hacc
    rcases List.mem_cons.mp hmem with e' | hmem
    · exact hb e'
    · exact absurd (Heap.lt_size e) (by rw [List.mem_singleton.mp hmem]; exact Nat.lt_irrefl _)
  unfold Builtin.List.listExtendWith
  refine wpAny_bind (wpAny_typeOf (T := "str") (typeIs_str s x t) ?_)
  have h1 : Builtin.List.listSameRef (.ref S) (.str x t) = false := rfl
  have h2 : (Value.type "str" == Value.type "list") = false := by decide
  have h3 : (Value.type "str" == Value.type "tuple") = false := by decide
  simp only [h1, h2, h3, Bool.or_false, Bool.false_eq_true, if_false]
  refine wpAny_bind (hit _ _ ?_)
  have hS₁ := Heap.get?_push_of_some oI hS
  refine wpAny_bind (wpAny_holding (hint_str ?_))
  refine wpAny_ite_split (fun _ => ?_) (fun _ => wpAny_pure ⟨plainId_quiet PySem.F.plain_extend_loop _, key _ c₀ _ st (fun b o _ e => Heap.get?_push_of_some _ e) hS₁⟩)
  refine wpAny_bind (wpAny_rule ?_)
  refine wpAny_bind ?_
  show wpAny _ _ (updateSeq S (·.push .none) >>= fun _ => updateSeq S (·.pop)) _ _ _
  refine wpAny_bind (wpAny_updateSeq hS₁ rfl ?_)
  have hS₂ := Heap.get?_update_self (Obj.mapSeq (·.push Value.none)) hS₁ rfl
  refine wpAny_updateSeq (hz := by seq_fits) hS₂ rfl ?_
  have hS₃ := Heap.get?_update_self (Obj.mapSeq (·.pop)) hS₂ rfl
  refine wpAny_pure ⟨plainId_quiet PySem.F.plain_extend_loop _, key _ _ _ ?_ (fun b o hb e => ?_) hS₃⟩
  · refine W.frame 0 _ _ st fun b hb o e => ?_
    have hbS : b ≠ S := fun h => hSf (h ▸ hb)
    exact (Heap.get?_update_other _ _ (Ne.symm hbS)).trans ((Heap.get?_update_other _ _ (Ne.symm hbS)).trans e)
  · exact (Heap.get?_update_other _ _ (Ne.symm hb)).trans ((Heap.get?_update_other _ _ (Ne.symm hb)).trans (Heap.get?_push_of_some _ e))
theorem init_str {R : Result → Shared → Prop} (hh : A.handled = none) (S : Addr) (hS : s.heap.get? S = some { cls := .type "list", data := .seq #[] })
    (hR : ∀ h' tk acc' c', (∀ b o, b ≠ S → s.heap.get? b = some o → h'.get? b = some o) → h'.get? S = some { cls := .type "list", dict := none, data := .seq acc' c', slots := #[] } → ItemsOf (SignAt x) acc' x.cps.size → R (.ok (.ret .none)) { s with heap := h', toks := tk }) (hn : x.cps.size ≤ sizeLine) :
    wpAny (model prog w) A.in1 (Builtin.«list.__init__» ⟨[.ref S, .str x t], []⟩)
      (fun fin s' => match fin with | .done f => R (.ok f) s' | .again c' => c'.quiet = true ∧ codeAny (model prog w) A c' R s') (fun e s' => R (.error e) s') s := by
  show wpAny _ _ (do let old ← Builtin.List.listItems (.ref S); Builtin.List.listUpdate (.ref S) (fun _ => #[]); letGo old.toList.reverse; Builtin.List.listExtendWith (.ref S) (.str x t) .none) _ _ s
  refine wpAny_bind ?_
  unfold Builtin.List.listItems
  refine wpAny_bind (wpAny_seqItems hS rfl (wpAny_pure ?_))
  show wpAny _ _ (updateSeq S (fun _ => #[]) >>= fun _ => letGo (#[] : Array Value).toList.reverse >>= fun _ => Builtin.List.listExtendWith (.ref S) (.str x t) .none) _ _ s
  refine wpAny_bind (wpAny_updateSeq hS rfl ?_)
  have hS₂ := Heap.get?_update_self (Obj.mapSeq (fun _ => (#[] : Array Value))) hS rfl
  have oth : ∀ b o, b ≠ S → s.heap.get? b = some o → (s.heap.update S (Obj.mapSeq (fun _ => (#[] : Array Value)))).get? b = some o :=
    fun b o hb e => (Heap.get?_update_other _ _ (Ne.symm hb)).trans e
  refine wpAny_bind (wpAny_letGo ?_)
  refine extend_str hh S .none _ hS₂ (fun h' tk acc' c' hk hS' hacc => ?_) hn
  exact hR h' tk acc' c' (fun b o hb e => hk b o hb (oth b o hb e)) hS' hacc
theorem list_of_str {Q : Value → Shared → Prop} (hh : A.handled = none) (hn : x.cps.size ≤ sizeLine)
    (hQ : ∀ h' tk acc' c', (∀ b o, s.heap.get? b = some o → h'.get? b = some o) → h'.get? s.heap.objs.size = some { cls := .type "list", dict := none, data := .seq acc' c', slots := #[] } → ItemsOf (SignAt x) acc' x.cps.size → Q (.ref s.heap.objs.size) { s with heap := h', toks := tk }) :
    wpAny (model prog w) A (call (.type "list") [.str x t]) Q E s := by
  refine callType_codes (Q₁ := fun obj s₁ => obj = .ref s.heap.objs.size ∧ s₁ = { s with heap := s.heap.push { cls := .type "list", data := .seq #[] } }) PySem.F.called_list (PySem.F.typeCall_list_1 _) PySem.F.entry_list_init
    (code_list_new _ ⟨rfl, rfl⟩) fun obj s₁ h₁ => ?_
  obtain ⟨rfl, rfl⟩ := h₁
  have hS : (s.heap.push { cls := .type "list", data := .seq #[] }).get? s.heap.objs.size = some { cls := .type "list", data := .seq #[] } := Heap.get?_push_size _ rfl
  refine ⟨⟨_, hS, rfl⟩, PySem.F.args_list_init_2 _ _, init_str (A := A.in1) hh _ hS (fun h' tk acc' c' hk hS' hacc => ?_) hn⟩
  exact ⟨rfl, hQ h' tk acc' c' (fun b o e => hk b o (Nat.ne_of_lt (Heap.lt_size e)) (Heap.get?_push_of_some _ e)) hS' hacc⟩
end
def signs (z : Str) : List Str := z.cps.toList.map fun c => ⟨#[c]⟩
theorem vals_signs : ∀ (zs : List Nat) (us : List Value), us.length = zs.length → (∀ (i : Nat) (v : Value), us[i]? = some v → ∃ c u, zs[i]? = some c ∧ v = .str ⟨#[c]⟩ u) → Vals ((zs.map fun c => (⟨#[c]⟩ : Str)).map V.str) us
  | [], [], _, _ => .nil
  | [], _ :: _, e, _ => by simp at e
  | _ :: _, [], e, _ => by simp at e
  | z :: zs, u :: us, e, h => by
    obtain ⟨c, t, h1, h2⟩ := h 0 u rfl
    have h1 : z = c := by simpa using h1
    subst h1
    refine .cons ⟨t, h2⟩ (vals_signs zs us (by simpa using e) fun i v hv => ?_)
    obtain ⟨c, t', a, b⟩ := h (i + 1) v (by simpa using hv)
    exact ⟨c, t', by simpa using a, b⟩
theorem call_list_str {X : Cx} (hc : X.calm = true) : CallR X (.type "list") (fun xs H Q => ∃ z : Str, xs = [.str z] ∧ z.cps.size ≤ sizeLine ∧ ∀ l, H l = none → Q (.ref l) (upd H l (.lst ((signs z).map V.str)))) := by
  intro pins s σ H xs us Q I r h
  obtain ⟨z, rfl, hz, q⟩ := h
  obtain ⟨u, rfl, t, rfl⟩ := vals1 r
  refine list_of_str (I.ok.hd hc) hz fun h' tk acc' c' kp e it => ?_
  have vs : Vals ((signs z).map V.str) acc'.toList := by
    refine vals_signs z.cps.toList acc'.toList (by rw [Array.length_toList, Array.length_toList]; exact it.1) fun i v hv => ?_
    obtain ⟨c, u, a, b⟩ := it.2 i v (by rw [← Array.getElem?_toList]; exact hv)
    exact ⟨c, u, by rw [Array.getElem?_toList]; exact a, b⟩
  have hl : ((signs z).map V.str).length ≤ sizeLine := by
    rw [List.length_map, signs, List.length_map, Array.length_toList]; exact hz
  refine ⟨.ref s.heap.objs.size, _, I.laid (t' := tk) kp (Nat.le_refl _) (show ObjOk X.prog X.w _ h' _ (.lst _) from ⟨hl, acc'.toList, c', vs, by rw [e]⟩), rfl, q _ (I.hok.fresh (Nat.le_refl _))⟩

end Cs
namespace Cs
open PySem L2
open PyProof.Rows (envOfC)
/-! texts as lists of codes -/
abbrev S (l : List Nat) : Str := ⟨l.toArray⟩
theorem S_len (a : List Nat) : (S a).length = a.length := by simp [S, Str.length]
theorem S_cps (x : Str) : S x.cps.toList = x := by cases x; rfl
theorem S_inj {a b : List Nat} (h : S a = S b) : a = b := congrArg (fun x : Str => x.cps.toList) h
theorem signs_S (l : List Nat) : signs (S l) = l.map fun c => S [c] := rfl
theorem joinL_nil : ∀ ys : List (List Nat), TL.joinL [] ys = ys.flatten
  | [] => rfl
  | [p] => by show p = [p].flatten; simp
  | p :: q :: r => by
    show p ++ ([] ++ TL.joinL [] (q :: r)) = (p :: q :: r).flatten
    rw [joinL_nil (q :: r)]; simp
theorem map_tl_S : ∀ l : List (List Nat), (l.map S).map TL.tl = l
  | [] => rfl
  | x :: l => congrArg (fun z => x :: z) (map_tl_S l)
theorem join_nil (ys : List (List Nat)) : Txt.join (S []) (ys.map S) = S ys.flatten := by
  have e := TL.tl_join (S []) (ys.map S)
  rw [map_tl_S] at e
  have e2 : TL.tl (Txt.join (S []) (ys.map S)) = TL.tl (S (TL.joinL [] ys)) := (congrArg TL.tl (TL.join_eq (S []) (ys.map S))).trans e
  exact (TL.ext_tl e2).trans (by rw [joinL_nil])
theorem flat1 : ∀ cs : List Nat, (cs.map fun c => [c]).flatten = cs
  | [] => rfl
  | c :: cs => by
    show [c] ++ (cs.map fun c => [c]).flatten = c :: cs
    rw [flat1 cs]; rfl
theorem join_signs (cs : List Nat) : Txt.join (S []) (cs.map fun c => S [c]) = S cs := by
  have e := join_nil (cs.map fun c => [c])
  rw [flat1, List.map_map] at e
  exact e
theorem sum_signs (cs : List Nat) : ((cs.map fun c => S [c]).map (·.length)).sum = cs.length := by
  induction cs with
  | nil => rfl
  | cons c cs ih =>
    show 1 + ((cs.map fun c => S [c]).map (·.length)).sum = cs.length + 1
    omega
theorem empty_S : Str.ofString "" = S [] := by decide +kernel
/-- a heap that keeps all but a, and lays what was not there -/
theorem Kp.lay {a p : Addr} {H0 H : Hp} {o : HO} (k : Kp a H0 H) (n : H0 p = none) : Kp a H0 (upd H p o) := fun b u e => by
  obtain ⟨nb, e0⟩ := hid_sub e
  have q : b ≠ p := fun z => by rw [z, n] at e0; cases e0
  have z := k b u e
  obtain ⟨_, z⟩ := hid_sub z
  rw [hid_ne nb, upd_ne q]; exact z
theorem Kp.none {a b : Addr} {H H' : Hp} (k : Kp a H H') (n : b ≠ a) (h : H' b = none) : H b = none := by
  cases e : H b with
  | none => rfl
  | some o => rw [k.at n e] at h; cases h
theorem Src.lay {a p : Addr} {n : Nat} {H : Hp} {o : HO} (h : Src a n H) (e : p ≠ a) : Src a n (upd H p o) := by
  obtain ⟨d, s, c, q, r⟩ := h
  exact ⟨d, s, c, by rw [upd_ne (Ne.symm e)]; exact q, r⟩
theorem Same.lay {p : Addr} {H : Hp} {o : HO} (n : H p = none) : Same H (upd H p o) := fun b u e => by rw [upd_ne (ne_of_none e n)]; exact e
theorem Same.lay2 {p : Addr} {H0 H : Hp} {o : HO} (k : Same H0 H) (n : H0 p = none) : Same H0 (upd H p o) := fun b u e => by rw [upd_ne (ne_of_none e n)]; exact k b u e
/-- an alphabet: distinct small codes -/
structure Alp (al : List Nat) : Prop where
  nd : al.Nodup
  lo : 1 ≤ al.length
  hi : al.length ≤ 6
  asc : ∀ c ∈ al, c ∈ [97, 98, 99, 100, 101, 102, 103, 104, 105, 106, 107, 108, 109, 110, 111, 112, 113, 114, 115, 116, 117, 118, 119, 120, 121, 122, 48, 49, 50, 51, 52, 53, 54, 55, 56, 57, 32, 45, 46, 95]
theorem seqIx {j n : Nat} (h : j < n) : seqIndex? (j : Int) n = some j := by
  unfold seqIndex?
  have a : ¬ ((j : Int) < 0) := by omega
  simp only [a, if_false]
  have b : (decide (0 ≤ (j : Int)) && decide ((j : Int) < (n : Int))) = true := by simp; omega
  rw [if_pos b]; simp
theorem map_erase {α β : Type} (f : α → β) : ∀ (l : List α) (j : Nat), (l.map f).eraseIdx j = (l.eraseIdx j).map f
  | [], _ => rfl
  | _ :: _, 0 => rfl
  | a :: l, j + 1 => congrArg (fun z => f a :: z) (map_erase f l j)

end Cs
namespace Cs
open PySem L2
open PyProof.Rows (envOfC)
/-! a draw: some number below m, one draw less -/
def sp_draw : Sp := fun vs H Q _ => ∃ (a : Addr) (m : Int) (n : Nat), vs = [.ref a, .int m] ∧ Src a (n + 1) H ∧ 0 < m ∧ m < 2 ^ 30 ∧ ∀ (i : Int) (H' : Hp), 0 ≤ i → i < m → Src a n H' → Kp a H H' → Q (.int i) H'
theorem use_draw {a : Addr} {m : Int} {n : Nat} {H : Hp} {Q : VK} {E : XK} (h : Src a (n + 1) H) (h0 : 0 < m) (h1 : m < 2 ^ 30) (k : ∀ (i : Int) (H' : Hp), 0 ≤ i → i < m → Src a n H' → Kp a H H' → Q (.int i) H') : sp_draw [.ref a, .int m] H Q E :=
  ⟨a, m, n, rfl, h, h0, h1, k⟩
theorem cpow5 {s c : Int} (h1 : 0 ≤ s) (h2 : s < 2 ^ 40) (h3 : 0 ≤ c) (h4 : c ≤ 2 ^ 40) : CPow (s + 7919 * c) 5 := by
  refine ⟨by decide, by decide, ?_⟩
  omega
section
variable {P : Program} {w : World} {K : PySem.W.Frag} {mg : Str → Option Value} {base : Heap}
theorem ok_draw (F : At K mg "_law_draw" s__law_draw ["_law_source_here", "_law_many"]) : Cal P w K mg base 1 "_law_draw" ["_law_source_here", "_law_many"] sp_draw := by
  refine F.ok sc__law_draw (fun vs H Q E h => ?_) (fun f cdv A outer s H vs Q E hr h => ?_)
  · obtain ⟨a, m, n, rfl, _⟩ := h
    rfl
  · obtain ⟨a, m, n, rfl, ⟨d, s', c, e, h1, h2, h3, h4⟩, m0, m1, k⟩ := h
    refine ⟨_, (pss_cons (ps_asg (pe_op op_add (pe_ix (ix_listK (K := K) (by rfl)) (pv 0) pe_int (fun _ _ => rfl)) pe_int) (pg_sub (pv 0) pe_int set_list))
    (pss_cons (ps_if (pt_cmpR op_gt (pe_ix (ix_listK (K := K) (by rfl)) (pv 0) pe_int (fun _ _ => rfl)) pe_int (nomark _))
    (pss_cons (ps_set (i := 2) sc__law_draw.nd rfl (Or.inl rfl) (pe_op op_mod (pe_ix (ix_listK (K := K) (by rfl)) (pv 0) pe_int (fun _ _ => rfl)) (pv 1)))
    (pss_cons (ps_asg (pe_op op_fdiv (pe_ix (ix_listK (K := K) (by rfl)) (pv 0) pe_int (fun _ _ => rfl)) (pv 1)) (pg_sub (pv 0) pe_int set_list))
    (pss_one (ps_ret (pv 2)))))
    pss_nil)
    (pss_cons (ps_set (i := 3) sc__law_draw.nd rfl (Or.inl rfl) (pe_op op_mod (pe_op op_pow (pe_op op_add (pe_ix (ix_listK (K := K) (by rfl)) (pv 0) pe_int (fun _ _ => rfl)) (pe_op op_mul pe_int (pe_ix (ix_listK (K := K) (by rfl)) (pv 0) pe_int (fun _ _ => rfl)))) pe_int) pe_int))
    (pss_one (ps_ret (pe_op op_mod (pe_op op_fdiv (pe_op op_mod (pe_op op_mul (pe_op op_add (pv 3) (pe_ix (ix_listK (K := K) (by rfl)) (pv 0) pe_int (fun _ _ => rfl))) pe_int) pe_int) pe_int) (pv 1))))))), ?_⟩
    walk_at "go"
    refine rd_ixl (SqL.of e) (at_of (j := 2) rfl rfl) ?_
    walk_at "go"
    refine rd_setl e (j := 2) rfl ?_
    have e1 : upd H a (.lst ([V.int d, .int s', .int c].set 2 (.int (c + 1)))) a = some (.lst [.int d, .int s', .int (c + 1)]) := upd_same
    have k1 : Kp a H (upd H a (.lst ([V.int d, .int s', .int c].set 2 (.int (c + 1))))) := Kp.set
    generalize upd H a (.lst ([V.int d, .int s', .int c].set 2 (.int (c + 1)))) = H1 at e1 k1
    walk_at "go"
    refine rd_ixl (SqL.of e1) (at_of (j := 0) rfl rfl) ?_
    walk_at "go"
    refine ite2 (fun hd => ?_) (fun hd => ?_)
    · walk_at "go"
      refine rd_ixl (SqL.of e1) (at_of (j := 0) rfl rfl) ?_
      walk_at "go"
      refine rd_i m0 ?_
      walk_at "go"
      refine rd_ixl (SqL.of e1) (at_of (j := 0) rfl rfl) ?_
      walk_at "go"
      refine rd_i ⟨m0, by omega⟩ ?_
      walk_at "go"
      refine rd_setl e1 (j := 0) rfl ?_
      walk_at "go"
      refine k _ _ (Int.emod_nonneg _ (by omega)) (Int.emod_lt_of_pos _ m0) ⟨d / m, s', c + 1, upd_same, h1, h2, by omega, by omega⟩ (k1.trans Kp.set)
    · walk_at "go"
      refine rd_ixl (SqL.of e1) (at_of (j := 1) rfl rfl) ?_
      walk_at "go"
      refine rd_ixl (SqL.of e1) (at_of (j := 2) rfl rfl) ?_
      refine rd_i (.inl ⟨by decide, by decide⟩) ?_
      walk_at "go"
      refine rd_i (cpow5 h1 h2 (by omega) (by omega)) ?_
      walk_at "go"
      refine rd_i (by decide) ?_
      walk_at "go"
      refine rd_ixl (SqL.of e1) (at_of (j := 2) rfl rfl) ?_
      walk_at "go"
      refine rd_i (.inr ⟨by decide, by decide⟩) ?_
      walk_at "go"
      refine rd_i (by decide) ?_
      walk_at "go"
      refine rd_i ⟨by decide, by decide⟩ ?_
      walk_at "go"
      refine rd_i m0 ?_
      exact k _ _ (Int.emod_nonneg _ (by omega)) (Int.emod_lt_of_pos _ m0) ⟨d, s', c + 1, e1, h1, h2, by omega, by omega⟩ k1
end

end Cs
namespace Cs
open PySem L2
open PyProof.Rows (envOfC)
/-! data beside the source -/
theorem at_mem {xs : List V} {i : Int} (h0 : 0 ≤ i) (h1 : i < xs.length) : ∃ v, atI xs i = some v ∧ v ∈ xs := by
  obtain ⟨j, rfl⟩ : ∃ j : Nat, i = (j : Int) := ⟨i.toNat, by omega⟩
  have hj : j < xs.length := by omega
  exact ⟨xs[j], atI_nat (List.getElem?_eq_getElem hj), List.getElem_mem hj⟩
theorem hid_at {a b : Addr} {H : Hp} {o : HO} (n : b ≠ a) (e : H b = some o) : hid a H b = some o := by rw [hid_ne n]; exact e
abbrev DV (K : PySem.W.Frag) (a : Addr) (H : Hp) (v : V) (d : PyData) : Prop := Dp K (hid a H) v d
theorem DV.tup {K : PySem.W.Frag} {a p : Addr} {H : Hp} {xs : List V} {ds : List PyData} (n : p ≠ a) (e : H p = some (.tup xs)) (h : DpAll K (hid a H) xs ds) : DV K a H (.ref p) (.tuple ds) := L2.Dp.tup (SqT.of (hid_at n e)) h
theorem DV.lst {K : PySem.W.Frag} {a p : Addr} {H : Hp} {xs : List V} {ds : List PyData} (n : p ≠ a) (e : H p = some (.lst xs)) (h : DpAll K (hid a H) xs ds) : DV K a H (.ref p) (.list ds) := L2.Dp.lst (SqL.of (hid_at n e)) h
theorem DV.kp {K : PySem.W.Frag} {a : Addr} {H H' : Hp} {v : V} {d : PyData} (k : Kp a H H') (h : DV K a H v d) : DV K a H' v d := Dp.mono k h
theorem DV.at {K : PySem.W.Frag} {a : Addr} {H : Hp} {v : V} {d : PyData} (h : DV K a H v d) : Dp K H v d := Dp.mono hid_le h
theorem DVs.kp {K : PySem.W.Frag} {a : Addr} {H H' : Hp} {v : List V} {d : List PyData} (k : Kp a H H') (h : DpAll K (hid a H) v d) : DpAll K (hid a H') v d := DpAll.mono k h
/-- a new object, beside the source and what is kept -/
theorem rd_newK {a : Addr} {n : Nat} {H : Hp} {o : HO} {R : Addr → Hp → Prop} (hS : Src a n H) (k : ∀ p H', p ≠ a → H p = none → H' p = some o → Src a n H' → Kp a H H' → R p H') : New H o R := fun p hp =>
  k p _ (hS.ne hp) hp upd_same (hS.lay (hS.ne hp)) (Kp.refl.lay hp)
def dSet (cs : List Nat) : PyData := .tuple [.str (Str.ofString "set"), .str (S cs)]
theorem at_c {α : Type} {xs : List α} {z : Int} {j : Nat} {v : α} (e : z = 0 + (j : Int)) (h : xs[j]? = some v) : atI xs z = some v := by
  rw [e, Int.zero_add]
  exact atI_nat h
/-! data without lists: tuples that stand -/
def TS (H H' : Hp) : Prop := ∀ b xs, H b = some (.tup xs) → H' b = some (.tup xs)
theorem TS.refl {H : Hp} : TS H H := fun _ _ e => e
theorem TS.trans {H H1 H2 : Hp} (x : TS H H1) (y : TS H1 H2) : TS H H2 := fun b xs e => y b xs (x b xs e)
theorem TS.same {H H' : Hp} (s : Same H H') : TS H H' := fun b xs e => s b _ e
theorem TS.kp {a : Addr} {n : Nat} {H H' : Hp} (hS : Src a n H) (k : Kp a H H') : TS H H' := fun b xs e => by
  refine k.at (fun z => ?_) e
  obtain ⟨_, _, _, q, _⟩ := hS
  rw [z, q] at e; cases e
theorem TS.lay {p : Addr} {H : Hp} {o : HO} (n : H p = none) : TS H (upd H p o) := TS.same (Same.lay n)
theorem TS.set {p : Addr} {H : Hp} {xs : List V} {o : HO} (e : H p = some (.lst xs)) : TS H (upd H p o) := fun b ys q => by
  rw [upd_ne (fun z => by rw [z, e] at q; cases q)]; exact q
mutual
inductive Tp (H : Hp) : V → PyData → Prop
  | non : Tp H .non .none
  | bl (b : Bool) : Tp H (.bl b) (.bool b)
  | int (i : Int) : Tp H (.int i) (.int i)
  | str (x : Str) : Tp H (.str x) (.str x)
  | tup {a : Addr} {xs : List V} {ds : List PyData} : H a = some (.tup xs) → TpAll H xs ds → Tp H (.ref a) (.tuple ds)
inductive TpAll (H : Hp) : List V → List PyData → Prop
  | nil : TpAll H [] []
  | cons {v : V} {vs : List V} {d : PyData} {ds : List PyData} : Tp H v d → TpAll H vs ds → TpAll H (v :: vs) (d :: ds)
end
mutual
theorem Tp.ts {H H' : Hp} (s : TS H H') : ∀ {v : V} {d : PyData}, Tp H v d → Tp H' v d
  | _, _, .non => .non
  | _, _, .bl b => .bl b
  | _, _, .int i => .int i
  | _, _, .str x => .str x
  | _, _, .tup h t => .tup (s _ _ h) (TpAll.ts s t)
theorem TpAll.ts {H H' : Hp} (s : TS H H') : ∀ {vs : List V} {ds : List PyData}, TpAll H vs ds → TpAll H' vs ds
  | _, _, .nil => .nil
  | _, _, .cons h t => .cons (Tp.ts s h) (TpAll.ts s t)
end
mutual
theorem Tp.dp {K : PySem.W.Frag} {H : Hp} : ∀ {v : V} {d : PyData}, Tp H v d → Dp K H v d
  | _, _, .non => .non
  | _, _, .bl b => .bl b
  | _, _, .int i => .int i
  | _, _, .str x => .str x
  | _, _, .tup h t => .tup (SqT.of h) (TpAll.dp t)
theorem TpAll.dp {K : PySem.W.Frag} {H : Hp} : ∀ {vs : List V} {ds : List PyData}, TpAll H vs ds → DpAll K H vs ds
  | _, _, .nil => .nil
  | _, _, .cons h t => .cons (Tp.dp h) (TpAll.dp t)
end
theorem TS.hid {a : Addr} {n : Nat} {H : Hp} (hS : Src a n H) : TS H (Cs.hid a H) := fun b xs e => by
  rw [hid_ne (fun z => ?_)]; exact e
  obtain ⟨_, _, _, q, _⟩ := hS
  rw [z, q] at e; cases e
theorem Tp.dv {K : PySem.W.Frag} {a : Addr} {n : Nat} {H : Hp} {v : V} {d : PyData} (hS : Src a n H) (h : Tp H v d) : DV K a H v d := Tp.dp (Tp.ts (TS.hid hS) h)
theorem TpAll.length {H : Hp} : ∀ {vs : List V} {ds : List PyData}, TpAll H vs ds → vs.length = ds.length
  | _, _, .nil => rfl
  | _, _, .cons _ t => by rw [List.length_cons, List.length_cons, TpAll.length t]
theorem TpAll.app {H : Hp} : ∀ {vs ws : List V} {ds es : List PyData}, TpAll H vs ds → TpAll H ws es → TpAll H (vs ++ ws) (ds ++ es)
  | _, _, _, _, .nil, t => t
  | _, _, _, _, .cons h t, u => .cons h (TpAll.app t u)
theorem TpAll.drop {H : Hp} : ∀ {vs : List V} {ds : List PyData} (n : Nat), TpAll H vs ds → TpAll H (vs.drop n) (ds.drop n)
  | _, _, 0, t => t
  | _, _, _ + 1, .nil => .nil
  | _, _, n + 1, .cons _ t => TpAll.drop n t

end Cs
namespace Cs
open PySem L2
open PyProof.Rows (envOfC)
/-! bits of a set of places; pieces of an automaton, their languages -/
abbrev Lg := List Nat → Prop
def Pw (A : Lg) : Nat → Lg
  | 0, w => w = []
  | n + 1, w => ∃ u v, w = u ++ v ∧ A u ∧ Pw A n v
def RowL : List Lg → Lg
  | [], w => w = []
  | A :: As, w => ∃ u v, w = u ++ v ∧ A u ∧ RowL As v
abbrev Ed (f : List Nat) (k m : Nat) : Prop := (f.getD k 0).testBit m = true
def Qa (f : List Nat) (r : Nat → Nat) (l : Nat) : List Nat → Nat → Prop
  | [], k => l.testBit k = true
  | c :: w, k => ∃ m, Ed f k m ∧ (r c).testBit m = true ∧ Qa f r l w m
def PL (f : List Nat) (r : Nat → Nat) (e : Bool) (F L : Nat) : Lg
  | [] => e = true
  | c :: w => ∃ m, F.testBit m = true ∧ (r c).testBit m = true ∧ Qa f r L w m
structure POk (f : List Nat) (a b F L : Nat) : Prop where
  le : a ≤ b
  F : ∀ m, F.testBit m = true → a ≤ m ∧ m < b
  L : ∀ m, L.testBit m = true → a ≤ m ∧ m < b
  E : ∀ k m, a ≤ k → k < b → Ed f k m → a ≤ m ∧ m < b
/-- two machines agree on the places from a on ahead of b -/
structure Agr (f f' : List Nat) (r r' : Nat → Nat) (a b : Nat) : Prop where
  f : ∀ k, a ≤ k → k < b → f'.getD k 0 = f.getD k 0
  r : ∀ c m, a ≤ m → m < b → (r' c).testBit m = (r c).testBit m
theorem Agr.refl {f : List Nat} {r : Nat → Nat} {a b : Nat} : Agr f f r r a b := ⟨fun _ _ _ => rfl, fun _ _ _ _ => rfl⟩
theorem Agr.trans {f f' f'' : List Nat} {r r' r'' : Nat → Nat} {a b : Nat} (x : Agr f f' r r' a b) (y : Agr f' f'' r' r'' a b) : Agr f f'' r r'' a b :=
  ⟨fun k h1 h2 => (y.f k h1 h2).trans (x.f k h1 h2), fun c m h1 h2 => (y.r c m h1 h2).trans (x.r c m h1 h2)⟩
theorem Agr.sub {f f' : List Nat} {r r' : Nat → Nat} {a b a' b' : Nat} (x : Agr f f' r r' a b) (h1 : a ≤ a') (h2 : b' ≤ b) : Agr f f' r r' a' b' :=
  ⟨fun k q1 q2 => x.f k (Nat.le_trans h1 q1) (Nat.lt_of_lt_of_le q2 h2), fun c m q1 q2 => x.r c m (Nat.le_trans h1 q1) (Nat.lt_of_lt_of_le q2 h2)⟩
section
variable {f f' : List Nat} {r r' : Nat → Nat} {a b F L : Nat}
theorem Qa_agr (E : ∀ k m, a ≤ k → k < b → Ed f k m → a ≤ m ∧ m < b) (g : Agr f f' r r' a b) {l l' : Nat} (hl : ∀ m, a ≤ m → m < b → l'.testBit m = l.testBit m) : ∀ w k, a ≤ k → k < b → (Qa f' r' l' w k ↔ Qa f r l w k)
  | [], k, h1, h2 => by show l'.testBit k = true ↔ l.testBit k = true; rw [hl k h1 h2]
  | c :: w, k, h1, h2 => by
    constructor
    · rintro ⟨m, e, rc, q⟩
      have e' : Ed f k m := by unfold Ed at e ⊢; rw [← g.f k h1 h2]; exact e
      obtain ⟨m1, m2⟩ := E k m h1 h2 e'
      exact ⟨m, e', by rw [← g.r c m m1 m2]; exact rc, (Qa_agr E g hl w m m1 m2).mp q⟩
    · rintro ⟨m, e, rc, q⟩
      obtain ⟨m1, m2⟩ := E k m h1 h2 e
      exact ⟨m, by unfold Ed at e ⊢; rw [g.f k h1 h2]; exact e, by rw [g.r c m m1 m2]; exact rc, (Qa_agr E g hl w m m1 m2).mpr q⟩
theorem POk.agr (p : POk f a b F L) (g : Agr f f' r r' a b) : POk f' a b F L :=
  ⟨p.le, p.F, p.L, fun k m h1 h2 e => p.E k m h1 h2 (by unfold Ed at e ⊢; rw [← g.f k h1 h2]; exact e)⟩
theorem POk.pl (p : POk f a b F L) (g : Agr f f' r r' a b) {e : Bool} : ∀ w, PL f' r' e F L w ↔ PL f r e F L w
  | [] => Iff.rfl
  | c :: w => by
    constructor
    · rintro ⟨m, h, rc, q⟩
      obtain ⟨m1, m2⟩ := p.F m h
      exact ⟨m, h, by rw [← g.r c m m1 m2]; exact rc, (Qa_agr p.E g (fun _ _ _ => rfl) w m m1 m2).mp q⟩
    · rintro ⟨m, h, rc, q⟩
      obtain ⟨m1, m2⟩ := p.F m h
      exact ⟨m, h, by rw [g.r c m m1 m2]; exact rc, (Qa_agr p.E g (fun _ _ _ => rfl) w m m1 m2).mpr q⟩
end
/-! ### edges added -/
def linkF (f : List Nat) (b a : Nat) : List Nat := f.mapIdx fun k x => if b.testBit k then x ||| a else x
theorem linkF_len (f : List Nat) (b a : Nat) : (linkF f b a).length = f.length := by simp [linkF]
theorem linkF_get (f : List Nat) (b a k : Nat) (h : k < f.length) : (linkF f b a).getD k 0 = if b.testBit k then f.getD k 0 ||| a else f.getD k 0 := by
  simp [linkF, List.getD_eq_getElem?_getD, List.getElem?_mapIdx, h]
theorem linkF_no (f : List Nat) (b a k : Nat) (h : b.testBit k = false) : (linkF f b a).getD k 0 = f.getD k 0 := by
  by_cases q : k < f.length
  · rw [linkF_get _ _ _ _ q, h]; rfl
  · simp [linkF, List.getD_eq_getElem?_getD, List.getElem?_mapIdx, q]
theorem linkF_ed {f : List Nat} {b a k m : Nat} (h : k < f.length) : Ed (linkF f b a) k m ↔ Ed f k m ∨ (b.testBit k = true ∧ a.testBit m = true) := by
  unfold Ed
  rw [linkF_get _ _ _ _ h]
  cases e : b.testBit k
  · simp
  · simp [Nat.testBit_or]
theorem linkF_agr {f : List Nat} {r : Nat → Nat} {b a x y : Nat} (h : ∀ k, b.testBit k = true → ¬ (x ≤ k ∧ k < y)) : Agr f (linkF f b a) r r x y :=
  ⟨fun k h1 h2 => linkF_no _ _ _ _ (by cases e : b.testBit k with | false => rfl | true => exact absurd ⟨h1, h2⟩ (h k e)), fun _ _ _ _ => rfl⟩
theorem or_bit {x y m : Nat} : (x ||| y).testBit m = true ↔ x.testBit m = true ∨ y.testBit m = true := by simp [Nat.testBit_or]
theorem if_bit {c : Bool} {x y m : Nat} : (if c then x else y).testBit m = true ↔ (c = true ∧ x.testBit m = true) ∨ (c = false ∧ y.testBit m = true) := by cases c <;> simp
/-! ### one piece behind another -/
section
variable {f : List Nat} {r : Nat → Nat} {x y z F L F2 L2 : Nat} {e e2 : Bool} {A B : Lg}
theorem chain_q (p : POk f x y F L) (q : POk f y z F2 L2) (hz : z ≤ f.length) (hB : ∀ w, PL f r e2 F2 L2 w ↔ B w) :
    ∀ w k, x ≤ k → k < y → (Qa (linkF f L F2) r (if e2 then L ||| L2 else L2) w k ↔ ∃ u v, w = u ++ v ∧ Qa f r L u k ∧ B v)
  | [], k, h1, h2 => by
    have nk : L2.testBit k = false := by
      cases e : L2.testBit k with
      | false => rfl
      | true => have := (q.L k e).1; omega
    constructor
    · intro h
      have h : (if e2 then L ||| L2 else L2).testBit k = true := h
      rw [if_bit, or_bit, nk] at h
      rcases h with ⟨he, h | h⟩ | ⟨_, h⟩
      · exact ⟨[], [], rfl, h, (hB []).mp he⟩
      · cases h
      · cases h
    · rintro ⟨u, v, ew, h, hb⟩
      obtain ⟨rfl, rfl⟩ := List.append_eq_nil_iff.mp ew.symm
      have he : e2 = true := (hB []).mpr hb
      show (if e2 then L ||| L2 else L2).testBit k = true
      rw [if_bit, or_bit]
      exact .inl ⟨he, .inl h⟩
  | c :: w, k, h1, h2 => by
    have hk : k < f.length := by have := q.le; omega
    have ag : Agr f (linkF f L F2) r r y z := linkF_agr fun j hj => by have := p.L j hj; omega
    have sec : ∀ w m, y ≤ m → m < z → (Qa (linkF f L F2) r (if e2 then L ||| L2 else L2) w m ↔ Qa f r L2 w m) := fun w m m1 m2 => by
      refine Qa_agr q.E ag (fun j j1 j2 => ?_) w m m1 m2
      have nj : L.testBit j = false := by
        cases e : L.testBit j with
        | false => rfl
        | true => have := (p.L j e).2; omega
      cases e2
      · rfl
      · show (L ||| L2).testBit j = L2.testBit j
        rw [Nat.testBit_or, nj]; rfl
    constructor
    · rintro ⟨m, he, hr, hq⟩
      rcases (linkF_ed hk).mp he with he | ⟨hl, hf⟩
      · obtain ⟨m1, m2⟩ := p.E k m h1 h2 he
        obtain ⟨u, v, rfl, hu, hv⟩ := (chain_q p q hz hB w m m1 m2).mp hq
        exact ⟨c :: u, v, rfl, ⟨m, he, hr, hu⟩, hv⟩
      · obtain ⟨m1, m2⟩ := q.F m hf
        exact ⟨[], c :: w, rfl, hl, (hB (c :: w)).mp ⟨m, hf, hr, (sec w m m1 m2).mp hq⟩⟩
    · rintro ⟨u, v, ew, hu, hv⟩
      cases u with
      | nil =>
        have ev : v = c :: w := ew.symm
        subst ev
        obtain ⟨m, hf, hr, hq⟩ := (hB (c :: w)).mpr hv
        obtain ⟨m1, m2⟩ := q.F m hf
        exact ⟨m, (linkF_ed hk).mpr (.inr ⟨hu, hf⟩), hr, (sec w m m1 m2).mpr hq⟩
      | cons d u =>
        obtain ⟨ed, ew2⟩ := List.cons.inj ew
        cases ed; subst ew2
        obtain ⟨m, he, hr, hq⟩ := hu
        obtain ⟨m1, m2⟩ := p.E k m h1 h2 he
        exact ⟨m, (linkF_ed hk).mpr (.inl he), hr, (chain_q p q hz hB (u ++ v) m m1 m2).mpr ⟨u, v, rfl, hq, hv⟩⟩
theorem chain_step (p : POk f x y F L) (q : POk f y z F2 L2) (hz : z ≤ f.length) (hA : ∀ w, PL f r e F L w ↔ A w) (hB : ∀ w, PL f r e2 F2 L2 w ↔ B w) :
    POk (linkF f L F2) x z (if e then F ||| F2 else F) (if e2 then L ||| L2 else L2) ∧ ∀ w, PL (linkF f L F2) r (e && e2) (if e then F ||| F2 else F) (if e2 then L ||| L2 else L2) w ↔ ∃ u v, w = u ++ v ∧ A u ∧ B v := by
  have l1 := p.le
  have l2 := q.le
  refine ⟨⟨by omega, fun m h => ?_, fun m h => ?_, fun k m h1 h2 h => ?_⟩, fun w => ?_⟩
  · rw [if_bit, or_bit] at h
    rcases h with ⟨_, h | h⟩ | ⟨_, h⟩
    · have := p.F m h; omega
    · have := q.F m h; omega
    · have := p.F m h; omega
  · rw [if_bit, or_bit] at h
    rcases h with ⟨_, h | h⟩ | ⟨_, h⟩
    · have := p.L m h; omega
    · have := q.L m h; omega
    · have := q.L m h; omega
  · rcases (linkF_ed (by omega)).mp h with h | ⟨h, h'⟩
    · by_cases hk : k < y
      · have := p.E k m h1 hk h; omega
      · have := q.E k m (by omega) h2 h; omega
    · have := q.F m h'; omega
  · have cq := chain_q (e2 := e2) p q hz hB
    cases w with
    | nil =>
      constructor
      · intro h
        have h : (e && e2) = true := h
        rw [Bool.and_eq_true] at h
        exact ⟨[], [], rfl, (hA []).mp h.1, (hB []).mp h.2⟩
      · rintro ⟨u, v, ew, ha, hb⟩
        obtain ⟨rfl, rfl⟩ := List.append_eq_nil_iff.mp ew.symm
        show (e && e2) = true
        rw [Bool.and_eq_true]
        exact ⟨(hA []).mpr ha, (hB []).mpr hb⟩
    | cons c w =>
      have ag : Agr f (linkF f L F2) r r y z := linkF_agr fun j hj => by have := p.L j hj; omega
      have sec : ∀ w m, y ≤ m → m < z → (Qa (linkF f L F2) r (if e2 then L ||| L2 else L2) w m ↔ Qa f r L2 w m) := fun w m m1 m2 => by
        refine Qa_agr q.E ag (fun j j1 j2 => ?_) w m m1 m2
        have nj : L.testBit j = false := by
          cases e : L.testBit j with
          | false => rfl
          | true => have := (p.L j e).2; omega
        cases e2
        · rfl
        · show (L ||| L2).testBit j = L2.testBit j
          rw [Nat.testBit_or, nj]; rfl
      constructor
      · rintro ⟨m, hf, hr, hq⟩
        rw [if_bit, or_bit] at hf
        have one : F.testBit m = true → ∃ u v, c :: w = u ++ v ∧ A u ∧ B v := fun hf => by
          obtain ⟨m1, m2⟩ := p.F m hf
          obtain ⟨u, v, rfl, hu, hv⟩ := (cq w m m1 m2).mp hq
          exact ⟨c :: u, v, rfl, (hA _).mp ⟨m, hf, hr, hu⟩, hv⟩
        rcases hf with ⟨he, hf | hf⟩ | ⟨_, hf⟩
        · exact one hf
        · obtain ⟨m1, m2⟩ := q.F m hf
          exact ⟨[], c :: w, rfl, (hA []).mp he, (hB _).mp ⟨m, hf, hr, (sec w m m1 m2).mp hq⟩⟩
        · exact one hf
      · rintro ⟨u, v, ew, hu, hv⟩
        cases u with
        | nil =>
          have ev : v = c :: w := ew.symm
          subst ev
          have he : e = true := (hA []).mpr hu
          obtain ⟨m, hf, hr, hq⟩ := (hB (c :: w)).mpr hv
          obtain ⟨m1, m2⟩ := q.F m hf
          exact ⟨m, by rw [if_bit, or_bit]; exact .inl ⟨he, .inr hf⟩, hr, (sec w m m1 m2).mpr hq⟩
        | cons d u =>
          obtain ⟨ed, ew2⟩ := List.cons.inj ew
          cases ed; subst ew2
          obtain ⟨m, hf, hr, hq⟩ := (hA (c :: u)).mpr hu
          obtain ⟨m1, m2⟩ := p.F m hf
          refine ⟨m, ?_, hr, (cq (u ++ v) m m1 m2).mpr ⟨u, v, rfl, hq, hv⟩⟩
          rw [if_bit, or_bit]
          cases e
          · exact .inr ⟨rfl, hf⟩
          · exact .inl ⟨rfl, .inl hf⟩
/-! ### one piece or another -/
theorem choice_step (p : POk f x y F L) (q : POk f y z F2 L2) (hA : ∀ w, PL f r e F L w ↔ A w) (hB : ∀ w, PL f r e2 F2 L2 w ↔ B w) :
    POk f x z (F ||| F2) (L ||| L2) ∧ ∀ w, PL f r (e || e2) (F ||| F2) (L ||| L2) w ↔ A w ∨ B w := by
  have l1 := p.le
  have l2 := q.le
  refine ⟨⟨by omega, fun m h => ?_, fun m h => ?_, fun k m h1 h2 h => ?_⟩, fun w => ?_⟩
  · rw [or_bit] at h
    rcases h with h | h
    · have := p.F m h; omega
    · have := q.F m h; omega
  · rw [or_bit] at h
    rcases h with h | h
    · have := p.L m h; omega
    · have := q.L m h; omega
  · by_cases hk : k < y
    · have := p.E k m h1 hk h; omega
    · have := q.E k m (by omega) h2 h; omega
  · cases w with
    | nil =>
      have := hA []
      have := hB []
      simp only [PL, Bool.or_eq_true] at *
      rw [← hA [], ← hB []]
    | cons c w =>
      have fir : ∀ w m, x ≤ m → m < y → (Qa f r (L ||| L2) w m ↔ Qa f r L w m) := fun w m m1 m2 => by
        refine Qa_agr p.E .refl (fun j j1 j2 => ?_) w m m1 m2
        have nj : L2.testBit j = false := by
          cases e : L2.testBit j with
          | false => rfl
          | true => have := (q.L j e).1; omega
        rw [Nat.testBit_or, nj]; simp
      have sec : ∀ w m, y ≤ m → m < z → (Qa f r (L ||| L2) w m ↔ Qa f r L2 w m) := fun w m m1 m2 => by
        refine Qa_agr q.E .refl (fun j j1 j2 => ?_) w m m1 m2
        have nj : L.testBit j = false := by
          cases e : L.testBit j with
          | false => rfl
          | true => have := (p.L j e).2; omega
        rw [Nat.testBit_or, nj]; rfl
      constructor
      · rintro ⟨m, hf, hr, hq⟩
        rw [or_bit] at hf
        rcases hf with hf | hf
        · obtain ⟨m1, m2⟩ := p.F m hf
          exact .inl ((hA _).mp ⟨m, hf, hr, (fir w m m1 m2).mp hq⟩)
        · obtain ⟨m1, m2⟩ := q.F m hf
          exact .inr ((hB _).mp ⟨m, hf, hr, (sec w m m1 m2).mp hq⟩)
      · rintro (h | h)
        · obtain ⟨m, hf, hr, hq⟩ := (hA (c :: w)).mpr h
          obtain ⟨m1, m2⟩ := p.F m hf
          exact ⟨m, or_bit.mpr (.inl hf), hr, (fir w m m1 m2).mpr hq⟩
        · obtain ⟨m, hf, hr, hq⟩ := (hB (c :: w)).mpr h
          obtain ⟨m1, m2⟩ := q.F m hf
          exact ⟨m, or_bit.mpr (.inr hf), hr, (sec w m m1 m2).mpr hq⟩
/-! ### a piece again and again -/
theorem pow_cons {A : Lg} : ∀ {n : Nat} {c : Nat} {w : List Nat}, Pw A n (c :: w) → ∃ u v j, w = u ++ v ∧ A (c :: u) ∧ Pw A j v ∧ j < n ∧ (A [] ∨ j + 1 = n)
  | 0, _, _, h => by cases h
  | n + 1, c, w, ⟨u, v, ew, ha, hp⟩ => by
    cases u with
    | nil =>
      have ev : v = c :: w := ew.symm
      subst ev
      obtain ⟨u, v, j, h1, h2, h3, h4, h5⟩ := pow_cons hp
      exact ⟨u, v, j, h1, h2, h3, by omega, .inl ha⟩
    | cons d u =>
      obtain ⟨ed, ew2⟩ := List.cons.inj ew
      cases ed; subst ew2
      exact ⟨u, v, n, rfl, ha, hp, by omega, .inr rfl⟩
theorem loop_q (p : POk f x y F L) (hy : y ≤ f.length) (hA : ∀ w, PL f r e F L w ↔ A w) :
    ∀ w k, x ≤ k → k < y → (Qa (linkF f L F) r L w k ↔ ∃ u v, w = u ++ v ∧ Qa f r L u k ∧ ∃ n, Pw A n v)
  | [], k, h1, h2 => by
    constructor
    · intro h; exact ⟨[], [], rfl, h, 0, rfl⟩
    · rintro ⟨u, v, ew, h, _⟩
      obtain ⟨rfl, rfl⟩ := List.append_eq_nil_iff.mp ew.symm
      exact h
  | c :: w, k, h1, h2 => by
    have hk : k < f.length := by omega
    constructor
    · rintro ⟨m, he, hr, hq⟩
      rcases (linkF_ed hk).mp he with he | ⟨hl, hf⟩
      · obtain ⟨m1, m2⟩ := p.E k m h1 h2 he
        obtain ⟨u, v, rfl, hu, hv⟩ := (loop_q p hy hA w m m1 m2).mp hq
        exact ⟨c :: u, v, rfl, ⟨m, he, hr, hu⟩, hv⟩
      · obtain ⟨m1, m2⟩ := p.F m hf
        obtain ⟨u, v, rfl, hu, n, hv⟩ := (loop_q p hy hA w m m1 m2).mp hq
        exact ⟨[], c :: (u ++ v), rfl, hl, n + 1, c :: u, v, rfl, (hA _).mp ⟨m, hf, hr, hu⟩, hv⟩
    · rintro ⟨u, v, ew, hu, n, hv⟩
      cases u with
      | nil =>
        have ev : v = c :: w := ew.symm
        subst ev
        obtain ⟨u, v, j, rfl, ha, hj, _⟩ := pow_cons hv
        obtain ⟨m, hf, hr, hq⟩ := (hA (c :: u)).mpr ha
        obtain ⟨m1, m2⟩ := p.F m hf
        exact ⟨m, (linkF_ed hk).mpr (.inr ⟨hu, hf⟩), hr, (loop_q p hy hA (u ++ v) m m1 m2).mpr ⟨u, v, rfl, hq, j, hj⟩⟩
      | cons d u =>
        obtain ⟨ed, ew2⟩ := List.cons.inj ew
        cases ed; subst ew2
        obtain ⟨m, he, hr, hq⟩ := hu
        obtain ⟨m1, m2⟩ := p.E k m h1 h2 he
        exact ⟨m, (linkF_ed hk).mpr (.inl he), hr, (loop_q p hy hA (u ++ v) m m1 m2).mpr ⟨u, v, rfl, hq, n, hv⟩⟩
theorem loop_step (p : POk f x y F L) (hy : y ≤ f.length) (hA : ∀ w, PL f r e F L w ↔ A w) :
    POk (linkF f L F) x y F L ∧ ∀ w, PL (linkF f L F) r true F L w ↔ ∃ n, Pw A n w := by
  refine ⟨⟨p.le, p.F, p.L, fun k m h1 h2 h => ?_⟩, fun w => ?_⟩
  · rcases (linkF_ed (by omega)).mp h with h | ⟨_, h⟩
    · exact p.E k m h1 h2 h
    · exact p.F m h
  · cases w with
    | nil => exact ⟨fun _ => ⟨0, rfl⟩, fun _ => rfl⟩
    | cons c w =>
      constructor
      · rintro ⟨m, hf, hr, hq⟩
        obtain ⟨m1, m2⟩ := p.F m hf
        obtain ⟨u, v, rfl, hu, n, hv⟩ := (loop_q p hy hA w m m1 m2).mp hq
        exact ⟨n + 1, c :: u, v, rfl, (hA _).mp ⟨m, hf, hr, hu⟩, hv⟩
      · rintro ⟨n, h⟩
        obtain ⟨u, v, j, rfl, ha, hj, _⟩ := pow_cons h
        obtain ⟨m, hf, hr, hq⟩ := (hA (c :: u)).mpr ha
        obtain ⟨m1, m2⟩ := p.F m hf
        exact ⟨m, hf, hr, (loop_q p hy hA (u ++ v) m m1 m2).mpr ⟨u, v, rfl, hq, j, hj⟩⟩
/-- with e true, the empty text too -/
theorem pl_true (hA : ∀ w, PL f r e F L w ↔ A w) (w : List Nat) : PL f r true F L w ↔ w = [] ∨ A w := by
  cases w with
  | nil => exact ⟨fun _ => .inl rfl, fun _ => rfl⟩
  | cons c w =>
    rw [← hA (c :: w)]
    exact ⟨fun h => .inr h, fun h => h.elim (fun q => nomatch q) id⟩
end

end Cs
namespace Cs
open PySem L2
open PyProof.Rows (envOfC)
/-! patterns as trees and the texts that they match -/
inductive Pt
  | set (cs : List Nat)
  | row (ps : List Pt)
  | any (ps : List Pt)
  | all (ps : List Pt)
  | no (p : Pt)
  | again (p : Pt) (lo : Nat) (hi : Option Nat)
mutual
def Pt.L : Pt → Lg
  | .set cs, w => ∃ c, c ∈ cs ∧ w = [c]
  | .row ps, w => Pt.LRow ps w
  | .any ps, w => Pt.LAny ps w
  | .all ps, w => Pt.LAll ps w
  | .no p, w => ¬ Pt.L p w
  | .again p lo hi, w => ∃ n, lo ≤ n ∧ (∀ h, hi = some h → n ≤ h) ∧ Pw (Pt.L p) n w
def Pt.LRow : List Pt → Lg
  | [], w => w = []
  | p :: ps, w => ∃ u v, w = u ++ v ∧ Pt.L p u ∧ Pt.LRow ps v
def Pt.LAny : List Pt → Lg
  | [], _ => False
  | p :: ps, w => Pt.L p w ∨ Pt.LAny ps w
def Pt.LAll : List Pt → Lg
  | [], _ => True
  | p :: ps, w => Pt.L p w ∧ Pt.LAll ps w
end
theorem Pt.LRow_eq : ∀ (ps : List Pt) (w : List Nat), Pt.LRow ps w ↔ RowL (ps.map Pt.L) w
  | [], w => by simp [Pt.LRow, RowL]
  | p :: ps, w => by simp only [Pt.LRow, List.map_cons, RowL, Pt.LRow_eq ps]
theorem Pt.LAny_eq : ∀ (ps : List Pt) (w : List Nat), Pt.LAny ps w ↔ ∃ A ∈ ps.map Pt.L, A w
  | [], w => by simp [Pt.LAny]
  | p :: ps, w => by
    rw [Pt.LAny, List.map_cons, Pt.LAny_eq ps]
    constructor
    · rintro (h | ⟨A, h, q⟩)
      · exact ⟨_, List.mem_cons_self, h⟩
      · exact ⟨A, List.mem_cons_of_mem _ h, q⟩
    · rintro ⟨A, h, q⟩
      rcases List.mem_cons.mp h with rfl | h
      · exact .inl q
      · exact .inr ⟨A, h, q⟩
/-! ### pieces side by side -/
inductive Pcs (f : List Nat) (r : Nat → Nat) : Nat → List (Bool × Nat × Nat) → Nat → List Lg → Prop
  | nil {a : Nat} : Pcs f r a [] a []
  | cons {a b c : Nat} {e : Bool} {F L : Nat} {A : Lg} {ps : List (Bool × Nat × Nat)} {As : List Lg} : POk f a b F L → (∀ w, PL f r e F L w ↔ A w) → Pcs f r b ps c As → Pcs f r a ((e, F, L) :: ps) c (A :: As)
theorem Pcs.le {f : List Nat} {r : Nat → Nat} : ∀ {a b : Nat} {ps : List (Bool × Nat × Nat)} {As : List Lg}, Pcs f r a ps b As → a ≤ b
  | _, _, _, _, .nil => Nat.le_refl _
  | _, _, _, _, .cons p _ t => Nat.le_trans p.le t.le
theorem Pcs.agr {f f' : List Nat} {r r' : Nat → Nat} : ∀ {a b : Nat} {ps : List (Bool × Nat × Nat)} {As : List Lg}, Pcs f r a ps b As → Agr f f' r r' a b → Pcs f' r' a ps b As
  | _, _, _, _, .nil, _ => .nil
  | _, _, _, _, .cons p q t, g => .cons (p.agr (g.sub (Nat.le_refl _) t.le)) (fun w => (p.pl (g.sub (Nat.le_refl _) t.le) w).trans (q w)) (t.agr (g.sub p.le (Nat.le_refl _)))
theorem Pcs.snoc {f : List Nat} {r : Nat → Nat} {b c : Nat} {e : Bool} {F L : Nat} {A : Lg} (p : POk f b c F L) (q : ∀ w, PL f r e F L w ↔ A w) : ∀ {a : Nat} {ps : List (Bool × Nat × Nat)} {As : List Lg}, Pcs f r a ps b As → Pcs f r a (ps ++ [(e, F, L)]) c (As ++ [A])
  | _, _, _, .nil => .cons p q .nil
  | _, _, _, .cons p' q' t => .cons p' q' (t.snoc p q)
theorem Pcs.app {f : List Nat} {r : Nat → Nat} : ∀ {a b c : Nat} {ps qs : List (Bool × Nat × Nat)} {As Bs : List Lg}, Pcs f r a ps b As → Pcs f r b qs c Bs → Pcs f r a (ps ++ qs) c (As ++ Bs)
  | _, _, _, _, _, _, _, .nil, u => u
  | _, _, _, _, _, _, _, .cons p q t, u => .cons p q (t.app u)
theorem Pcs.length {f : List Nat} {r : Nat → Nat} : ∀ {a b : Nat} {ps : List (Bool × Nat × Nat)} {As : List Lg}, Pcs f r a ps b As → ps.length = As.length
  | _, _, _, _, .nil => rfl
  | _, _, _, _, .cons _ _ t => congrArg Nat.succ t.length
/-- each may be missing -/
theorem Pcs.opt {f : List Nat} {r : Nat → Nat} : ∀ {a b : Nat} {ps : List (Bool × Nat × Nat)} {As : List Lg}, Pcs f r a ps b As → Pcs f r a (ps.map fun x => (true, x.2.1, x.2.2)) b (As.map fun A w => w = [] ∨ A w)
  | _, _, _, _, .nil => .nil
  | _, _, _, _, .cons p q t => .cons p (pl_true q) t.opt
/-- the machine grows: what was there stays, but for the edges from the first place -/
structure Grow (f f' : List Nat) (r r' : Nat → Nat) : Prop where
  len : f.length ≤ f'.length
  fe : ∀ k, k < f.length → f'.getD k 0 = f.getD k 0
  re : ∀ c m, m < f.length → (r' c).testBit m = (r c).testBit m
theorem Grow.refl {f : List Nat} {r : Nat → Nat} : Grow f f r r := ⟨Nat.le_refl _, fun _ _ => rfl, fun _ _ _ => rfl⟩
theorem Grow.trans {f f' f'' : List Nat} {r r' r'' : Nat → Nat} (x : Grow f f' r r') (y : Grow f' f'' r' r'') : Grow f f'' r r'' :=
  ⟨Nat.le_trans x.len y.len, fun k h => (y.fe k (Nat.lt_of_lt_of_le h x.len)).trans (x.fe k h), fun c m h => (y.re c m (Nat.lt_of_lt_of_le h x.len)).trans (x.re c m h)⟩
theorem Grow.agr {f f' : List Nat} {r r' : Nat → Nat} (x : Grow f f' r r') {a b : Nat} (h : b ≤ f.length) : Agr f f' r r' a b := ⟨fun k _ k2 => x.fe k (Nat.lt_of_lt_of_le k2 h), fun c m _ m2 => x.re c m (Nat.lt_of_lt_of_le m2 h)⟩
/-- what stands: no place is read that is not there, no edge leads out of the machine or to its first place, and but for the edges from there none crosses into the places from n on -/
structure Mach (f : List Nat) (r : Nat → Nat) : Prop where
  r : ∀ c m, (r c).testBit m = true → m < f.length
  e : ∀ k m, Ed f k m → 1 ≤ m ∧ m < f.length
  one : 1 ≤ f.length
theorem Grow.link {f : List Nat} {r : Nat → Nat} {b a n : Nat} (h : ∀ k, b.testBit k = true → n ≤ k) (hn : n ≤ f.length) {f0 : List Nat} {r0 : Nat → Nat} (h0 : f0.length = n) (g : Grow f0 f r0 r) : Grow f0 (linkF f b a) r0 r :=
  ⟨by rw [linkF_len]; exact g.len, fun k hk => by
    rw [linkF_no _ _ _ _ (by
      cases e : b.testBit k with
      | false => rfl
      | true => have := h k e; omega)]
    exact g.fe k hk, g.re⟩
theorem Mach.link {f : List Nat} {r : Nat → Nat} {b a x y : Nat} (M : Mach f r) (h : ∀ m, a.testBit m = true → x ≤ m ∧ m < y) (hx : 1 ≤ x) (hy : y ≤ f.length) : Mach (linkF f b a) r :=
  ⟨fun c m q => by rw [linkF_len]; exact M.r c m q, fun k m q => by
    rw [linkF_len]
    by_cases hk : k < f.length
    · rcases (linkF_ed hk).mp q with q | ⟨_, q⟩
      · exact M.e k m q
      · have := h m q; omega
    · unfold Ed at q
      rw [List.getD_eq_getElem?_getD, List.getElem?_eq_none (by rw [linkF_len]; omega)] at q
      simp at q, by rw [linkF_len]; exact M.one⟩
/-! ### a set -/
def addR (r : Nat → Nat) (cs : List Nat) (b : Nat) : Nat → Nat := fun c => if c ∈ cs then r c ||| b else r c
theorem pow2_bit {n m : Nat} : (2 ^ n).testBit m = true ↔ m = n := by
  rw [Nat.testBit_two_pow]; simp [eq_comm]
theorem set_piece {f : List Nat} {r : Nat → Nat} {cs : List Nat} (M : Mach f r) :
    Grow f (f ++ [0]) r (addR r cs (2 ^ f.length)) ∧ Mach (f ++ [0]) (addR r cs (2 ^ f.length)) ∧ POk (f ++ [0]) f.length (f.length + 1) (2 ^ f.length) (2 ^ f.length) ∧
    ∀ w, PL (f ++ [0]) (addR r cs (2 ^ f.length)) false (2 ^ f.length) (2 ^ f.length) w ↔ (Pt.set cs).L w := by
  have hbit : ∀ c m, (addR r cs (2 ^ f.length) c).testBit m = true ↔ (r c).testBit m = true ∨ (c ∈ cs ∧ m = f.length) := fun c m => by
    unfold addR
    by_cases h : c ∈ cs
    · rw [if_pos h, or_bit, pow2_bit]; simp [h]
    · rw [if_neg h]; simp [h]
  have hno : ∀ c, (r c).testBit f.length = false := fun c => by
    cases e : (r c).testBit f.length with
    | false => rfl
    | true => have := M.r c _ e; omega
  have g0 : ∀ k, (f ++ [0]).getD k 0 = f.getD k 0 := fun k => by
    rw [List.getD_eq_getElem?_getD, List.getD_eq_getElem?_getD]
    by_cases h : k < f.length
    · rw [List.getElem?_append_left h]
    · rw [List.getElem?_append_right (by omega), List.getElem?_eq_none (l := f) (by omega)]
      cases q : k - f.length <;> simp
  refine ⟨⟨by simp, fun k hk => g0 k, fun c m hm => ?_⟩, ⟨fun c m h => ?_, fun k m h => ?_, by simp⟩, ⟨by omega, fun m h => ?_, fun m h => ?_, fun k m h1 h2 h => ?_⟩, fun w => ?_⟩
  · rw [Bool.eq_iff_iff, hbit]
    constructor
    · rintro (h | ⟨_, h⟩)
      · exact h
      · omega
    · exact .inl
  · rw [List.length_append, List.length_singleton]
    rcases (hbit c m).mp h with h | ⟨_, h⟩
    · have := M.r c m h; omega
    · omega
  · unfold Ed at h
    rw [g0] at h
    have := M.e k m h
    rw [List.length_append, List.length_singleton]; omega
  · rw [pow2_bit] at h; omega
  · rw [pow2_bit] at h; omega
  · unfold Ed at h
    rw [g0] at h
    have : k = f.length := by omega
    subst this
    rw [List.getD_eq_getElem?_getD, List.getElem?_eq_none (Nat.le_refl _)] at h
    simp at h
  · show _ ↔ Pt.L (Pt.set cs) w
    rw [Pt.L]
    cases w with
    | nil => simp [PL]
    | cons c w =>
      constructor
      · rintro ⟨m, h, hr, q⟩
        rw [pow2_bit] at h
        subst h
        rcases (hbit c _).mp hr with hr | ⟨hc, _⟩
        · rw [hno] at hr; cases hr
        · cases w with
          | nil => exact ⟨c, hc, rfl⟩
          | cons d w =>
            obtain ⟨m, h, _⟩ := q
            unfold Ed at h
            rw [g0, List.getD_eq_getElem?_getD, List.getElem?_eq_none (Nat.le_refl _)] at h
            simp at h
      · rintro ⟨d, hd, e⟩
        cases e
        exact ⟨f.length, pow2_bit.mpr rfl, (hbit c _).mpr (.inr ⟨hd, rfl⟩), pow2_bit.mpr rfl⟩
/-! ### again -/
theorem RowL_app : ∀ (As Bs : List Lg) (w : List Nat), RowL (As ++ Bs) w ↔ ∃ u v, w = u ++ v ∧ RowL As u ∧ RowL Bs v
  | [], Bs, w => by
    constructor
    · intro h; exact ⟨[], w, rfl, rfl, h⟩
    · rintro ⟨u, v, rfl, h, q⟩
      have : u = [] := h
      subst this
      exact q
  | A :: As, Bs, w => by
    constructor
    · rintro ⟨u, v, rfl, ha, h⟩
      obtain ⟨x, y, rfl, h1, h2⟩ := (RowL_app As Bs v).mp h
      exact ⟨u ++ x, y, by rw [List.append_assoc], ⟨u, x, rfl, ha, h1⟩, h2⟩
    · rintro ⟨u, v, rfl, ⟨x, y, rfl, ha, h1⟩, h2⟩
      exact ⟨x, y ++ v, by rw [List.append_assoc], ha, (RowL_app As Bs (y ++ v)).mpr ⟨y, v, rfl, h1, h2⟩⟩
theorem RowL_rep (A : Lg) : ∀ (n : Nat) (w : List Nat), RowL (List.replicate n A) w ↔ Pw A n w
  | 0, w => Iff.rfl
  | n + 1, w => by
    rw [List.replicate_succ]
    constructor
    · rintro ⟨u, v, h, ha, q⟩; exact ⟨u, v, h, ha, (RowL_rep A n v).mp q⟩
    · rintro ⟨u, v, h, ha, q⟩; exact ⟨u, v, h, ha, (RowL_rep A n v).mpr q⟩
theorem RowL_opt (A : Lg) : ∀ (n : Nat) (w : List Nat), RowL (List.replicate n fun w => w = [] ∨ A w) w ↔ ∃ j, j ≤ n ∧ Pw A j w
  | 0, w => ⟨fun h => ⟨0, Nat.le_refl _, h⟩, fun ⟨j, h, q⟩ => by
    have : j = 0 := by omega
    subst this; exact q⟩
  | n + 1, w => by
    rw [List.replicate_succ]
    constructor
    · rintro ⟨u, v, rfl, ha, q⟩
      obtain ⟨j, hj, q⟩ := (RowL_opt A n v).mp q
      rcases ha with rfl | ha
      · exact ⟨j, by omega, q⟩
      · exact ⟨j + 1, by omega, u, v, rfl, ha, q⟩
    · rintro ⟨j, hj, q⟩
      cases j with
      | zero =>
        have : w = [] := q
        subst this
        exact ⟨[], [], rfl, .inl rfl, (RowL_opt A n []).mpr ⟨0, by omega, rfl⟩⟩
      | succ j =>
        obtain ⟨u, v, rfl, ha, q⟩ := q
        exact ⟨u, v, rfl, .inr ha, (RowL_opt A n v).mpr ⟨j, by omega, q⟩⟩
theorem Pw_add (A : Lg) : ∀ (n m : Nat) (w : List Nat), Pw A (n + m) w ↔ ∃ u v, w = u ++ v ∧ Pw A n u ∧ Pw A m v := fun n m w => by
  rw [← RowL_rep, ← List.replicate_append_replicate, RowL_app]
  simp only [RowL_rep]
theorem again_some {p : Pt} {lo h : Nat} (hl : lo ≤ h) (w : List Nat) : RowL (List.replicate lo p.L ++ List.replicate (h - lo) fun w => w = [] ∨ p.L w) w ↔ (Pt.again p lo (some h)).L w := by
  rw [RowL_app, Pt.L]
  constructor
  · rintro ⟨u, v, rfl, h1, h2⟩
    obtain ⟨j, hj, q⟩ := (RowL_opt p.L _ v).mp h2
    exact ⟨lo + j, by omega, fun x e => by cases e; omega, (Pw_add _ _ _ _).mpr ⟨u, v, rfl, (RowL_rep _ _ _).mp h1, q⟩⟩
  · rintro ⟨n, h1, h2, q⟩
    have h3 := h2 h rfl
    obtain ⟨j, rfl⟩ := Nat.exists_eq_add_of_le h1
    obtain ⟨u, v, rfl, a, b⟩ := (Pw_add _ _ _ _).mp q
    exact ⟨u, v, rfl, (RowL_rep _ _ _).mpr a, (RowL_opt p.L _ v).mpr ⟨j, by omega, b⟩⟩
theorem again_none {p : Pt} {lo : Nat} (w : List Nat) : RowL (List.replicate lo p.L ++ [fun w => ∃ n, Pw p.L n w]) w ↔ (Pt.again p lo none).L w := by
  rw [RowL_app, Pt.L]
  constructor
  · rintro ⟨u, v, rfl, h1, x, y, rfl, ⟨n, q⟩, hy⟩
    have : y = [] := hy
    subst this
    rw [List.append_nil]
    exact ⟨lo + n, by omega, (fun _ e => nomatch e), (Pw_add _ _ _ _).mpr ⟨u, x, rfl, (RowL_rep _ _ _).mp h1, q⟩⟩
  · rintro ⟨n, h1, _, q⟩
    obtain ⟨j, rfl⟩ := Nat.exists_eq_add_of_le h1
    obtain ⟨u, v, rfl, a, b⟩ := (Pw_add _ _ _ _).mp q
    exact ⟨u, v, rfl, (RowL_rep _ _ _).mpr a, v, [], by simp, ⟨j, b⟩, rfl⟩
/-! ### what a state means -/
inductive Vd
  | ends (t : Nat)
  | any (vs : List Vd)
  | all (vs : List Vd)
  | no (v : Vd)
mutual
def Vd.h : Vd → Nat → Bool
  | .ends t, s => (t &&& s) != 0
  | .any vs, s => Vd.hAny vs s
  | .all vs, s => Vd.hAll vs s
  | .no v, s => !Vd.h v s
def Vd.hAny : List Vd → Nat → Bool
  | [], _ => false
  | v :: vs, s => Vd.h v s || Vd.hAny vs s
def Vd.hAll : List Vd → Nat → Bool
  | [], _ => true
  | v :: vs, s => Vd.h v s && Vd.hAll vs s
end
/-- one step of a state: all that follows -/
def stepB (f : List Nat) (s : Nat) : Nat := (List.range f.length).foldl (fun a k => if s.testBit k then a ||| f.getD k 0 else a) 0
def stepF (f : List Nat) (r : Nat → Nat) (s c : Nat) : Nat := stepB f s &&& r c
def runF (f : List Nat) (r : Nat → Nat) (w : List Nat) : Nat := w.foldl (stepF f r) 1
theorem fold_bit (f : List Nat) (s m : Nat) : ∀ (ks : List Nat) (a : Nat), (ks.foldl (fun a k => if s.testBit k then a ||| f.getD k 0 else a) a).testBit m = true ↔ a.testBit m = true ∨ ∃ k ∈ ks, s.testBit k = true ∧ Ed f k m
  | [], a => by simp
  | k :: ks, a => by
    rw [List.foldl_cons, fold_bit f s m ks]
    by_cases h : s.testBit k = true
    · rw [if_pos h, or_bit]
      constructor
      · rintro ((q | q) | ⟨j, hj, q⟩)
        · exact .inl q
        · exact .inr ⟨k, List.mem_cons_self, h, q⟩
        · exact .inr ⟨j, List.mem_cons_of_mem _ hj, q⟩
      · rintro (q | ⟨j, hj, q⟩)
        · exact .inl (.inl q)
        · rcases List.mem_cons.mp hj with rfl | hj
          · exact .inl (.inr q.2)
          · exact .inr ⟨j, hj, q⟩
    · rw [if_neg h]
      constructor
      · rintro (q | ⟨j, hj, q⟩)
        · exact .inl q
        · exact .inr ⟨j, List.mem_cons_of_mem _ hj, q⟩
      · rintro (q | ⟨j, hj, q⟩)
        · exact .inl q
        · rcases List.mem_cons.mp hj with rfl | hj
          · exact absurd q.1 h
          · exact .inr ⟨j, hj, q⟩
theorem stepF_bit {f : List Nat} {r : Nat → Nat} {s c m : Nat} : (stepF f r s c).testBit m = true ↔ (r c).testBit m = true ∧ ∃ k, s.testBit k = true ∧ Ed f k m := by
  unfold stepF stepB
  rw [Nat.testBit_and, Bool.and_eq_true, fold_bit]
  constructor
  · rintro ⟨h | ⟨k, _, hs, he⟩, hr⟩
    · simp at h
    · exact ⟨hr, k, hs, he⟩
  · rintro ⟨hr, k, hs, he⟩
    refine ⟨.inr ⟨k, ?_, hs, he⟩, hr⟩
    rw [List.mem_range]
    by_cases hk : k < f.length
    · exact hk
    · unfold Ed at he
      rw [List.getD_eq_getElem?_getD, List.getElem?_eq_none (by omega)] at he
      simp at he
/-- from a state on, the places [a, b) come to l just by one of its places there -/
theorem run_q {f : List Nat} {r : Nat → Nat} {a b l : Nat} (hl : ∀ m, l.testBit m = true → a ≤ m ∧ m < b) (I : ∀ k m, 1 ≤ k → Ed f k m → ((a ≤ k ∧ k < b) ↔ (a ≤ m ∧ m < b))) (one : ∀ k m, Ed f k m → 1 ≤ m) :
    ∀ (w : List Nat) (s : Nat), (s.testBit 0 = false) → ((l &&& w.foldl (stepF f r) s ≠ 0) ↔ ∃ k, s.testBit k = true ∧ (a ≤ k ∧ k < b) ∧ Qa f r l w k)
  | [], s, _ => by
    constructor
    · intro h
      obtain ⟨m, hm⟩ := Nat.exists_testBit_of_ne_zero h
      rw [List.foldl_nil, Nat.testBit_and, Bool.and_eq_true] at hm
      exact ⟨m, hm.2, hl m hm.1, hm.1⟩
    · rintro ⟨k, hs, _, q⟩ e
      have : (l &&& ([] : List Nat).foldl (stepF f r) s).testBit k = true := by
        rw [List.foldl_nil, Nat.testBit_and, Bool.and_eq_true]; exact ⟨q, hs⟩
      rw [e] at this
      simp at this
  | c :: w, s, h0 => by
    have n0 : (stepF f r s c).testBit 0 = false := by
      cases e : (stepF f r s c).testBit 0 with
      | false => rfl
      | true =>
        obtain ⟨_, k, _, he⟩ := stepF_bit.mp e
        have := one k 0 he
        omega
    rw [List.foldl_cons, run_q hl I one w _ n0]
    constructor
    · rintro ⟨m, hm, hr, q⟩
      obtain ⟨hc, k, hs, he⟩ := stepF_bit.mp hm
      have k1 : 1 ≤ k := by
        cases k with
        | zero => rw [h0] at hs; cases hs
        | succ k => omega
      exact ⟨k, hs, (I k m k1 he).mpr hr, m, he, hc, q⟩
    · rintro ⟨k, hs, hk, m, he, hc, q⟩
      have k1 : 1 ≤ k := by
        cases k with
        | zero => rw [h0] at hs; cases hs
        | succ k => omega
      exact ⟨m, stepF_bit.mpr ⟨hc, k, hs, he⟩, (I k m k1 he).mp hk, q⟩
/-- a leaf: its places [a, b), closed, and what the first place leads to there -/
structure Leaf (f : List Nat) (r : Nat → Nat) (a b t : Nat) (A : Lg) : Prop where
  one : 1 ≤ a
  bl : b ≤ f.length
  iso : ∀ k m, 1 ≤ k → Ed f k m → ((a ≤ k ∧ k < b) ↔ (a ≤ m ∧ m < b))
  ex : ∃ e F L, t = (if e then L ||| 1 else L) ∧ POk f a b F L ∧ (∀ w, PL f r e F L w ↔ A w) ∧ ∀ m, a ≤ m → m < b → (Ed f 0 m ↔ F.testBit m = true)
theorem one_bit {m : Nat} : (1 : Nat).testBit m = true ↔ m = 0 := by
  have := pow2_bit (n := 0) (m := m)
  rwa [Nat.pow_zero] at this
theorem Leaf.run {f : List Nat} {r : Nat → Nat} {a b t : Nat} {A : Lg} (M : Mach f r) (h : Leaf f r a b t A) (w : List Nat) : (t &&& runF f r w ≠ 0) ↔ A w := by
  obtain ⟨e, F, L, rfl, p, q, s⟩ := h.ex
  have h1 := h.one
  rw [← q w]
  cases w with
  | nil =>
    show ((if e then L ||| 1 else L) &&& 1 ≠ 0) ↔ e = true
    have L0 : L.testBit 0 = false := by
      cases z : L.testBit 0 with
      | false => rfl
      | true => have := p.L 0 z; omega
    constructor
    · intro hn
      obtain ⟨m, hm⟩ := Nat.exists_testBit_of_ne_zero hn
      rw [Nat.testBit_and, Bool.and_eq_true, one_bit] at hm
      obtain ⟨hm, rfl⟩ := hm
      cases e
      · rw [if_neg (by decide), L0] at hm; cases hm
      · rfl
    · rintro rfl z
      have : ((if true = true then L ||| 1 else L) &&& 1).testBit 0 = true := by
        rw [if_pos rfl, Nat.testBit_and, Nat.testBit_or]; simp
      rw [z] at this
      simp at this
  | cons c w =>
    have n0 : (stepF f r 1 c).testBit 0 = false := by
      cases z : (stepF f r 1 c).testBit 0 with
      | false => rfl
      | true =>
        obtain ⟨_, k, _, he⟩ := stepF_bit.mp z
        have := (M.e k 0 he).1
        omega
    have run0 : ∀ (w : List Nat) (s : Nat), s.testBit 0 = false → (w.foldl (stepF f r) s).testBit 0 = false := by
      intro w
      induction w with
      | nil => intro s h; exact h
      | cons d w ih =>
        intro s h
        refine ih _ ?_
        cases z : (stepF f r s d).testBit 0 with
        | false => rfl
        | true =>
          obtain ⟨_, k, _, he⟩ := stepF_bit.mp z
          have := (M.e k 0 he).1
          omega
    have tl : ((if e then L ||| 1 else L) &&& w.foldl (stepF f r) (stepF f r 1 c)) = (L &&& w.foldl (stepF f r) (stepF f r 1 c)) := by
      cases e
      · rfl
      · rw [if_pos rfl]
        refine Nat.eq_of_testBit_eq fun i => ?_
        rw [Nat.testBit_and, Nat.testBit_and, Nat.testBit_or]
        cases i with
        | zero => rw [run0 w _ n0]; simp
        | succ i =>
          have : (1 : Nat).testBit (i + 1) = false := by
            cases z : (1 : Nat).testBit (i + 1) with
            | false => rfl
            | true => have := one_bit.mp z; omega
          rw [this]; simp
    show ((if e then L ||| 1 else L) &&& (c :: w).foldl (stepF f r) 1 ≠ 0) ↔ _
    rw [List.foldl_cons, tl, run_q p.L h.iso (fun k m x => (M.e k m x).1) w _ n0]
    constructor
    · rintro ⟨k, hk, hr, hq⟩
      obtain ⟨hc, j, hj, he⟩ := stepF_bit.mp hk
      rw [one_bit] at hj
      subst hj
      exact ⟨k, (s k hr.1 hr.2).mp he, hc, hq⟩
    · rintro ⟨m, hf, hc, hq⟩
      obtain ⟨m1, m2⟩ := p.F m hf
      exact ⟨m, stepF_bit.mpr ⟨hc, 0, one_bit.mpr rfl, (s m m1 m2).mpr hf⟩, ⟨m1, m2⟩, hq⟩
/-- a verdict, of places ahead of n -/
inductive VOk (f : List Nat) (r : Nat → Nat) (n : Nat) : Vd → Lg → Prop
  | ends {a b t : Nat} {A : Lg} : Leaf f r a b t A → b ≤ n → VOk f r n (.ends t) A
  | any0 : VOk f r n (.any []) fun _ => False
  | any {v : Vd} {vs : List Vd} {A B : Lg} : VOk f r n v A → VOk f r n (.any vs) B → VOk f r n (.any (v :: vs)) fun w => A w ∨ B w
  | all0 : VOk f r n (.all []) fun _ => True
  | all {v : Vd} {vs : List Vd} {A B : Lg} : VOk f r n v A → VOk f r n (.all vs) B → VOk f r n (.all (v :: vs)) fun w => A w ∧ B w
  | no {v : Vd} {A : Lg} : VOk f r n v A → VOk f r n (.no v) fun w => ¬ A w
theorem VOk.run {f : List Nat} {r : Nat → Nat} (M : Mach f r) {n : Nat} {v : Vd} {A : Lg} (h : VOk f r n v A) (w : List Nat) : v.h (runF f r w) = true ↔ A w := by
  induction h with
  | ends l _ => rw [Vd.h, bne_iff_ne]; exact l.run M w
  | any0 => rw [Vd.h, Vd.hAny]; simp
  | any _ _ ih1 ih2 =>
    rw [Vd.h] at ih2 ⊢
    rw [Vd.hAny, Bool.or_eq_true, ih1, ih2]
  | all0 => rw [Vd.h, Vd.hAll]; simp
  | all _ _ ih1 ih2 =>
    rw [Vd.h] at ih2 ⊢
    rw [Vd.hAll, Bool.and_eq_true, ih1, ih2]
  | no _ ih => rw [Vd.h, Bool.not_eq_true', ← Bool.not_eq_true, ih]
/-- the machine grows behind a verdict: only the first place gets more edges, to new places -/
structure GrowV (f f' : List Nat) (r r' : Nat → Nat) : Prop where
  len : f.length ≤ f'.length
  fe : ∀ k, 1 ≤ k → k < f.length → f'.getD k 0 = f.getD k 0
  f0 : ∀ m, m < f.length → (Ed f' 0 m ↔ Ed f 0 m)
  new : ∀ k m, f.length ≤ k → Ed f' k m → f.length ≤ m
  re : ∀ c m, m < f.length → (r' c).testBit m = (r c).testBit m
theorem GrowV.refl {f : List Nat} {r : Nat → Nat} : GrowV f f r r := ⟨Nat.le_refl _, fun _ _ _ => rfl, fun _ _ => Iff.rfl, fun k m h e => by
  unfold Ed at e
  rw [List.getD_eq_getElem?_getD, List.getElem?_eq_none h] at e
  simp at e, fun _ _ _ => rfl⟩
theorem GrowV.trans {f f' f'' : List Nat} {r r' r'' : Nat → Nat} (x : GrowV f f' r r') (y : GrowV f' f'' r' r'') : GrowV f f'' r r'' where
  len := Nat.le_trans x.len y.len
  fe := fun k h1 h2 => (y.fe k h1 (Nat.lt_of_lt_of_le h2 x.len)).trans (x.fe k h1 h2)
  f0 := fun m h => (y.f0 m (Nat.lt_of_lt_of_le h x.len)).trans (x.f0 m h)
  new := fun k m h e => by
    by_cases q : k < f'.length
    · by_cases k1 : 1 ≤ k
      · refine x.new k m h ?_
        unfold Ed at e ⊢
        rw [← y.fe k k1 q]; exact e
      · have : k = 0 := by omega
        subst this
        omega
    · exact Nat.le_trans x.len (y.new k m (by omega) e)
  re := fun c m h => (y.re c m (Nat.lt_of_lt_of_le h x.len)).trans (x.re c m h)
theorem Leaf.grow {f f' : List Nat} {r r' : Nat → Nat} {a b t : Nat} {A : Lg} (M : Mach f r) (g : GrowV f f' r r') (h : Leaf f r a b t A) : Leaf f' r' a b t A := by
  obtain ⟨e, F, L, ht, p, q, s⟩ := h.ex
  have h1 := h.one
  have h2 := h.bl
  have ag : Agr f f' r r' a b := ⟨fun k k1 k2 => g.fe k (by omega) (by omega), fun c m _ m2 => g.re c m (by omega)⟩
  refine ⟨h1, Nat.le_trans h2 g.len, fun k m k1 he => ?_, e, F, L, ht, p.agr ag, fun w => (p.pl ag w).trans (q w), fun m m1 m2 => (g.f0 m (by omega)).trans (s m m1 m2)⟩
  by_cases hk : k < f.length
  · have he' : Ed f k m := by unfold Ed at he ⊢; rw [← g.fe k k1 hk]; exact he
    exact h.iso k m k1 he'
  · have := g.new k m (by omega) he
    omega
theorem VOk.grow {f f' : List Nat} {r r' : Nat → Nat} (M : Mach f r) (g : GrowV f f' r r') {n n' : Nat} (hn : n ≤ n') {v : Vd} {A : Lg} (h : VOk f r n v A) : VOk f' r' n' v A := by
  induction h with
  | ends l hb => exact .ends (l.grow M g) (Nat.le_trans hb hn)
  | any0 => exact .any0
  | any _ _ ih1 ih2 => exact .any ih1 ih2
  | all0 => exact .all0
  | all _ _ ih1 ih2 => exact .all ih1 ih2
  | no _ ih => exact .no ih
/-- the first place is joined with a piece -/
def setF (f : List Nat) (F : Nat) : List Nat := f.set 0 (f.getD 0 0 ||| F)
theorem leaf_new {f f' : List Nat} {r r' : Nat → Nat} {e : Bool} {F L : Nat} {A : Lg} (M : Mach f r) (M' : Mach f' r') (g : Grow f f' r r') (p : POk f' f.length f'.length F L) (q : ∀ w, PL f' r' e F L w ↔ A w) :
    Mach (setF f' F) r' ∧ GrowV f (setF f' F) r r' ∧ Leaf (setF f' F) r' f.length f'.length (if e then L ||| 1 else L) A ∧ (setF f' F).length = f'.length := by
  have hlen : (setF f' F).length = f'.length := by simp [setF]
  have h1 := M.one
  have h1' := M'.one
  have g0 : (setF f' F).getD 0 0 = f'.getD 0 0 ||| F := by
    have hp : 0 < f'.length := h1'
    simp [setF, List.getD_eq_getElem?_getD, List.getElem?_set, hp]
  have gs : ∀ k, 1 ≤ k → (setF f' F).getD k 0 = f'.getD k 0 := fun k hk => by
    have : ¬ (0 = k) := by omega
    simp [setF, List.getD_eq_getElem?_getD, List.getElem?_set, this]
  have E0 : ∀ m, Ed (setF f' F) 0 m ↔ Ed f' 0 m ∨ F.testBit m = true := fun m => by
    unfold Ed; rw [g0, or_bit]
  have Es : ∀ k m, 1 ≤ k → (Ed (setF f' F) k m ↔ Ed f' k m) := fun k m hk => by
    unfold Ed; rw [gs k hk]
  have old : ∀ k m, k < f.length → Ed f' k m → m < f.length := fun k m hk he => by
    have : Ed f k m := by unfold Ed at he ⊢; rw [← g.fe k hk]; exact he
    exact (M.e k m this).2
  refine ⟨⟨fun c m h => by rw [hlen]; exact M'.r c m h, fun k m h => ?_, by rw [hlen]; exact h1'⟩, ⟨by rw [hlen]; exact g.len, fun k k1 k2 => ?_, fun m hm => ?_, fun k m hk he => ?_, g.re⟩, ⟨h1, by rw [hlen]; exact Nat.le_refl _, fun k m k1 he => ?_, e, F, L, rfl, ?_⟩, hlen⟩
  · rw [hlen]
    by_cases k1 : 1 ≤ k
    · exact M'.e k m ((Es k m k1).mp h)
    · have : k = 0 := by omega
      subst this
      rcases (E0 m).mp h with h | h
      · exact M'.e 0 m h
      · have := p.F m h; omega
  · rw [gs k k1]; exact g.fe k k2
  · rw [E0]
    constructor
    · rintro (h | h)
      · unfold Ed at h ⊢; rw [← g.fe 0 (by omega)]; exact h
      · have := p.F m h; omega
    · intro h
      refine .inl ?_
      unfold Ed at h ⊢; rw [g.fe 0 (by omega)]; exact h
  · have k1 : 1 ≤ k := by omega
    have he := (Es k m k1).mp he
    by_cases q : k < f'.length
    · exact (p.E k m hk q he).1
    · unfold Ed at he
      rw [List.getD_eq_getElem?_getD, List.getElem?_eq_none (by omega)] at he
      simp at he
  · have he := (Es k m k1).mp he
    have hm := M'.e k m he
    by_cases q : k < f.length
    · have := old k m q he
      omega
    · have q2 : k < f'.length := by
        by_cases z : k < f'.length
        · exact z
        · unfold Ed at he
          rw [List.getD_eq_getElem?_getD, List.getElem?_eq_none (by omega)] at he
          simp at he
      have := p.E k m (by omega) q2 he
      omega
  · have ag : Agr f' (setF f' F) r' r' f.length f'.length := ⟨fun k k1 k2 => gs k (by omega), fun _ _ _ _ => rfl⟩
    refine ⟨p.agr ag, fun w => (p.pl ag w).trans (q w), fun m m1 m2 => ?_⟩
    rw [E0]
    constructor
    · rintro (h | h)
      · have := old 0 m (by omega) h; omega
      · exact h
    · exact .inr

end Cs
namespace Cs
open PySem L2
open PyProof.Rows (envOfC)
open PySem.F
/-! for i, c in enumerate(text) -/
def IteS (x : Str) : It := ⟨fun i _ => i < x.cps.size, fun i H v H' => ∃ T c, v = .ref T ∧ H T = none ∧ H' = upd H T (.tup [.int (i : Nat), .str ⟨#[c]⟩]) ∧ x.cps[i]? = some c, fun i _ => x.cps.size ≤ i⟩
theorem wpAny_pyNext_enumS_end {prog : Program} {w : World} {A : Around} {E : Value → Shared → Prop} {s : Shared} {e it : Addr} {x : Str} {t : Tok} {ty : String} {i : Nat} {old : Value} {Q : Option Value → Shared → Prop} (hh : A.handled = none)
    (he : IsEnum s.heap e it i old) (hit : s.heap.IsStrIter it ty x t i) (hty : ty = "str_ascii_iterator" ∨ ty = "str_iterator") (hx : x.cps[i]? = none)
    (hQ : ∀ h', Heap.ExtBut it s.heap h' → Q none { s with heap := h' }) : wpAny (model prog w) A (pyNext (.ref e)) Q E s := by
  have hT : s.TypeIs (.ref e) "enumerate" := ⟨_, he, rfl⟩
  unfold pyNext
  refine wpAny_bind (wpAny_attempt (wpAny_callSpecial?_slot (name := Str.ofString "__next__") hT F.slot_enumerate_next
    (wpAny_call_entry F.slot_enumerate_next hT F.entry_enumerate_next ?_ (F.args_enumerate_next_1 _))))
  show wpAny _ _ (field (.ref e) 2 >>= _) _ _ _
  refine wpAny_bind (wpAny_field he rfl (x := .ref it) rfl ?_)
  rcases hty with q | q
  · rw [q] at hit
    refine wpAny_bind (wpAny_nextOf_ascii_end hh hit hx fun h' x he' hx' => ?_)
    obtain ⟨o, ho, hc⟩ := hx'
    refine wpAny_bind (wpAny_isInstance (T := "StopIteration") (b := true) ⟨o, ho, hc⟩ isSubtype_stop ?_)
    exact wpAny_pure (hQ _ he')
  · rw [q] at hit
    refine wpAny_bind (wpAny_nextOf_wide_end hh hit hx fun h' x he' hx' => ?_)
    obtain ⟨o, ho, hc⟩ := hx'
    refine wpAny_bind (wpAny_isInstance (T := "StopIteration") (b := true) ⟨o, ho, hc⟩ isSubtype_stop ?_)
    exact wpAny_pure (hQ _ he')
theorem turn_enumS {P : Program} {w : World} {K : PySem.W.Frag} {elts : List Expr} {kk : Nat} {tpos : Pos} (e it : Addr) (x : Str) (t : Tok) (ty : String) (hty : ty = "str_ascii_iterator" ∨ ty = "str_iterator") :
    Turn P w K (.Tuple elts kk tpos) (IteS x) [e, it] e (fun i h => (∃ old, IsEnum h e it ((i : Nat) : Int) old) ∧ h.IsStrIter it ty x t i ∧ e ≠ it) where
  mem := by simp
  obj := fun i h st b hb => by
    obtain ⟨⟨old, he⟩, ⟨o, ho, hc, hd⟩, _⟩ := st
    have e' : b = e ∨ b = it := by simpa using hb
    rcases e' with z | z
    · rw [z]; exact ⟨_, he, fun v q => nomatch q⟩
    · rw [z]; exact ⟨o, ho, fun v q => by rw [hd] at q; cases q⟩
  keep := fun i h h' st k => let ⟨⟨old, he⟩, ⟨o, ho, r⟩, hne⟩ := st; ⟨⟨old, k e (by simp) _ he⟩, ⟨o, k it (by simp) o ho, r⟩, hne⟩
  item := by
    intro X hP hw hK hc i pins s σ H E I hf st hg
    subst hP hw hK
    obtain ⟨⟨old, he⟩, hit, hne⟩ := st
    have D : Draws X.prog X.w X.A.in1 it [it] x.cps.size (fun i v => ∃ c u, x.cps[i]? = some c ∧ v = .str ⟨#[c]⟩ u) (fun i h => h.IsStrIter it ty x t i) := by
      rcases hty with q | q
      · rw [q]; exact Draws.strAscii (show X.A.in1.handled = none from I.ok.hd hc) it x t
      · rw [q]; exact Draws.strWide (show X.A.in1.handled = none from I.ok.hd hc) it x t
    have hel : e < s.heap.objs.size := Heap.lt_size he
    have hil : it < s.heap.objs.size := by obtain ⟨_, q, _⟩ := hit; exact Heap.lt_size q
    refine wpAny_pyNext_enum_itemD D he hit hg hne (by simpa using hne) fun u h' tk hP ho hit' hT hsz hk => ?_
    obtain ⟨c, t0, hcx, rfl⟩ := hP
    refine ⟨_, rfl, wpAny_letOwnedTupleGo_enum (s := { s with heap := h', toks := tk + 1 }) ho fun h'' he' sb => ?_⟩
    have hT2 : h''.get? s.heap.objs.size = some { cls := .type "tuple", data := .seq #[.int i tk, .str ⟨#[c]⟩ t0] } := (sb.2 _ (Nat.ne_of_gt hel)).trans hT
    have new : ObjOk X.prog X.w (upd H s.heap.objs.size (.tup [.int (i : Nat), .str ⟨#[c]⟩])) h'' s.heap.objs.size (.tup [.int (i : Nat), .str ⟨#[c]⟩]) :=
      ⟨by show 2 ≤ sizeLine; decide, [.int i tk, .str ⟨#[c]⟩ t0], .cons ⟨_, rfl⟩ (.cons ⟨_, rfl⟩ .nil), ⟨_, hT2, rfl, _, rfl⟩⟩
    have I1 : Inv X pins σ (upd H s.heap.objs.size (.tup [.int (i : Nat), .str ⟨#[c]⟩])) { s with heap := h'', toks := tk + 1 } :=
      I.turnedNew (ch := [e, it]) (fun b ob hb q => (sb.2 b (fun z => hb (by simp [z]))).trans (hk b ob (fun z => hb (by simp [z])) (fun z => hb (by simp [z])) q)) hf (Nat.le_refl _) new
    refine ⟨.ref s.heap.objs.size, _, I1, rfl, ⟨_, c, rfl, I.hok.fresh (Nat.le_refl _), rfl, hcx⟩, ⟨⟨.str ⟨#[c]⟩ t0, ?_⟩, ?_, hne⟩, fun b hb => ?_⟩
    · have e1 : ((i + 1 : Nat) : Int) = (i : Int) + 1 := by omega
      rw [e1]; exact he'
    · obtain ⟨o, q, r⟩ := hit'
      exact ⟨o, (sb.2 it (Ne.symm hne)).trans q, r⟩
    · have hb' : b < s.heap.objs.size := by
        have e' : b = e ∨ b = it := by simpa using hb
        rcases e' with z | z
        · rw [z]; exact hel
        · rw [z]; exact hil
      rw [upd_ne (Nat.ne_of_lt hb')]
      exact (hf b hb).1
  done := by
    intro X hP hw hK hc i pins s σ H E I hf st hg
    subst hP hw hK
    obtain ⟨⟨old, he⟩, hit, hne⟩ := st
    obtain ⟨f0, f1, f2, f3, f4, f5⟩ := hf it (by simp)
    have hx : x.cps[i]? = none := Array.getElem?_eq_none hg
    exact wpAny_pyNext_enumS_end (I.ok.hd hc) he hit hty hx fun h' eb => ⟨rfl, I.turned (t' := s.toks) (fun b o hb q => eb b o hb q) f0 f1 f3 f4 f5⟩
  self := fun A i s Q E st h => let ⟨⟨_, he⟩, _⟩ := st; wpAny_pyIter_enum he h
def iEnumS (ta : TA) : TI := fun σ H R => ta σ H fun vs H1 => ∃ x, vs = [.str x] ∧ R (IteS x) H1
theorem pi_enumS {X : Cx} {e : Expr} {ta : TA} {p pos tpos : Pos} {elts : List Expr} {kk : Nat} (hg : Gl X "enumerate") (hm : X.mg "enumerate" = none) (ha : PA X [e] ta) (hs : starEach [e] X.env = [(false, eval e X.env)] := by rfl) :
    PI X (.Tuple elts kk tpos) (.Call (.Name "enumerate" p) [e] [] pos) (iEnumS ta) := by
  refine ⟨fun pins s σ H R I h => ?_⟩
  refine PyProof.Rows.Call_ (ld_blt I hg hm (show bootBuiltins "enumerate" = some (.type "enumerate") by decide +kernel) (PyProof.Rows.callWith_type1 (thn (ha.run pos pins s σ H _ I h) fun us s1 ⟨vs, H1, I1, r1, q1⟩ => ?_) hs rfl))
  obtain ⟨x, ex, q⟩ := q1
  subst ex
  cases r1 with
  | cons r rr =>
    cases rr
    obtain ⟨t, rfl⟩ := r
    refine call_enumerate_str fun h' he hit hsz hk => wpAny_pyIter_enum he ?_
    have I2 : Inv X pins σ H1 { s1 with heap := h' } := I1.kept (t' := s1.toks) hk
    have hty : strIterType x = "str_ascii_iterator" ∨ strIterType x = "str_iterator" := by unfold strIterType; split <;> simp
    refine ⟨s1.heap.objs.size + 1, [s1.heap.objs.size + 1, s1.heap.objs.size], _, _, H1, rfl, I2, turn_enumS (s1.heap.objs.size + 1) s1.heap.objs.size x t _ hty, ⟨⟨.none, he⟩, hit, Nat.succ_ne_self _⟩, fun b hb => ?_, q⟩
    have e' : b = s1.heap.objs.size + 1 ∨ b = s1.heap.objs.size := by simpa using hb
    have hle : s1.heap.objs.size ≤ b := by
      rcases e' with z | z
      · rw [z]; exact Nat.le_add_right _ _
      · rw [z]; exact Nat.le_refl _
    exact I1.fpOk hle (I1.hok.fresh hle)

end Cs
namespace Cs
open PySem L2
open PyProof.Rows (envOfC)
/-! objects with fields and methods: rules with K given -/
theorem hu1 {u : Nat} (h : u + 64 < cLine) : u + 1 < cLine := by omega
section
variable {X : Cx} {K : PySem.W.Frag}
theorem pe_fldK {e : Expr} {ta : TE} {f : Str} {pos : Pos} (h : X.K = K) (he : PE X e ta) (hb : attributeBase e f X.env (eval e X.env) = eval e X.env) : PE X (.Attribute e f pos) (tFld K ta f) := by subst h; exact pe_fld he hb
theorem ps_fldK {o value : Expr} {f : Str} {ta tv : TE} {pos pos' : Pos} (h : X.K = K) (ha : PE X o ta) (hv : PE X value tv) (hs : swapsWith value (some (.Attribute o f pos')) pos.line X.env = pure false) : PS X (.Assign [.Attribute o f pos'] value pos) (sFld K ta tv f) := by subst h; exact ps_fld ha hv hs
theorem pget_listK (h : X.K = K) : PGet X (rIxL K) := by
  subst h
  intro pins s σ H x y v u Q I rx ry h
  obtain ⟨p, xs, i, z, rfl, rfl, hq, he, q⟩ := h
  cases rx
  obtain ⟨t, rfl⟩ := ry
  obtain ⟨its, r, pl, hz⟩ := I.list hq
  obtain ⟨j, h1, h2, h3, h4, h5⟩ := atI_get he
  obtain ⟨w, ew, rw'⟩ := r.get h2
  have hl := r.length
  have hn := line63
  have fin : EP X pins σ Q w s := ⟨z, H, I, rw', q⟩
  by_cases h0 : 0 ≤ i
  · have hj : i.toNat = j := by
      rw [seqIndex_of h0 h5] at h1
      exact Option.some.inj h1
    exact wpAny_getItem_list pl.isList h0 (by omega) (by rw [hj]; simpa using ew) fin
  · have hj : (i + (its.toArray.size : Int)).toNat = j := by
      rw [seqIndex_neg (by omega) h4] at h1
      rw [List.size_toArray, ← hl]
      exact Option.some.inj h1
    exact wpAny_getItem_list_neg pl.isList (by omega) (by rw [List.size_toArray] <;> omega) (by omega) (by rw [hj]; simpa using ew) fin
theorem ip_or : PIp X .BitOr (rI0 fun i j => .int (Builtin.bitOr i j)) := fun pins s σ H x y v u Q I r1 r2 h => iop_or pins s σ H x y v u Q I r1 r2 h
/-- a method, by its promise -/
structure Mtd (P : Program) (w : World) (K : PySem.W.Frag) (mg : Str → Option Value) (base : Heap) (k : Nat) (C : Addr) (m : Str) (ps : List Str) (sp : Sp) : Prop where
  ex : ∃ f fd, Meth K C m f ∧ Binds K fd ps [] ∧ FnOk P w K mg base CX0 k f fd ps sp
theorem Mtd.mono {P : Program} {w : World} {mg : Str → Option Value} {base : Heap} {j k : Nat} {C : Addr} {m : Str} {ps : List Str} {sp : Sp} (M : Mtd P w K mg base j C m ps sp) (h : j ≤ k) : Mtd P w K mg base k C m ps sp := by
  obtain ⟨f, fd, a, b, c⟩ := M.ex
  exact ⟨f, fd, a, b, c.mono h⟩
theorem pe_md {C : Addr} {k : Nat} {m : Str} {ps : List Str} {sp : Sp} {o e : Expr} {es : List Expr} {to : TE} {t : TA} {apos pos : Pos} {pl : Sem Bool} (c : Cls X.K C) (M : Mtd X.prog X.w X.K X.mg X.base k C m ps sp) (hr : Room k X.A) (ho : PE X o to) (ha : PA X (e :: es) t)
    (hst : starEach (e :: es) X.env = (false, eval e X.env) :: starEach es X.env := by rfl) (hpl : (backTo pos (starEach es X.env)).any (·.1) = false := by rfl)
    (ht : eval (.Call (.Attribute o m apos) (e :: es) [] pos) X.env = (do
      let ov ← eval o X.env
      standAt apos.atName
      let (f, first) ← holding [ov] (getMethod ov m pl)
      callWith pos f first (backTo pos (starEach (e :: es) X.env)) (backToKw pos (keywordEach [] X.env))) := by rfl) : PE X (.Call (.Attribute o m apos) (e :: es) [] pos) (tMeth C m sp [] E0 to t) := by
  obtain ⟨f, fd, a, b, F⟩ := M.ex
  exact pe_meth ho c a F hr b .nil pass0 ha hst hpl ht
/-- C(..), C an own class with an __init__ -/
structure Mkr (P : Program) (w : World) (K : PySem.W.Frag) (mg : Str → Option Value) (base : Heap) (k : Nat) (x : Str) (C : Addr) (ps : List Str) (sp : Sp) : Prop where
  ex : ∃ f fd, Mk K C f ∧ Binds K fd ps [] ∧ FnOk P w K mg base CX0 k f fd ps sp ∧ mg x = some (.ref C)
theorem pe_mk {C : Addr} {k : Nat} {x : Str} {ps : List Str} {sp : Sp} {e : Expr} {es : List Expr} {t : TA} {p pos : Pos} (M : Mkr X.prog X.w X.K X.mg X.base k x C ps sp) (hr : Room (k + 1) X.A) (ha : PA X (e :: es) t) (hg : Gl X x := by rfl)
    (hdb : (x == ("__debug__" : Str)) = false := by decide) (he : starEach (e :: es) X.env = (false, eval e X.env) :: starEach es X.env := by rfl) (hpl : (backTo pos (starEach es X.env)).any (·.1) = false := by rfl) :
    PE X (.Call (.Name x p) (e :: es) [] pos) (tMake C sp [] E0 t) := by
  obtain ⟨f, fd, a, b, F, m⟩ := M.ex
  exact pe_make a F hr hg m b .nil pass0 ha hdb he hpl
end
section
variable {σ : St} {H : Hp} {D : Ends} {Q : VK} {ta tb tv : TE} {tas : TA} {K : PySem.W.Frag} {f m : Str} {C : Addr} {sp : Sp} {i j l : Nat}
theorem rd_fld (h : ta σ H fun x H1 => ∃ a C dx fs v, x = .ref a ∧ H1 a = some (.ins C dx fs) ∧ Cls K C ∧ NoAttr K C f ∧ fs.lookup f = some v ∧ Q v H1) : tFld K ta f σ H Q := h
theorem rd_sfld (h : tv σ H fun y H1 => ta σ H1 fun x H2 => ∃ a C dx fs, x = .ref a ∧ H2 a = some (.ins C dx fs) ∧ Cls K C ∧ NoAttr K C f ∧ fs.length < 1000 ∧ D.nx σ (upd H2 a (.ins C dx (putF f y fs)))) : sFld K ta tv f D σ H := h
theorem rd_meth {E : XK} (h : ta σ H fun x H1 => ∃ a dx fs, x = .ref a ∧ H1 a = some (.ins C dx fs) ∧ fs.lookup m = none ∧ tas σ H1 fun vs H2 => sp (x :: (vs ++ [])) H2 Q E) : tMeth C m sp [] E ta tas σ H Q := h
theorem rd_make {E : XK} (h : tas σ H fun vs H1 => ∀ x dx, H1 x = none → H1 dx = none → dx ≠ x → sp (.ref x :: (vs ++ [])) (upd (upd H1 dx (.own x)) x (.ins C dx [])) (fun v H2 => v = .non ∧ Q (.ref x) H2) E) : tMake C sp [] E tas σ H Q := h
theorem rd_par3 (h : tas σ H fun vs H1 => ∃ v w u, vs = [v, w, u] ∧ D.nx (((σ.set i (some v)).set j (some w)).set l (some u)) H1) : tPar3 i j l tas D σ H := h
theorem rd_par3j {a b c : V} {R : V → V → V → Prop} (q : R a b c) : ∃ v w u, ([a, b, c] : List V) = [v, w, u] ∧ R v w u := ⟨a, b, c, rfl, q⟩
theorem rd_augS {to ti te : TE} {tget : V → V → Hp → VK → Prop} {tip : TIp} {tset : TSet} (h : to σ H fun o H1 => ti σ H1 fun i H2 => tget o i H2 fun x H3 => te σ H3 fun y H4 => tip x y H4 fun z H5 => tset o i z H5 fun H6 => D.nx σ H6) : tAugS to ti te tget tip tset D σ H := h
theorem rd_daug {td ty : TE} {rd : V → V → Hp → VK → Prop} (h : td σ H fun x H1 => ty σ H1 fun y H2 => ∃ a v, x = .ref a ∧ DGet H2 a y (some v) ∧ tv σ H2 fun y2 H3 => rd v y2 H3 fun z H4 => ∃ H5, DPut H4 a y z H5 ∧ D.nx σ H5) : sDAug td ty tv rd D σ H := h
theorem rd_dget {td ty : TE} (h : td σ H fun x H1 => ty σ H1 fun y H2 => ∃ a v, x = .ref a ∧ DGet H2 a y (some v) ∧ Q v H2) : tDGet td ty σ H Q := h
theorem rd_dc {wi : TI} {g : TG} {tt : TT} {tk tv : TE} {vs : List Nat} (h : wi σ H fun J H1 => ∀ D, H1 D = none → ∃ W : Nat → Nat → Hp → Prop, (∃ m, W 0 m (upd H1 D (.dK []))) ∧ ∀ i m H, W i m H →
  (J.stop i H ∧ Q (.ref D) H) ∨ (J.go i H ∧ ∃ Nx : Hp → Prop, (∀ H', Nx H' → ∃ m', m' < m ∧ W (i + 1) m' H') ∧ ∀ x H', J.yld i H x H' → g x (wipe σ vs) H' fun σ2 H2 => wipe σ2 vs = wipe σ vs ∧ tt σ2 H2 fun b H3 =>
    if b = true then tk σ2 H3 fun y H4 => tv σ2 H4 fun z H5 => ∃ kvs k, y = kV k ∧ H5 D = some (.dK kvs) ∧ kvs.length < sizeLine ∧ Nx (upd H5 D (.dK (putK kvs k z))) else Nx H3)) : tDc wi g tt tk tv vs σ H Q := h
theorem rd_enumS {R : It → Hp → Prop} (h : tas σ H fun vs H1 => ∃ x, vs = [.str x] ∧ R (IteS x) H1) : iEnumS tas σ H R := h
theorem rd_enum {R : It → Hp → Prop} (h : tas σ H fun vs H1 => ∃ a xs, vs = [.ref a] ∧ SqL K H1 a xs ∧ R (Ite K a) H1) : iEnum K tas σ H R := h
end
/-! ### numbers as places -/
abbrev vn (n : Nat) : V := .int (n : Int)
theorem bitNot_n (n : Nat) : Builtin.bitNot (n : Int) = -(n : Int) - 1 := by unfold Builtin.bitNot; omega
theorem bor_n (a b : Nat) : Builtin.bitOr (a : Int) (b : Int) = ((a ||| b : Nat) : Int) := by
  unfold Builtin.bitOr Builtin.bitAnd
  have h1 : decide (0 ≤ Builtin.bitNot (a : Int)) = false := by rw [bitNot_n]; simp; omega
  have h2 : decide (0 ≤ Builtin.bitNot (b : Int)) = false := by rw [bitNot_n]; simp; omega
  rw [h1, h2]
  have e : ∀ n : Nat, (Builtin.bitNot (Builtin.bitNot (n : Int))).toNat = n := fun n => by rw [bitNot_n]; unfold Builtin.bitNot; omega
  have e2 : ∀ n : Nat, Builtin.bitNot (Builtin.bitNot (n : Int)) = (n : Int) := fun n => by rw [bitNot_n]; unfold Builtin.bitNot; omega
  show Builtin.bitNot (Builtin.bitNot ((((Builtin.bitNot (Builtin.bitNot (a : Int))).toNat ||| (Builtin.bitNot (Builtin.bitNot (b : Int))).toNat : Nat)) : Int)) = _
  rw [e, e, e2]
theorem band_n (a b : Nat) : Builtin.bitAnd (a : Int) (b : Int) = ((a &&& b : Nat) : Int) := by
  unfold Builtin.bitAnd
  have h1 : decide (0 ≤ (a : Int)) = true := by simp
  have h2 : decide (0 ≤ (b : Int)) = true := by simp
  rw [h1, h2]
  show (((a : Int).toNat &&& (b : Int).toNat : Nat) : Int) = _
  simp
theorem shr_n (a k : Nat) : (a : Int) / 2 ^ ((k : Int)).toNat = ((a >>> k : Nat) : Int) := by
  rw [Nat.shiftRight_eq_div_pow]
  simp
theorem bit_n (a k : Nat) : Builtin.bitAnd ((a : Int) / 2 ^ ((k : Int)).toNat) 1 = if a.testBit k then 1 else 0 := by
  rw [shr_n]
  have := band_n (a >>> k) 1
  rw [show ((1 : Nat) : Int) = 1 from rfl] at this
  rw [this, Nat.testBit_eq_decide_div_mod_eq, Nat.and_one_is_mod, Nat.shiftRight_eq_div_pow]
  by_cases h : a / 2 ^ k % 2 = 1
  · simp [h]
  · have : a / 2 ^ k % 2 = 0 := by omega
    simp [this]
theorem shl_n (k : Nat) : (1 : Int) * 2 ^ ((k : Int)).toNat = ((2 ^ k : Nat) : Int) := by simp

end Cs
local macro_rules | `(tactic| walk_at "go") => `(tactic| repeat (first
  | with_reducible refine Cs.rd_seq ?_ | with_reducible refine Cs.rd_asg ?_ | with_reducible refine Cs.rd_gname ?_ | with_reducible refine Cs.rd_var rfl ?_ | with_reducible refine Cs.rd_c ?_ | with_reducible refine Cs.rd_op ?_
  | with_reducible refine Cs.rd_i0 ?_ | with_reducible refine Cs.rd_cons ?_ | with_reducible refine Cs.rd_nil ?_ | with_reducible refine Cs.rd_call ?_ | with_reducible refine Cs.rd_cb ?_ | with_reducible refine Cs.rd_ret ?_ | with_reducible refine Cs.rd_ifs ?_
  | with_reducible refine Cs.rd_test ?_ | with_reducible refine Cs.rd_tB ?_ | with_reducible refine Cs.rd_bl ?_ | with_reducible refine Cs.rd_eq rfl ?_ | with_reducible refine Cs.rd_ne rfl ?_ | with_reducible refine Cs.rd_tup ?_ | with_reducible refine Cs.rd_lst ?_
  | with_reducible refine Cs.rd_bm0 ?_ | with_reducible refine Cs.rd_bm ?_ | with_reducible refine Cs.rd_gsub ?_ | with_reducible refine Cs.rd_and ?_ | with_reducible refine Cs.rd_or ?_ | with_reducible refine Cs.rd_not ?_ | with_reducible refine Cs.rd_andV ?_
  | with_reducible refine Cs.rd_orV ?_ | with_reducible refine Cs.rd_notV ?_ | with_reducible refine Cs.rd_ife ?_ | with_reducible refine Cs.rd_drop ?_ | with_reducible refine Cs.rd_next ?_ | with_reducible refine Cs.rd_un ?_ | with_reducible refine L2.iteT ?_ | with_reducible refine L2.iteF ?_
  | with_reducible refine Cs.rd_m1 ?_ | with_reducible refine Cs.rd_gcons ?_ | with_reducible refine Cs.rd_gnil ?_ | with_reducible refine Cs.rd_truth ?_ | with_reducible refine Cs.rd_yes ?_ | with_reducible refine Cs.rd_sl ?_ | with_reducible refine Cs.rd_nopart ?_ | with_reducible refine Cs.rd_part ?_ | with_reducible refine Cs.rd_int ?_ | with_reducible refine Cs.rd_strx ?_
  | with_reducible refine Cs.rd_rng1 ?_ | with_reducible refine Cs.rd_ilist ?_ | with_reducible refine Cs.rd_itup ?_ | with_reducible refine Cs.rd_istr ?_ | with_reducible refine Cs.rd_strj ?_ | with_reducible refine Cs.rd_lc ?_ | with_reducible refine Cs.rd_for ?_
  | with_reducible refine Cs.rd_chain ?_
  | with_reducible refine Cs.rd_par ?_ | with_reducible refine Cs.rd_parj ?_ | with_reducible refine Cs.rd_aug rfl ?_ | with_reducible refine Cs.rd_ipi ?_
  | with_reducible refine Cs.rd_fld ?_ | with_reducible refine Cs.rd_sfld ?_ | with_reducible refine Cs.rd_meth ?_ | with_reducible refine Cs.rd_make ?_ | with_reducible refine Cs.rd_par3 ?_ | with_reducible refine Cs.rd_par3j ?_ | with_reducible refine Cs.rd_augS ?_ | with_reducible refine Cs.rd_daug ?_ | with_reducible refine Cs.rd_dget ?_ | with_reducible refine Cs.rd_dc ?_ | with_reducible refine Cs.rd_enumS ?_ | with_reducible refine Cs.rd_enum ?_))
namespace Cs
open PySem L2
open PyProof.Rows (envOfC)
/-! walks over texts, and with their places -/
theorem for_str {x : List Nat} {g : TG} {tb : L2.TS} {D : Ends} {σ : St} {H : Hp} (Pv : Nat → St → Hp → Prop) (h0 : Pv 0 σ H)
    (hs : ∀ i c σ H, x[i]? = some c → Pv i σ H → g (.str (S [c])) σ H fun σ2 H2 => tb { D with nx := Pv (i + 1), ct := Pv (i + 1), bk := D.nx } σ2 H2) (hd : ∀ σ H, Pv x.length σ H → D.nx σ H) :
    ∃ W : Nat → Nat → St → Hp → Prop, (∃ m, W 0 m σ H) ∧ ∀ i m σ H, W i m σ H →
      ((Its (S x)).stop i H ∧ D.nx σ H) ∨ ((Its (S x)).go i H ∧ ∃ N : St → Hp → Prop, (∀ σ' H', N σ' H' → ∃ m', m' < m ∧ W (i + 1) m' σ' H') ∧ ∀ y H', (Its (S x)).yld i H y H' → g y σ H' fun σ2 H2 => tb { D with nx := N, ct := N, bk := D.nx } σ2 H2) := by
  refine ⟨fun i m σ H => m = x.length - i ∧ i ≤ x.length ∧ Pv i σ H, ⟨x.length, by simp, Nat.zero_le _, h0⟩, ?_⟩
  rintro i m σ H ⟨rfl, hi, p⟩
  have sz : (S x).cps.size = x.length := by simp [S]
  by_cases hlt : i < x.length
  · refine .inr ⟨show i < (S x).cps.size by omega, Pv (i + 1), fun σ' H' p' => ⟨x.length - (i + 1), by omega, rfl, hlt, p'⟩, fun y H' hy => ?_⟩
    obtain ⟨e, c, hc, y⟩ := hy
    subst e y
    exact hs i c _ _ (by rw [← Array.getElem?_toList] at hc; exact hc) p
  · have e : i = x.length := by omega
    exact .inl ⟨show (S x).cps.size ≤ i by omega, hd _ _ (e ▸ p)⟩
theorem dc_str {x : List Nat} {g : TG} {tt : TT} {tk tv : TE} {vs : List Nat} {σ : St} {H1 : Hp} {D : Addr} {Qd : Hp → Prop} (Pv : Nat → Hp → Prop) (h0 : Pv 0 (upd H1 D (.dK [])))
    (hs : ∀ i c H, x[i]? = some c → Pv i H → g (.str (S [c])) (wipe σ vs) H fun σ2 H2 => wipe σ2 vs = wipe σ vs ∧ tt σ2 H2 fun b H3 =>
      if b = true then tk σ2 H3 fun y H4 => tv σ2 H4 fun z H5 => ∃ kvs k, y = kV k ∧ H5 D = some (.dK kvs) ∧ kvs.length < sizeLine ∧ Pv (i + 1) (upd H5 D (.dK (putK kvs k z))) else Pv (i + 1) H3) (hd : ∀ H, Pv x.length H → Qd H) :
    ∃ W : Nat → Nat → Hp → Prop, (∃ m, W 0 m (upd H1 D (.dK []))) ∧ ∀ i m H, W i m H →
      ((Its (S x)).stop i H ∧ Qd H) ∨ ((Its (S x)).go i H ∧ ∃ Nx : Hp → Prop, (∀ H', Nx H' → ∃ m', m' < m ∧ W (i + 1) m' H') ∧ ∀ y H', (Its (S x)).yld i H y H' → g y (wipe σ vs) H' fun σ2 H2 => wipe σ2 vs = wipe σ vs ∧ tt σ2 H2 fun b H3 =>
        if b = true then tk σ2 H3 fun y H4 => tv σ2 H4 fun z H5 => ∃ kvs k, y = kV k ∧ H5 D = some (.dK kvs) ∧ kvs.length < sizeLine ∧ Nx (upd H5 D (.dK (putK kvs k z))) else Nx H3) := by
  refine ⟨fun i m H => m = x.length - i ∧ i ≤ x.length ∧ Pv i H, ⟨x.length, by simp, Nat.zero_le _, h0⟩, ?_⟩
  rintro i m H ⟨rfl, hi, p⟩
  have sz : (S x).cps.size = x.length := by simp [S]
  by_cases hlt : i < x.length
  · refine .inr ⟨show i < (S x).cps.size by omega, Pv (i + 1), fun H' p' => ⟨x.length - (i + 1), by omega, rfl, hlt, p'⟩, fun y H' hy => ?_⟩
    obtain ⟨e, c, hc, y⟩ := hy
    subst e y
    exact hs i c _ (by rw [← Array.getElem?_toList] at hc; exact hc) p
  · have e : i = x.length := by omega
    exact .inl ⟨show (S x).cps.size ≤ i by omega, hd _ (e ▸ p)⟩
theorem for_enumS {x : List Nat} {g : TG} {tb : L2.TS} {D : Ends} {σ : St} {H : Hp} (Pv : Nat → St → Hp → Prop) (h0 : Pv 0 σ H)
    (hs : ∀ i c σ H T, x[i]? = some c → Pv i σ H → H T = none → g (.ref T) σ (upd H T (.tup [.int (i : Nat), .str (S [c])])) fun σ2 H2 => tb { D with nx := Pv (i + 1), ct := Pv (i + 1), bk := D.nx } σ2 H2) (hd : ∀ σ H, Pv x.length σ H → D.nx σ H) :
    ∃ W : Nat → Nat → St → Hp → Prop, (∃ m, W 0 m σ H) ∧ ∀ i m σ H, W i m σ H →
      ((IteS (S x)).stop i H ∧ D.nx σ H) ∨ ((IteS (S x)).go i H ∧ ∃ N : St → Hp → Prop, (∀ σ' H', N σ' H' → ∃ m', m' < m ∧ W (i + 1) m' σ' H') ∧ ∀ y H', (IteS (S x)).yld i H y H' → g y σ H' fun σ2 H2 => tb { D with nx := N, ct := N, bk := D.nx } σ2 H2) := by
  refine ⟨fun i m σ H => m = x.length - i ∧ i ≤ x.length ∧ Pv i σ H, ⟨x.length, by simp, Nat.zero_le _, h0⟩, ?_⟩
  rintro i m σ H ⟨rfl, hi, p⟩
  have sz : (S x).cps.size = x.length := by simp [S]
  by_cases hlt : i < x.length
  · refine .inr ⟨show i < (S x).cps.size by omega, Pv (i + 1), fun σ' H' p' => ⟨x.length - (i + 1), by omega, rfl, hlt, p'⟩, fun y H' hy => ?_⟩
    obtain ⟨T, c, e1, hT, e2, hc⟩ := hy
    subst e1 e2
    exact hs i c _ _ T (by rw [← Array.getElem?_toList] at hc; exact hc) p hT
  · have e : i = x.length := by omega
    exact .inl ⟨show (S x).cps.size ≤ i by omega, hd _ _ (e ▸ p)⟩
theorem for_enum {K : PySem.W.Frag} {a : Addr} {xs : List V} {g : TG} {tb : L2.TS} {D : Ends} {σ : St} {H : Hp} (Pv : Nat → St → Hp → Prop) (h0 : Pv 0 σ H) (hl : ∀ i σ H, i ≤ xs.length → Pv i σ H → SqL K H a xs)
    (hs : ∀ i c σ H T, xs[i]? = some c → Pv i σ H → H T = none → g (.ref T) σ (upd H T (.tup [.int (i : Nat), c])) fun σ2 H2 => tb { D with nx := Pv (i + 1), ct := Pv (i + 1), bk := D.nx } σ2 H2) (hd : ∀ σ H, Pv xs.length σ H → D.nx σ H) :
    ∃ W : Nat → Nat → St → Hp → Prop, (∃ m, W 0 m σ H) ∧ ∀ i m σ H, W i m σ H →
      ((Ite K a).stop i H ∧ D.nx σ H) ∨ ((Ite K a).go i H ∧ ∃ N : St → Hp → Prop, (∀ σ' H', N σ' H' → ∃ m', m' < m ∧ W (i + 1) m' σ' H') ∧ ∀ y H', (Ite K a).yld i H y H' → g y σ H' fun σ2 H2 => tb { D with nx := N, ct := N, bk := D.nx } σ2 H2) := by
  refine ⟨fun i m σ H => m = xs.length - i ∧ i ≤ xs.length ∧ Pv i σ H, ⟨xs.length, by simp, Nat.zero_le _, h0⟩, ?_⟩
  rintro i m σ H ⟨rfl, hi, p⟩
  have hq := hl i σ H hi p
  by_cases hlt : i < xs.length
  · refine .inr ⟨⟨xs, xs[i], hq, List.getElem?_eq_getElem hlt⟩, Pv (i + 1), fun σ' H' p' => ⟨xs.length - (i + 1), by omega, rfl, hlt, p'⟩, fun y H' hy => ?_⟩
    obtain ⟨T, c, e1, hT, e2, hc⟩ := hy
    subst e1 e2
    exact hs i c _ _ T (hc xs hq) p hT
  · have e : i = xs.length := by omega
    exact .inl ⟨⟨xs, hq, by omega⟩, hd _ _ (e ▸ p)⟩

end Cs
namespace Cs
open PySem L2
open PyProof.Rows (envOfC)
/-! the machine as it stands in the heap -/
structure AtM (K : PySem.W.Frag) (C : Addr) (m q : Str) (st : Stmt) (ps : List Str) : Prop where
  ex : ∃ f fd, Fun K m q st f fd ∧ Meth K C m f ∧ Binds K fd ps []
theorem AtM.ok {P : Program} {w : World} {K : PySem.W.Frag} {mg : Str → Option Value} {base : Heap} {C : Addr} {m q : Str} {st : Stmt} {N ps : List Str} {k : Nat} {sp : Sp} (F : AtM K C m q st ps) (S : FnScope N ps (defScope st)) (len : ∀ vs H Q E, sp vs H Q E → vs.length = ps.length)
    (hbody : ∀ (f : Addr) (cdv : Value) (A : Around) (outer : List Env) (s : Shared) (H : Hp) (vs : List V) (Q : VK) (E : XK), Room k (A.deeper (envOfC q (defScope st) s.heap.objs.size f cdv)) → sp vs H Q E →
      ∃ t, PSs (cxOf CX0 P w K mg base N q (defScope st) f cdv A outer s H E).nox (defBody st) t ∧ t { nx := fun _ H' => Q .non H', rt := Q } (start N vs) H) : Mtd P w K mg base (k + 1) C m ps sp := by
  obtain ⟨f, fd, F, me, b⟩ := F.ex
  exact ⟨f, fd, me, b, F.ok S len (hbody f)⟩
structure MTxt (K : PySem.W.Frag) (mg : Str → Option Value) (C : Addr) : Prop where
  cl : Cls K C
  nR : NoAttr K C "_reading"
  nF : NoAttr K C "_following"
  nV : NoAttr K C "_verdict"
  c_START : ∃ u, mg "START" = some u ∧ RelV (.int 1) u
def mF (d l : Addr) : List (Str × V) := [("_reading", .ref d), ("_following", .ref l)]
def mFv (d l : Addr) (v : V) : List (Str × V) := [("_reading", .ref d), ("_following", .ref l), ("_verdict", v)]
theorem lk_here {f : Str} {v : V} {r : List (Str × V)} : ((f, v) :: r).lookup f = some v := by simp [List.lookup]
theorem lk_next {f g : Str} {v : V} {r : List (Str × V)} (h : (f == g) = false) : ((g, v) :: r).lookup f = r.lookup f := by simp [List.lookup, h]
theorem mF_R (d l : Addr) : (mF d l).lookup ("_reading" : Str) = some (.ref d) := lk_here
theorem mF_F (d l : Addr) : (mF d l).lookup ("_following" : Str) = some (.ref l) := (lk_next (by decide +kernel)).trans lk_here
theorem mF_no (d l : Addr) {m : Str} (h1 : (m == ("_reading" : Str)) = false) (h2 : (m == ("_following" : Str)) = false) : (mF d l).lookup m = none := (lk_next h1).trans ((lk_next h2).trans rfl)
theorem mFv_R (d l : Addr) (v : V) : (mFv d l v).lookup ("_reading" : Str) = some (.ref d) := lk_here
theorem mFv_F (d l : Addr) (v : V) : (mFv d l v).lookup ("_following" : Str) = some (.ref l) := (lk_next (by decide +kernel)).trans lk_here
theorem mFv_V (d l : Addr) (v : V) : (mFv d l v).lookup ("_verdict" : Str) = some v := (lk_next (by decide +kernel)).trans ((lk_next (by decide +kernel)).trans lk_here)
theorem mFv_no (d l : Addr) (v : V) {m : Str} (h1 : (m == ("_reading" : Str)) = false) (h2 : (m == ("_following" : Str)) = false) (h3 : (m == ("_verdict" : Str)) = false) : (mFv d l v).lookup m = none := (lk_next h1).trans ((lk_next h2).trans ((lk_next h3).trans rfl))
def rK (al : List Nat) (r : Nat → Nat) : List (Key × V) := al.map fun c => (Sum.inr (S [c]), vn (r c))
/-- the machine at m, its dict at d, its list at l -/
structure MS (C m d l : Addr) (al : List Nat) (f : List Nat) (r : Nat → Nat) (H : Hp) : Prop where
  m : ∃ dx, H m = some (.ins C dx (mF d l))
  d : H d = some (.dK (rK al r))
  l : H l = some (.lst (f.map vn))
/-- all else is kept -/
def KM (d l : Addr) (H H' : Hp) : Prop := ∀ b o, b ≠ d → b ≠ l → H b = some o → H' b = some o
theorem KM.refl {d l : Addr} {H : Hp} : KM d l H H := fun _ _ _ _ e => e
theorem KM.trans {d l : Addr} {H H1 H2 : Hp} (x : KM d l H H1) (y : KM d l H1 H2) : KM d l H H2 := fun b o n1 n2 e => y b o n1 n2 (x b o n1 n2 e)
theorem KM.of {d l : Addr} {H H' : Hp} (s : Same H H') : KM d l H H' := fun b o _ _ e => s b o e
theorem KM.lay {d l p : Addr} {H H' : Hp} {o : HO} (k : KM d l H H') (n : H p = none) : KM d l H (upd H' p o) := fun b u n1 n2 e => by
  rw [upd_ne (ne_of_none e n)]; exact k b u n1 n2 e
theorem KM.lay' {d l p : Addr} {H H' : Hp} {o : HO} (k : KM d l H H') (n : H' p = none) : KM d l H (upd H' p o) := fun b u n1 n2 e => by
  have q := k b u n1 n2 e
  rw [upd_ne (ne_of_none q n)]; exact q
theorem KM.layD {d l p : Addr} {H H' : Hp} {o : HO} (k : KM d l H H') (n : H p = none) : KM d l H (upd H' p o) := k.lay n
theorem KM.setd {d l : Addr} {H H' : Hp} {o : HO} (k : KM d l H H') : KM d l H (upd H' d o) := fun b u n1 n2 e => by rw [upd_ne n1]; exact k b u n1 n2 e
theorem KM.setl {d l : Addr} {H H' : Hp} {o : HO} (k : KM d l H H') : KM d l H (upd H' l o) := fun b u n1 n2 e => by rw [upd_ne n2]; exact k b u n1 n2 e
section
variable {C m d l : Addr} {al f : List Nat} {r : Nat → Nat} {H H' : Hp}
theorem MS.dl (M : MS C m d l al f r H) : d ≠ l := ne_of M.d M.l (by intro z; cases z)
theorem MS.md (M : MS C m d l al f r H) : m ≠ d := by
  obtain ⟨dx, h⟩ := M.m
  exact ne_of h M.d (by intro z; cases z)
theorem MS.ml (M : MS C m d l al f r H) : m ≠ l := by
  obtain ⟨dx, h⟩ := M.m
  exact ne_of h M.l (by intro z; cases z)
theorem MS.free (M : MS C m d l al f r H) {p : Addr} (h : H p = none) : p ≠ d ∧ p ≠ l ∧ p ≠ m := by
  obtain ⟨dx, e⟩ := M.m
  exact ⟨(ne_of_none M.d h).symm, (ne_of_none M.l h).symm, (ne_of_none e h).symm⟩
theorem MS.lay (M : MS C m d l al f r H) {p : Addr} {o : HO} (h : H p = none) : MS C m d l al f r (upd H p o) := by
  obtain ⟨n1, n2, n3⟩ := M.free h
  obtain ⟨dx, e⟩ := M.m
  exact ⟨⟨dx, by rw [upd_ne n3.symm]; exact e⟩, by rw [upd_ne n1.symm]; exact M.d, by rw [upd_ne n2.symm]; exact M.l⟩
theorem MS.ts (M : MS C m d l al f r H) (k : KM d l H H') : TS H H' := fun b xs e =>
  k b _ (ne_of e M.d (by intro z; cases z)) (ne_of e M.l (by intro z; cases z)) e
theorem MS.setl (M : MS C m d l al f r H) (g : List Nat) : MS C m d l al g r (upd H l (.lst (g.map vn))) := by
  obtain ⟨dx, e⟩ := M.m
  exact ⟨⟨dx, by rw [upd_ne M.ml]; exact e⟩, by rw [upd_ne M.dl]; exact M.d, upd_same⟩
theorem MS.setd (M : MS C m d l al f r H) (r' : Nat → Nat) : MS C m d l al f r' (upd H d (.dK (rK al r'))) := by
  obtain ⟨dx, e⟩ := M.m
  exact ⟨⟨dx, by rw [upd_ne M.md]; exact e⟩, upd_same, by rw [upd_ne M.dl.symm]; exact M.l⟩
variable {K : PySem.W.Frag} {mg : Str → Option Value} {R : V → Prop}
theorem MS.fR (M : MS C m d l al f r H) (T : MTxt K mg C) (q : R (.ref d)) : ∃ a C dx fs v, V.ref m = .ref a ∧ H a = some (.ins C dx fs) ∧ Cls K C ∧ NoAttr K C "_reading" ∧ fs.lookup ("_reading" : Str) = some v ∧ R v := by
  obtain ⟨dx, e⟩ := M.m
  exact ⟨m, C, dx, _, _, rfl, e, T.cl, T.nR, mF_R d l, q⟩
theorem MS.fF (M : MS C m d l al f r H) (T : MTxt K mg C) (q : R (.ref l)) : ∃ a C dx fs v, V.ref m = .ref a ∧ H a = some (.ins C dx fs) ∧ Cls K C ∧ NoAttr K C "_following" ∧ fs.lookup ("_following" : Str) = some v ∧ R v := by
  obtain ⟨dx, e⟩ := M.m
  exact ⟨m, C, dx, _, _, rfl, e, T.cl, T.nF, mF_F d l, q⟩
theorem MS.me (M : MS C m d l al f r H) {x : Str} {R : Prop} (q : R) (h1 : (x == ("_reading" : Str)) = false := by decide +kernel) (h2 : (x == ("_following" : Str)) = false := by decide +kernel) : ∃ a dx fs, V.ref m = .ref a ∧ H a = some (.ins C dx fs) ∧ fs.lookup x = none ∧ R := by
  obtain ⟨dx, e⟩ := M.m
  exact ⟨m, dx, _, rfl, e, mF_no d l h1 h2, q⟩
end
theorem map_vn_get {f : List Nat} {k : Nat} (h : k < f.length) : (f.map vn)[k]? = some (vn (f.getD k 0)) := by
  rw [List.getElem?_map, List.getD_eq_getElem?_getD, List.getElem?_eq_getElem h]; rfl
/-- edges added, as far as the places ahead of n -/
def linkN (f : List Nat) (b a n : Nat) : List Nat := f.mapIdx fun k x => if k < n ∧ b.testBit k then x ||| a else x
theorem linkN_len (f : List Nat) (b a n : Nat) : (linkN f b a n).length = f.length := by simp [linkN]
theorem linkN_0 (f : List Nat) (b a : Nat) : linkN f b a 0 = f :=
  List.ext_getElem (linkN_len f b a 0) fun i h1 h2 => by simp [linkN]
theorem linkN_all (f : List Nat) (b a : Nat) : linkN f b a f.length = linkF f b a := by
  refine List.ext_getElem (by rw [linkN_len, linkF_len]) fun i h1 h2 => ?_
  have : i < f.length := by rw [linkN_len] at h1; exact h1
  simp [linkN, linkF, this]
theorem linkN_no (f : List Nat) (b a n : Nat) (h : b.testBit n = false) : linkN f b a (n + 1) = linkN f b a n := by
  refine List.ext_getElem (by rw [linkN_len, linkN_len]) fun i h1 h2 => ?_
  simp only [linkN, List.getElem_mapIdx]
  by_cases e : i = n
  · subst e; simp [h]
  · have : i < n + 1 ↔ i < n := by omega
    simp [this]
theorem linkN_yes (f : List Nat) (b a n : Nat) (h : b.testBit n = true) (hn : n < f.length) : linkN f b a (n + 1) = (linkN f b a n).set n (f.getD n 0 ||| a) := by
  refine List.ext_getElem (by rw [List.length_set, linkN_len, linkN_len]) fun i h1 h2 => ?_
  rw [List.getElem_set]
  simp only [linkN, List.getElem_mapIdx]
  by_cases e : n = i
  · subst e
    simp [h, hn, List.getD_eq_getElem?_getD]
  · have : i < n + 1 ↔ i < n := by omega
    simp [this, e]
theorem linkN_get (f : List Nat) (b a n : Nat) (hn : n < f.length) : (linkN f b a n).getD n 0 = f.getD n 0 := by
  simp [linkN, List.getD_eq_getElem?_getD, hn]

end Cs
namespace Cs
open PySem L2
open PyProof.Rows (envOfC)
/-! a set's place -/
theorem rK_len (al : List Nat) (r : Nat → Nat) : (rK al r).length = al.length := by simp [rK]
theorem key_inj {a b : Nat} (h : (Sum.inr (S [a]) : Key) = Sum.inr (S [b])) : a = b := by
  have := S_inj (Sum.inr.inj h)
  simpa using this
theorem rK_val {r : Nat → Nat} {c : Nat} : ∀ {al : List Nat}, c ∈ al → valV (rK al r) (Sum.inr (S [c])) = some (vn (r c))
  | a :: al, h => by
    by_cases e : a = c
    · subst e; exact valV_pos rfl
    · have hne : ((Sum.inr (S [a]) : Key), vn (r a)).1 ≠ Sum.inr (S [c]) := fun z => e (key_inj z)
      have : valV (rK (a :: al) r) (Sum.inr (S [c])) = valV (rK al r) (Sum.inr (S [c])) := by
        simp [rK, valV, List.find?_cons, hne]
      rw [this]
      exact rK_val (by rcases List.mem_cons.mp h with h | h; exact absurd h.symm e; exact h)
theorem rK_put {al : List Nat} {r : Nat → Nat} {c n : Nat} (h : c ∈ al) : putK (rK al r) (Sum.inr (S [c])) (vn n) = rK al fun x => if x = c then n else r x := by
  unfold putK
  rw [if_pos (by
    rw [List.any_eq_true]
    exact ⟨_, List.mem_map.mpr ⟨c, h, rfl⟩, by simp⟩)]
  unfold rK
  rw [List.map_map]
  refine List.map_congr_left fun x hx => ?_
  by_cases e : x = c
  · subst e; simp
  · have : ¬ (Sum.inr (S [x]) : Key) = Sum.inr (S [c]) := fun z => e (key_inj z)
    show (if (Sum.inr (S [x]) : Key) = Sum.inr (S [c]) then ((Sum.inr (S [x]) : Key), vn n) else ((Sum.inr (S [x]) : Key), vn (r x))) = (Sum.inr (S [x]), vn (if x = c then n else r x))
    rw [if_neg this, if_neg e]
theorem rK_congr {al : List Nat} {r r' : Nat → Nat} (h : ∀ c ∈ al, r c = r' c) : rK al r = rK al r' := List.map_congr_left fun c hc => by rw [h c hc]
theorem addR_step {r : Nat → Nat} {cs : List Nat} {b i c : Nat} (h : cs[i]? = some c) (x : Nat) : (if x = c then addR r (cs.take i) b c ||| b else addR r (cs.take i) b x) = addR r (cs.take (i + 1)) b x := by
  have ht : cs.take (i + 1) = cs.take i ++ [c] := by rw [List.take_add_one, h]; rfl
  unfold addR
  rw [ht]
  by_cases e : x = c
  · subst e
    by_cases q : x ∈ cs.take i
    · simp [q, Nat.or_assoc]
    · simp [q]
  · rw [if_neg e]; simp [e]
def sp_place (C : Addr) : Sp := fun vs H Q _ => ∃ (m d l : Addr) (al f cs : List Nat) (r : Nat → Nat), vs = [.ref m, .str (S cs)] ∧ MS C m d l al f r H ∧ f.length ≤ 800 ∧ al.length ≤ 100 ∧ (∀ c ∈ cs, c ∈ al) ∧
  ∀ (p : Addr) H', MS C m d l al (f ++ [0]) (addR r cs (2 ^ f.length)) H' → KM d l H H' → H p = none → H' p = some (.tup [.bl false, vn (2 ^ f.length), vn (2 ^ f.length)]) → Q (.ref p) H'
theorem use_place {C m d l : Addr} {al f cs : List Nat} {r : Nat → Nat} {H : Hp} {Q : VK} {E : XK} (M : MS C m d l al f r H) (hf : f.length ≤ 800) (hL : al.length ≤ 100) (hc : ∀ c ∈ cs, c ∈ al)
    (k : ∀ (p : Addr) H', MS C m d l al (f ++ [0]) (addR r cs (2 ^ f.length)) H' → KM d l H H' → H p = none → H' p = some (.tup [.bl false, vn (2 ^ f.length), vn (2 ^ f.length)]) → Q (.ref p) H') : sp_place C [.ref m, .str (S cs)] H Q E := ⟨m, d, l, al, f, cs, r, rfl, M, hf, hL, hc, k⟩
section
variable {P : Program} {w : World} {K : PySem.W.Frag} {mg : Str → Option Value} {base : Heap}
theorem ok_place (B : Blt mg) {C : Addr} (T : MTxt K mg C) (F : AtM K C "_place" "Machine._place" s_Machine__place ["self", "characters"]) : Mtd P w K mg base 1 C "_place" ["self", "characters"] (sp_place C) := by
  refine F.ok (k := 0) sc_Machine__place (fun vs H Q E h => ?_) (fun f cdv A outer s H vs Q E hr h => ?_)
  · obtain ⟨m, d, l, al, f, cs, r, rfl, _⟩ := h
    rfl
  · obtain ⟨m, d, l, al, f, cs, r, rfl, M, hf, hL, hc, k⟩ := h
    refine ⟨_, (pss_cons (ps_set (i := 2) sc_Machine__place.nd rfl (Or.inl rfl) (pe_op op_shl pe_int (pe_callB (call_len_seqK (K := K) (by rfl)) (by rfl) B.len PySem.boot_len (pa_cons (pe_fldK (K := K) (by rfl) (pv 0) rfl) pa_nil))))
    (pss_cons (ps_expr (pe_bmK (K := K) (by rfl) PySem.F.plainAttrs_list PySem.F.slot_list_append PySem.F.type_list_append mt_append (pe_fldK (K := K) (by rfl) (pv 0) rfl) (pa_cons pe_int pa_nil)))
    (pss_cons (ps_for PassesOwn.never rfl (pi_str (pv 1)) (pg_name (i := 3) sc_Machine__place.nd rfl (Or.inl rfl))
    (pss_one (ps_daug (hu1 hr.units) (pe_fldK (K := K) (by rfl) (pv 0) rfl) (pv 3) (pv 2) iop_or (by intros; rfl))))
    (pss_one (ps_ret (pe_tup (pa_cons pe_bl (pa_cons (pv 2) (pa_cons (pv 2) pa_nil))))))))), ?_⟩
    walk_at "go"
    refine M.fF T ?_
    walk_at "go"
    refine rd_len (.inl (SqL.of M.l)) ?_
    walk_at "go"
    rw [List.length_map]
    refine rd_i (C := CPow) ⟨by omega, by omega, by decide⟩ ?_
    rw [shl_n]
    walk_at "go"
    refine M.fF T ?_
    refine ⟨.inl ⟨rfl, _, SqL.of M.l⟩, ?_⟩
    walk_at "go"
    refine ⟨l, _, _, rfl, rfl, M.l, by rw [List.length_map, PySem.sizeLine_eq]; omega, ?_⟩
    have e0 : (f.map vn ++ [V.int 0]) = (f ++ [0]).map vn := by rw [List.map_append]; rfl
    rw [e0]
    have M1 := M.setl (f ++ [0])
    walk_at "go"
    refine for_str (x := cs) (fun i σ H' => ∃ (x : Option V), σ = [some (.ref m), some (.str (S cs)), some (vn (2 ^ f.length)), x] ∧ MS C m d l al (f ++ [0]) (addR r (cs.take i) (2 ^ f.length)) H' ∧ KM d l H H' ∧ ∀ b, H b = none → H' b = none) ?_ ?_ ?_
    · exact ⟨_, rfl, by rw [show addR r (cs.take 0) (2 ^ f.length) = r from by funext c; simp [addR]]; exact M1, KM.refl.setl, fun b hb => by rw [upd_ne (ne_of_none M.l hb).symm]; exact hb⟩
    · rintro i c σ H' hi ⟨x, rfl, M', kk, fr⟩
      have hal : c ∈ al := hc c (List.mem_of_getElem? hi)
      walk_at "go"
      refine M'.fR T ?_
      walk_at "go"
      refine ⟨d, _, rfl, by rw [← rK_val (r := addR r (cs.take i) (2 ^ f.length)) hal]; exact DGet.k (k := Sum.inr (S [c])) M'.d, ?_⟩
      walk_at "go"
      rw [bor_n]
      refine ⟨_, DPut.k (k := Sum.inr (S [c])) M'.d (by rw [rK_len, PySem.sizeLine_eq]; omega), ?_⟩
      rw [rK_put hal, rK_congr (r' := addR r (cs.take (i + 1)) (2 ^ f.length)) (fun x _ => addR_step hi x)]
      walk_at "go"
      exact ⟨_, rfl, M'.setd _, kk.setd, fun b hb => by rw [upd_ne (ne_of_none M'.d (fr b hb)).symm]; exact fr b hb⟩
    · rintro σ H' ⟨x, rfl, M', kk, fr⟩
      rw [List.take_length] at M'
      walk_at "go"
      refine ⟨by show 3 ≤ sizeLine; decide, fun p hp => ?_⟩
      have n := M'.free hp
      walk_at "go"
      exact k p _ (M'.lay hp) (kk.lay' hp) (by
        cases e : H p with
        | none => rfl
        | some o => rw [kk p o n.1 n.2.1 e] at hp; cases hp) upd_same
end

end Cs
namespace Cs
open PySem L2
open PyProof.Rows (envOfC)
/-! pieces as values -/
def dPc (x : Bool × Nat × Nat) : PyData := .tuple [.bool x.1, .int x.2.1, .int x.2.2]
theorem pc_at {H : Hp} {v : V} {x : Bool × Nat × Nat} (h : Tp H v (dPc x)) : ∃ t, v = .ref t ∧ H t = some (.tup [.bl x.1, vn x.2.1, vn x.2.2]) := by
  cases h with
  | tup e t =>
    cases t with
    | cons a t =>
      cases a
      cases t with
      | cons b t =>
        cases b
        cases t with
        | cons c t =>
          cases c
          cases t
          exact ⟨_, rfl, e⟩
theorem pc_mk {H : Hp} {t : Addr} {x : Bool × Nat × Nat} (h : H t = some (.tup [.bl x.1, vn x.2.1, vn x.2.2])) : Tp H (.ref t) (dPc x) := .tup h (.cons (.bl _) (.cons (.int _) (.cons (.int _) .nil)))
theorem TpAll.get {H : Hp} : ∀ {vs : List V} {ds : List PyData} {i : Nat} {v : V}, TpAll H vs ds → vs[i]? = some v → ∃ d, ds[i]? = some d ∧ Tp H v d
  | _, _, _, _, .nil, e => by simp at e
  | _, _, 0, _, .cons h _, e => by
    simp at e; subst e; exact ⟨_, rfl, h⟩
  | _, _, i + 1, v, .cons _ t, e => by
    obtain ⟨d, a, b⟩ := TpAll.get (i := i) (v := v) t (by simpa using e)
    exact ⟨d, by simpa using a, b⟩
theorem pcs_get {H : Hp} {vs : List V} {ps : List (Bool × Nat × Nat)} {i : Nat} {v : V} (h : TpAll H vs (ps.map dPc)) (e : vs[i]? = some v) : ∃ x, ps[i]? = some x ∧ Tp H v (dPc x) := by
  obtain ⟨d, h1, h2⟩ := TpAll.get h e
  rw [List.getElem?_map] at h1
  cases q : ps[i]? with
  | none => rw [q] at h1; cases h1
  | some x =>
    rw [q] at h1
    cases h1
    exact ⟨x, rfl, h2⟩
abbrev Pc := Bool × Nat × Nat
def choB (a x : Pc) : Pc := (a.1 || x.1, a.2.1 ||| x.2.1, a.2.2 ||| x.2.2)
def choF (ps : List Pc) : Pc := ps.foldl choB (false, 0, 0)
def chnB (s : List Nat × Pc) (x : Pc) : List Nat × Pc := (linkF s.1 s.2.2.2 x.2.1, s.2.1 && x.1, if s.2.1 then s.2.2.1 ||| x.2.1 else s.2.2.1, if x.1 then s.2.2.2 ||| x.2.2 else x.2.2)
def chnF (f : List Nat) (ps : List Pc) : List Nat × Pc := ps.foldl chnB (f, true, 0, 0)
theorem take_snoc {α : Type} {l : List α} {i : Nat} {x : α} (h : l[i]? = some x) : l.take (i + 1) = l.take i ++ [x] := by rw [List.take_add_one, h]; rfl
theorem chnF_len (f : List Nat) (ps : List Pc) : (chnF f ps).1.length = f.length := by
  unfold chnF
  have : ∀ (ps : List Pc) (s : List Nat × Pc), (ps.foldl chnB s).1.length = s.1.length := by
    intro ps
    induction ps with
    | nil => intro s; rfl
    | cons x ps ih => intro s; rw [List.foldl_cons, ih]; exact linkF_len _ _ _
  exact this ps _
theorem zero_bit {m : Nat} : (0 : Nat).testBit m = true ↔ False := by simp
theorem POk.none (f : List Nat) (a : Nat) : POk f a a 0 0 := ⟨Nat.le_refl _, fun m h => by simp at h, fun m h => by simp at h, fun k m h1 h2 => by omega⟩
theorem PL_zero {f : List Nat} {r : Nat → Nat} (w : List Nat) : PL f r true 0 0 w ↔ w = [] := by
  cases w with
  | nil => simp [PL]
  | cons c w => constructor <;> intro h <;> simp [PL] at h
theorem PL_zero' {f : List Nat} {r : Nat → Nat} (w : List Nat) : PL f r false 0 0 w ↔ False := by
  cases w with
  | nil => simp [PL]
  | cons c w => constructor <;> intro h <;> simp [PL] at h
/-- what _choice makes of pieces -/
theorem choF_ok {f : List Nat} {r : Nat → Nat} {a b : Nat} {ps : List Pc} {As : List Lg} (h : Pcs f r a ps b As) : POk f a b (choF ps).2.1 (choF ps).2.2 ∧ ∀ w, PL f r (choF ps).1 (choF ps).2.1 (choF ps).2.2 w ↔ ∃ A ∈ As, A w := by
  have gen : ∀ {x b : Nat} {ps : List Pc} {As : List Lg}, Pcs f r x ps b As → ∀ (s : Pc) (B : Lg), POk f a x s.2.1 s.2.2 → (∀ w, PL f r s.1 s.2.1 s.2.2 w ↔ B w) →
      POk f a b (ps.foldl choB s).2.1 (ps.foldl choB s).2.2 ∧ ∀ w, PL f r (ps.foldl choB s).1 (ps.foldl choB s).2.1 (ps.foldl choB s).2.2 w ↔ (B w ∨ ∃ A ∈ As, A w) := by
    intro x b ps As h
    induction h with
    | nil => intro s B p q; exact ⟨p, fun w => by simpa using q w⟩
    | @cons x1 x2 x3 e' F' L' A' ps' As' p' q' t ih =>
      intro s B p q
      obtain ⟨p2, q2⟩ := choice_step p p' q q'
      obtain ⟨r1, r2⟩ := ih (choB s (e', F', L')) _ p2 q2
      refine ⟨r1, fun w => (r2 w).trans ?_⟩
      constructor
      · rintro ((z | z) | ⟨A, hA, z⟩)
        · exact .inl z
        · exact .inr ⟨_, List.mem_cons_self, z⟩
        · exact .inr ⟨A, List.mem_cons_of_mem _ hA, z⟩
      · rintro (z | ⟨A, hA, z⟩)
        · exact .inl (.inl z)
        · rcases List.mem_cons.mp hA with rfl | hA
          · exact .inl (.inr z)
          · exact .inr ⟨A, hA, z⟩
  obtain ⟨r1, r2⟩ := gen h (false, 0, 0) (fun _ => False) (POk.none f a) PL_zero'
  exact ⟨r1, fun w => (r2 w).trans (by simp)⟩
/-- what _chain makes of pieces -/
theorem chnF_ok {f : List Nat} {r : Nat → Nat} {a b : Nat} {ps : List Pc} {As : List Lg} (ha : 1 ≤ a) (hb : b ≤ f.length) (M : Mach f r) (h : Pcs f r a ps b As) :
    POk (chnF f ps).1 a b (chnF f ps).2.2.1 (chnF f ps).2.2.2 ∧ (∀ w, PL (chnF f ps).1 r (chnF f ps).2.1 (chnF f ps).2.2.1 (chnF f ps).2.2.2 w ↔ RowL As w) ∧ Mach (chnF f ps).1 r ∧ ∀ {f0 : List Nat} {r0 : Nat → Nat}, f0.length = a → Grow f0 f r0 r → Grow f0 (chnF f ps).1 r0 r := by
  have gen : ∀ (ps : List Pc) (x : Nat) (As : List Lg) (s : List Nat × Pc) (B : Lg), Pcs s.1 r x ps b As → a ≤ x → b ≤ s.1.length → Mach s.1 r → POk s.1 a x s.2.2.1 s.2.2.2 → (∀ w, PL s.1 r s.2.1 s.2.2.1 s.2.2.2 w ↔ B w) →
      POk (ps.foldl chnB s).1 a b (ps.foldl chnB s).2.2.1 (ps.foldl chnB s).2.2.2 ∧ (∀ w, PL (ps.foldl chnB s).1 r (ps.foldl chnB s).2.1 (ps.foldl chnB s).2.2.1 (ps.foldl chnB s).2.2.2 w ↔ ∃ u v, w = u ++ v ∧ B u ∧ RowL As v) ∧ Mach (ps.foldl chnB s).1 r ∧
      ∀ {f0 : List Nat} {r0 : Nat → Nat}, f0.length = a → Grow f0 s.1 r0 r → Grow f0 (ps.foldl chnB s).1 r0 r := by
    intro ps
    induction ps with
    | nil =>
      intro x As s B h hx hb M p q
      cases h
      refine ⟨p, fun w => (q w).trans ⟨fun z => ⟨w, [], by simp, z, rfl⟩, ?_⟩, M, fun _ g => g⟩
      rintro ⟨u, v, rfl, z, hv⟩
      have : v = [] := hv
      subst this
      rw [List.append_nil]; exact z
    | cons y ps ih =>
      intro x As s B h hx hb M p q
      cases h with
      | cons p' q' t =>
        rename_i x' e F L A As
        have t1 := t.le
        have l1 := p'.le
        obtain ⟨p2, q2⟩ := chain_step p p' (by omega) q q'
        have ag : Agr s.1 (linkF s.1 s.2.2.2 F) r r x' b := linkF_agr fun k hk => by have := p.L k hk; omega
        have M2 : Mach (linkF s.1 s.2.2.2 F) r := M.link (fun m hm => p'.F m hm) (by omega) (by omega)
        obtain ⟨r1, r2, r3, r4⟩ := ih x' As (chnB s (e, F, L)) _ (t.agr ag) (by omega) (by show b ≤ (linkF _ _ _).length; rw [linkF_len]; exact hb) M2 p2 q2
        refine ⟨r1, fun w => (r2 w).trans ?_, r3, fun h0 g => r4 h0 (Grow.link (fun k hk => (p.L k hk).1) (by omega) h0 g)⟩
        constructor
        · rintro ⟨u, v, rfl, ⟨u1, u2, rfl, h1, h2⟩, h3⟩
          exact ⟨u1, u2 ++ v, by rw [List.append_assoc], h1, u2, v, rfl, h2, h3⟩
        · rintro ⟨u, v, rfl, h1, u2, v2, rfl, h2, h3⟩
          exact ⟨u ++ u2, v2, by rw [List.append_assoc], ⟨u, u2, rfl, h1, h2⟩, h3⟩
  obtain ⟨r1, r2, r3, r4⟩ := gen ps a As (f, true, 0, 0) (fun w => w = []) h (Nat.le_refl _) hb M (POk.none f a) PL_zero
  refine ⟨r1, fun w => (r2 w).trans ⟨?_, fun z => ⟨[], w, rfl, rfl, z⟩⟩, r3, r4⟩
  rintro ⟨u, v, rfl, rfl, z⟩
  exact z

end Cs
namespace Cs
open PySem L2
open PyProof.Rows (envOfC)
def sp_choice (K : PySem.W.Frag) : Sp := fun vs H Q _ => ∃ (q : Addr) (xs : List V) (ps : List Pc), vs = [.ref q] ∧ SqL K H q xs ∧ TpAll H xs (ps.map dPc) ∧
  ∀ (p : Addr) H', Same H H' → H p = none → H' p = some (.tup [.bl (choF ps).1, vn (choF ps).2.1, vn (choF ps).2.2]) → Q (.ref p) H'
theorem use_choice {K : PySem.W.Frag} {q : Addr} {xs : List V} {ps : List Pc} {H : Hp} {Q : VK} {E : XK} (h : SqL K H q xs) (t : TpAll H xs (ps.map dPc)) (k : ∀ (p : Addr) H', Same H H' → H p = none → H' p = some (.tup [.bl (choF ps).1, vn (choF ps).2.1, vn (choF ps).2.2]) → Q (.ref p) H') : sp_choice K [.ref q] H Q E := ⟨q, xs, ps, rfl, h, t, k⟩
section
variable {P : Program} {w : World} {K : PySem.W.Frag} {mg : Str → Option Value} {base : Heap}
theorem ok_choice (F : At K mg "_choice" s__choice ["pieces"]) : Cal P w K mg base 1 "_choice" ["pieces"] (sp_choice K) := by
  refine F.ok (k := 0) sc__choice (fun vs H Q E h => ?_) (fun f cdv A outer s H vs Q E hr h => ?_)
  · obtain ⟨q, xs, ps, rfl, _⟩ := h
    rfl
  · obtain ⟨q, xs, ps, rfl, hq, ht, k⟩ := h
    refine ⟨_, (pss_cons (ps_asg (pe_tup (pa_cons pe_bl (pa_cons pe_int (pa_cons pe_int pa_nil)))) (pg_tupK (n := 3) (K := K) (by rfl) (by rfl) (pgs_cons (pg_name (i := 1) sc__choice.nd rfl (Or.inl rfl)) (pgs_cons (pg_name (i := 2) sc__choice.nd rfl (Or.inl rfl)) (pgs_cons (pg_name (i := 3) sc__choice.nd rfl (Or.inl rfl)) pgs_nil)))))
    (pss_cons (ps_for PassesOwn.never rfl (pi_listK (K := K) (by rfl) (pv 0)) (pg_tupK (n := 3) (K := K) (by rfl) (by rfl) (pgs_cons (pg_name (i := 4) sc__choice.nd rfl (Or.inl rfl)) (pgs_cons (pg_name (i := 5) sc__choice.nd rfl (Or.inl rfl)) (pgs_cons (pg_name (i := 6) sc__choice.nd rfl (Or.inl rfl)) pgs_nil))))
    (pss_cons (ps_set (i := 1) sc__choice.nd rfl (Or.inl rfl) (pe_or (pv 1) (pe_one (pv 4))))
    (pss_cons (ps_aug (i := 2) sc__choice.nd rfl (Or.inl rfl) (pv 5) ip_or)
    (pss_one (ps_aug (i := 3) sc__choice.nd rfl (Or.inl rfl) (pv 6) ip_or)))))
    (pss_one (ps_ret (pe_tup (pa_cons (pv 1) (pa_cons (pv 2) (pa_cons (pv 3) pa_nil)))))))), ?_⟩
    walk_at "go"
    refine ⟨by show 3 ≤ sizeLine; decide, fun p0 hp0 => ?_⟩
    walk_at "go"
    refine rd_gtup (SqT.of upd_same) rfl ?_
    walk_at "go"
    have s0 : Same H (upd H p0 (.tup [.bl false, .int 0, .int 0])) := Same.lay hp0
    have hq0 := Same.seq s0 hq
    have hl : xs.length = ps.length := by rw [ht.length, List.length_map]
    refine ⟨q, rfl, ⟨_, hq0⟩, for_list (K := K) (a := q) (xs := xs) (fun i σ H' => ∃ (x4 x5 x6 : Option V), σ = [some (.ref q), some (.bl ((ps.take i).foldl choB (false, 0, 0)).1), some (vn ((ps.take i).foldl choB (false, 0, 0)).2.1), some (vn ((ps.take i).foldl choB (false, 0, 0)).2.2), x4, x5, x6] ∧ Same H H') ?_ (fun i σ H' _ ⟨_, _, _, _, e⟩ => Same.seq e hq) ?_ ?_⟩
    · exact ⟨_, _, _, rfl, s0⟩
    · rintro i y σ H' hi ⟨x4, x5, x6, rfl, s1⟩
      obtain ⟨x, hx, tx⟩ := pcs_get (ht.ts (TS.same s1)) hi
      obtain ⟨t, rfl, et⟩ := pc_at tx
      refine rd_gtup (SqT.of et) rfl ?_
      walk_at "go"
      rw [take_snoc hx, List.foldl_append]
      generalize (ps.take i).foldl choB (false, 0, 0) = a
      obtain ⟨e, F, L⟩ := a
      obtain ⟨e2, F2, L2⟩ := x
      cases e <;> (walk_at "go"; rw [bor_n]; walk_at "go"; rw [bor_n]; exact ⟨_, _, _, rfl, s1⟩)
    · rintro σ H' ⟨x4, x5, x6, rfl, s1⟩
      rw [hl, List.take_length]
      walk_at "go"
      exact ⟨by show 3 ≤ sizeLine; decide, fun p hp => by
        walk_at "go"
        exact k p _ (L2.Same.trans s1 (Same.lay hp)) (L2.Same.free s1 hp) upd_same⟩
end

end Cs
namespace Cs
open PySem L2
open PyProof.Rows (envOfC)
def sp_link (C : Addr) : Sp := fun vs H Q _ => ∃ (m d l : Addr) (al f : List Nat) (r : Nat → Nat) (b a : Nat), vs = [.ref m, vn b, vn a] ∧ MS C m d l al f r H ∧ f.length ≤ 900 ∧
  ∀ H', MS C m d l al (linkF f b a) r H' → KM d l H H' → Q .non H'
theorem use_link {C m d l : Addr} {al f : List Nat} {r : Nat → Nat} {b a : Nat} {H : Hp} {Q : VK} {E : XK} (M : MS C m d l al f r H) (hf : f.length ≤ 900) (k : ∀ H', MS C m d l al (linkF f b a) r H' → KM d l H H' → Q .non H') : sp_link C [.ref m, vn b, vn a] H Q E := ⟨m, d, l, al, f, r, b, a, rfl, M, hf, k⟩
section
variable {P : Program} {w : World} {K : PySem.W.Frag} {mg : Str → Option Value} {base : Heap}
theorem ok_link (B : Blt mg) {C : Addr} (T : MTxt K mg C) (F : AtM K C "_link" "Machine._link" s_Machine__link ["self", "before", "after"]) : Mtd P w K mg base 1 C "_link" ["self", "before", "after"] (sp_link C) := by
  refine F.ok (k := 0) sc_Machine__link (fun vs H Q E h => ?_) (fun f cdv A outer s H vs Q E hr h => ?_)
  · obtain ⟨m, d, l, al, f, r, b, a, rfl, _⟩ := h
    rfl
  · obtain ⟨m, d, l, al, f, r, b, a, rfl, M, hf, k⟩ := h
    refine ⟨_, (pss_one (ps_for PassesOwn.never rfl (pi_range1 (by rfl) B.range (pa_cons (pe_callB (call_len_seqK (K := K) (by rfl)) (by rfl) B.len PySem.boot_len (pa_cons (pe_fldK (K := K) (by rfl) (pv 0) rfl) pa_nil)) pa_nil)) (pg_name (i := 3) sc_Machine__link.nd rfl (Or.inl rfl))
    (pss_one (ps_if (pt_truthK (K := K) (by rfl) (pe_op op_and (pe_op op_shr (pv 1) (pv 3)) pe_int))
    (pss_one (ps_augS (pe_fldK (K := K) (by rfl) (pv 0) rfl) (pv 3) (pget_listK (K := K) (by rfl)) (pv 2) ip_or set_list))
    pss_nil)))), ?_⟩
    walk_at "go"
    refine M.fF T ?_
    walk_at "go"
    refine rd_len (.inl (SqL.of M.l)) ?_
    walk_at "go"
    rw [List.length_map]
    refine rd_rng1j (by omega) (by omega) ?_
    rw [Int.toNat_natCast]
    refine for_range (lo := 0) (n := f.length) (fun i σ H' => ∃ (x : Option V), σ = [some (.ref m), some (vn b), some (vn a), x] ∧ MS C m d l al (linkN f b a i) r H' ∧ KM d l H H') ?_ ?_ ?_
    · exact ⟨_, rfl, by rw [linkN_0]; exact M, KM.refl⟩
    · rintro i σ H' hi ⟨x, rfl, M', kk⟩
      walk_at "go"
      rw [Int.zero_add]
      refine ⟨_, _, rfl, rfl, by omega, ?_⟩
      walk_at "go"
      rw [bit_n]
      cases e : b.testBit i with
      | false =>
        refine ⟨false, rfl, ?_⟩
        walk_at "go"
        exact ⟨_, rfl, by rw [linkN_no _ _ _ _ e]; exact M', kk⟩
      | true =>
        refine ⟨true, rfl, ?_⟩
        walk_at "go"
        refine M'.fF T ?_
        walk_at "go"
        refine rd_ixl (SqL.of M'.l) (at_c (j := i) (by omega) (map_vn_get (by rw [linkN_len]; exact hi))) ?_
        walk_at "go"
        rw [linkN_get _ _ _ _ hi, bor_n]
        refine rd_setl M'.l (j := i) (by rw [List.length_map, linkN_len]; unfold ixN; rw [if_pos (by omega), if_pos (by omega)]; simp) ?_
        refine ⟨_, rfl, ?_, kk.setl⟩
        have := M'.setl (linkN f b a (i + 1))
        rw [linkN_yes _ _ _ _ e hi] at this ⊢
        rw [List.map_set] at this
        exact this
    · rintro σ H' ⟨x, rfl, M', kk⟩
      rw [linkN_all] at M'
      exact k H' M' kk
end

end Cs
namespace Cs
open PySem L2
open PyProof.Rows (envOfC)
def sp_chain (K : PySem.W.Frag) (C : Addr) : Sp := fun vs H Q _ => ∃ (m d l q : Addr) (al f : List Nat) (r : Nat → Nat) (xs : List V) (ps : List Pc), vs = [.ref m, .ref q] ∧ MS C m d l al f r H ∧ f.length ≤ 900 ∧ H q = some (.lst xs) ∧ q ≠ l ∧ TpAll H xs (ps.map dPc) ∧
  ∀ (p : Addr) H', MS C m d l al (chnF f ps).1 r H' → KM d l H H' → H p = none → H' p = some (.tup [.bl (chnF f ps).2.1, vn (chnF f ps).2.2.1, vn (chnF f ps).2.2.2]) → Q (.ref p) H'
theorem use_chain {K : PySem.W.Frag} {C m d l q : Addr} {al f : List Nat} {r : Nat → Nat} {xs : List V} {ps : List Pc} {H : Hp} {Q : VK} {E : XK} (M : MS C m d l al f r H) (hf : f.length ≤ 900) (h : H q = some (.lst xs)) (nl : q ≠ l) (t : TpAll H xs (ps.map dPc))
    (k : ∀ (p : Addr) H', MS C m d l al (chnF f ps).1 r H' → KM d l H H' → H p = none → H' p = some (.tup [.bl (chnF f ps).2.1, vn (chnF f ps).2.2.1, vn (chnF f ps).2.2.2]) → Q (.ref p) H') : sp_chain K C [.ref m, .ref q] H Q E := ⟨m, d, l, q, al, f, r, xs, ps, rfl, M, hf, h, nl, t, k⟩
theorem KM.free {C m d l p : Addr} {al f : List Nat} {r : Nat → Nat} {H H' : Hp} (k : KM d l H H') (M : MS C m d l al f r H') (h : H' p = none) : H p = none := by
  have n := M.free h
  cases e : H p with
  | none => rfl
  | some o => rw [k p o n.1 n.2.1 e] at h; cases h
section
variable {P : Program} {w : World} {K : PySem.W.Frag} {mg : Str → Option Value} {base : Heap}
theorem ok_chain {C : Addr} (T : MTxt K mg C) (G__link : Mtd P w K mg base 1 C "_link" ["self", "before", "after"] (sp_link C)) (F : AtM K C "_chain" "Machine._chain" s_Machine__chain ["self", "pieces"]) : Mtd P w K mg base 2 C "_chain" ["self", "pieces"] (sp_chain K C) := by
  refine F.ok (k := 1) sc_Machine__chain (fun vs H Q E h => ?_) (fun f cdv A outer s H vs Q E hr h => ?_)
  · obtain ⟨m, d, l, q, al, f, r, xs, ps, rfl, _⟩ := h
    rfl
  · obtain ⟨m, d, l, q, al, f, r, xs, ps, rfl, M, hf, hq, nl, ht, k⟩ := h
    refine ⟨_, (pss_cons (ps_asg (pe_tup (pa_cons pe_bl (pa_cons pe_int (pa_cons pe_int pa_nil)))) (pg_tupK (n := 3) (K := K) (by rfl) (by rfl) (pgs_cons (pg_name (i := 2) sc_Machine__chain.nd rfl (Or.inl rfl)) (pgs_cons (pg_name (i := 3) sc_Machine__chain.nd rfl (Or.inl rfl)) (pgs_cons (pg_name (i := 4) sc_Machine__chain.nd rfl (Or.inl rfl)) pgs_nil)))))
    (pss_cons (ps_for PassesOwn.never rfl (pi_listK (K := K) (by rfl) (pv 1)) (pg_tupK (n := 3) (K := K) (by rfl) (by rfl) (pgs_cons (pg_name (i := 5) sc_Machine__chain.nd rfl (Or.inl rfl)) (pgs_cons (pg_name (i := 6) sc_Machine__chain.nd rfl (Or.inl rfl)) (pgs_cons (pg_name (i := 7) sc_Machine__chain.nd rfl (Or.inl rfl)) pgs_nil))))
    (pss_cons (ps_expr (pe_md T.cl G__link (hr.mono (by first | decide | omega)) (pv 0) (pa_cons (pv 4) (pa_cons (pv 6) pa_nil))))
    (pss_cons (ps_set (i := 3) sc_Machine__chain.nd rfl (Or.inl rfl) (pe_ifExp (pt_val (pv 2)) (pe_op op_or (pv 3) (pv 6)) (pv 3)))
    (pss_cons (ps_set (i := 4) sc_Machine__chain.nd rfl (Or.inl rfl) (pe_ifExp (pt_truthK (K := K) (by rfl) (pv 5)) (pe_op op_or (pv 4) (pv 7)) (pv 7)))
    (pss_one (ps_set (i := 2) sc_Machine__chain.nd rfl (Or.inl rfl) (pe_and (pv 2) (pe_one (pv 5)))))))))
    (pss_one (ps_ret (pe_tup (pa_cons (pv 2) (pa_cons (pv 3) (pa_cons (pv 4) pa_nil)))))))), ?_⟩
    walk_at "go"
    refine ⟨by show 3 ≤ sizeLine; decide, fun p0 hp0 => ?_⟩
    walk_at "go"
    refine rd_gtup (SqT.of upd_same) rfl ?_
    walk_at "go"
    have M0 := M.lay (o := .tup [.bl true, .int 0, .int 0]) hp0
    have k0 : KM d l H (upd H p0 (.tup [.bl true, .int 0, .int 0])) := KM.refl.lay hp0
    have hl : xs.length = ps.length := by rw [ht.length, List.length_map]
    have nd : q ≠ d := ne_of hq M.d (by intro z; cases z)
    have lst : ∀ H', KM d l H H' → SqL K H' q xs := fun H' kk => SqL.of (kk q _ nd nl hq)
    refine ⟨q, rfl, ⟨_, lst _ k0⟩, for_list (K := K) (a := q) (xs := xs) (fun i σ H' => ∃ (x5 x6 x7 : Option V) (s : List Nat × Pc), s = (ps.take i).foldl chnB (f, true, 0, 0) ∧ σ = [some (.ref m), some (.ref q), some (.bl s.2.1), some (vn s.2.2.1), some (vn s.2.2.2), x5, x6, x7] ∧ MS C m d l al s.1 r H' ∧ KM d l H H') ?_ (fun i σ H' _ ⟨_, _, _, _, _, _, _, e⟩ => lst _ e) ?_ ?_⟩
    · exact ⟨_, _, _, _, rfl, rfl, M0, k0⟩
    · rintro i y σ H' hi ⟨x5, x6, x7, s, es, rfl, M1, k1⟩
      obtain ⟨x, hx, tx⟩ := pcs_get (ht.ts (M.ts k1)) hi
      obtain ⟨t, rfl, et⟩ := pc_at tx
      have hlen : s.1.length = f.length := by rw [es]; exact chnF_len f (ps.take i)
      refine rd_gtup (SqT.of et) rfl ?_
      walk_at "go"
      refine M1.me ?_
      walk_at "go"
      refine use_link M1 (by omega) fun H2 M2 k2 => ?_
      walk_at "go"
      have fin : ∀ (σ' : St) (x5 x6 x7 : Option V), σ' = [some (.ref m), some (.ref q), some (.bl (chnB s x).2.1), some (vn (chnB s x).2.2.1), some (vn (chnB s x).2.2.2), x5, x6, x7] →
          ∃ (x5 x6 x7 : Option V) (s' : List Nat × Pc), s' = (ps.take (i + 1)).foldl chnB (f, true, 0, 0) ∧ σ' = [some (.ref m), some (.ref q), some (.bl s'.2.1), some (vn s'.2.2.1), some (vn s'.2.2.2), x5, x6, x7] ∧ MS C m d l al s'.1 r H2 ∧ KM d l H H2 :=
        fun σ' x5 x6 x7 e => ⟨x5, x6, x7, chnB s x, by rw [take_snoc hx, List.foldl_append, ← es]; rfl, e, M2, k1.trans k2⟩
      obtain ⟨g, e, F, L⟩ := s
      obtain ⟨e2, F2, L2⟩ := x
      cases e <;> cases e2 <;> (
        walk_at "go"
        try rw [bor_n]
        walk_at "go"
        refine ⟨_, rfl, ?_⟩
        walk_at "go"
        try rw [bor_n]
        walk_at "go"
        exact fin _ _ _ _ rfl)
    · rintro σ H' ⟨x5, x6, x7, s, es, rfl, M1, k1⟩
      rw [hl, List.take_length] at es
      subst es
      walk_at "go"
      exact ⟨by show 3 ≤ sizeLine; decide, fun p hp => by
        walk_at "go"
        exact k p _ (M1.lay hp) (k1.lay' hp) (k1.free M1 hp) upd_same⟩
end

end Cs
namespace Cs
open PySem L2
open PyProof.Rows (envOfC)
/-! the mirror of is_pattern over data -/
abbrev kS (s : String) : Str := Str.ofString s
def isStr : PyData → Bool | .str _ => true | _ => false
def isTup : PyData → Bool | .tuple _ => true | _ => false
def isIntB : PyData → Bool | .int _ => true | .bool _ => true | _ => false
def isBool : PyData → Bool | .bool _ => true | _ => false
theorem tyx_lst {K : PySem.W.Frag} {H : Hp} {a : Addr} {xs : List V} (h : SqL K H a xs) : TyX K H (.ref a) (.type "list") := by
  rcases h with (h | ⟨o, h⟩) | ⟨o, its, n, h, c, _⟩
  · exact .base (.lst h)
  · exact .base (.frz h)
  · exact .kList h c
theorem tyx_tup {K : PySem.W.Frag} {H : Hp} {a : Addr} {xs : List V} (h : SqT K H a xs) : TyX K H (.ref a) (.type "tuple") := by
  rcases h with (h | ⟨o, h⟩) | ⟨o, its, n, h, c, _⟩
  · exact .base (.tup h)
  · exact .fTuple h
  · exact .kTuple h c
section
variable {K : PySem.W.Frag} {H : Hp} {Q : VK} {v : V} {d : PyData}
theorem rd_isStr (h : Dp K H v d) (q : Q (.bl (isStr d)) H) : rIsi K [v, .ty "str"] H Q := by
  cases h with
  | non => exact rd_isi (.ty _) (.base .non) (kit_ty (b := "str") (r := false) (by decide +kernel)) q
  | bl b => exact rd_isi (.ty _) (.base (.bl b)) (kit_ty (b := "str") (r := false) (by decide +kernel)) q
  | int i => exact rd_isi (.ty _) (.base (.int i)) (kit_ty (b := "str") (r := false) (by decide +kernel)) q
  | str x => exact rd_isi (.ty _) (.base (.str x)) (kit_ty (b := "str") (r := true) (by decide +kernel)) q
  | lst e _ => exact rd_isi (.ty _) (tyx_lst e) (kit_ty (b := "str") (r := false) (by decide +kernel)) q
  | tup e _ => exact rd_isi (.ty _) (tyx_tup e) (kit_ty (b := "str") (r := false) (by decide +kernel)) q
theorem rd_isTup (h : Dp K H v d) (q : Q (.bl (isTup d)) H) : rIsi K [v, .ty "tuple"] H Q := by
  cases h with
  | non => exact rd_isi (.ty _) (.base .non) (kit_ty (b := "tuple") (r := false) (by decide +kernel)) q
  | bl b => exact rd_isi (.ty _) (.base (.bl b)) (kit_ty (b := "tuple") (r := false) (by decide +kernel)) q
  | int i => exact rd_isi (.ty _) (.base (.int i)) (kit_ty (b := "tuple") (r := false) (by decide +kernel)) q
  | str x => exact rd_isi (.ty _) (.base (.str x)) (kit_ty (b := "tuple") (r := false) (by decide +kernel)) q
  | lst e _ => exact rd_isi (.ty _) (tyx_lst e) (kit_ty (b := "tuple") (r := false) (by decide +kernel)) q
  | tup e _ => exact rd_isi (.ty _) (tyx_tup e) (kit_ty (b := "tuple") (r := true) (by decide +kernel)) q
theorem rd_isInt (h : Dp K H v d) (q : Q (.bl (isIntB d)) H) : rIsi K [v, .ty "int"] H Q := by
  cases h with
  | non => exact rd_isi (.ty _) (.base .non) (kit_ty (b := "int") (r := false) (by decide +kernel)) q
  | bl b => exact rd_isi (.ty _) (.base (.bl b)) (kit_ty (b := "int") (r := true) (by decide +kernel)) q
  | int i => exact rd_isi (.ty _) (.base (.int i)) (kit_ty (b := "int") (r := true) (by decide +kernel)) q
  | str x => exact rd_isi (.ty _) (.base (.str x)) (kit_ty (b := "int") (r := false) (by decide +kernel)) q
  | lst e _ => exact rd_isi (.ty _) (tyx_lst e) (kit_ty (b := "int") (r := false) (by decide +kernel)) q
  | tup e _ => exact rd_isi (.ty _) (tyx_tup e) (kit_ty (b := "int") (r := false) (by decide +kernel)) q
theorem rd_isBool (h : Dp K H v d) (q : Q (.bl (isBool d)) H) : rIsi K [v, .ty "bool"] H Q := by
  cases h with
  | non => exact rd_isi (.ty _) (.base .non) (kit_ty (b := "bool") (r := false) (by decide +kernel)) q
  | bl b => exact rd_isi (.ty _) (.base (.bl b)) (kit_ty (b := "bool") (r := true) (by decide +kernel)) q
  | int i => exact rd_isi (.ty _) (.base (.int i)) (kit_ty (b := "bool") (r := false) (by decide +kernel)) q
  | str x => exact rd_isi (.ty _) (.base (.str x)) (kit_ty (b := "bool") (r := false) (by decide +kernel)) q
  | lst e _ => exact rd_isi (.ty _) (tyx_lst e) (kit_ty (b := "bool") (r := false) (by decide +kernel)) q
  | tup e _ => exact rd_isi (.ty _) (tyx_tup e) (kit_ty (b := "bool") (r := false) (by decide +kernel)) q
theorem rd_isBl {b : Bool} (q : Q (.bl true) H) : rIsi K [.bl b, .ty "bool"] H Q := rd_isBool (.bl b) q
end
/-- an int, no bool, from lo to hi -/
def mWithin (lo hi : Int) : PyData → Bool
  | .int i => decide (lo ≤ i) && decide (i ≤ hi)
  | _ => false
def mHigh (l : Int) : PyData → Bool
  | .none => true
  | d => mWithin l 4 d
def mRange (lo hi : PyData) : Bool := match lo with
  | .int l => mWithin 0 4 (.int l) && mHigh l hi
  | _ => false
/-- a text of distinct characters of the alphabet in its order -/
def mSel (al : List Nat) : PyData → Bool
  | .str x => decide (x = S (al.filter fun c => decide (c ∈ x.cps.toList)))
  | _ => false
def mOne (al : List Nat) : List PyData → Bool
  | [p] => mSel al p
  | _ => false
def mThree : List PyData → Bool
  | [_, lo, hi] => mRange lo hi
  | _ => false
/-- an expression as far as can be told without its parts -/
def mWF (al : List Nat) : PyData → Bool
  | .tuple (.str w :: ps) =>
    if w = kS "set" then mOne al ps
    else if w = kS "not" then decide (ps.length = 1)
    else if w = kS "again" then mThree ps
    else decide (w = kS "row") || decide (w = kS "any") || decide (w = kS "all")
  | _ => false
def mParts : PyData → List PyData
  | .tuple (.str w :: ps) => if w = kS "set" then [] else if w = kS "again" then ps.take 1 else ps
  | _ => []
theorem mWF_eq (al : List Nat) (w : Str) (ps : List PyData) : mWF al (.tuple (.str w :: ps)) = if w = kS "set" then mOne al ps else if w = kS "not" then decide (ps.length = 1) else if w = kS "again" then mThree ps else (decide (w = kS "row") || decide (w = kS "any") || decide (w = kS "all")) := rfl
theorem mParts_eq (w : Str) (ps : List PyData) : mParts (.tuple (.str w :: ps)) = if w = kS "set" then [] else if w = kS "again" then ps.take 1 else ps := rfl

end Cs
namespace Cs
open PySem L2
open PyProof.Rows (envOfC)
/-! patterns as values -/
def hiD : Option Nat → PyData
  | none => .none
  | some h => .int (h : Nat)
def hiV : Option Nat → V
  | none => .non
  | some h => vn h
theorem hi_val {H : Hp} {v : V} {hi : Option Nat} (h : Tp H v (hiD hi)) : v = hiV hi := by
  cases hi with
  | none => cases h; rfl
  | some h' => cases h; rfl
mutual
def Pt.d : Pt → PyData
  | .set cs => .tuple [.str (kS "set"), .str (S cs)]
  | .row ps => .tuple (.str (kS "row") :: Pt.ds ps)
  | .any ps => .tuple (.str (kS "any") :: Pt.ds ps)
  | .all ps => .tuple (.str (kS "all") :: Pt.ds ps)
  | .no p => .tuple [.str (kS "not"), Pt.d p]
  | .again p lo hi => .tuple [.str (kS "again"), Pt.d p, .int (lo : Nat), hiD hi]
def Pt.ds : List Pt → List PyData
  | [] => []
  | p :: ps => Pt.d p :: Pt.ds ps
end
theorem Pt.ds_eq : ∀ ps : List Pt, Pt.ds ps = ps.map Pt.d
  | [] => rfl
  | p :: ps => by rw [Pt.ds, List.map_cons, Pt.ds_eq ps]
mutual
def Pt.wd : Pt → Nat
  | .set _ => 1
  | .row ps => Pt.wds ps
  | .any ps => Pt.wds ps
  | .all ps => Pt.wds ps
  | .no p => Pt.wd p
  | .again p lo hi => match hi with | none => Pt.wd p * (lo + 1) | some h => Pt.wd p * h
def Pt.wds : List Pt → Nat
  | [] => 0
  | p :: ps => Pt.wd p + Pt.wds ps
end
theorem Pt.wds_eq : ∀ ps : List Pt, Pt.wds ps = (ps.map Pt.wd).sum
  | [] => rfl
  | p :: ps => by rw [Pt.wds, List.map_cons, List.sum_cons, Pt.wds_eq ps]
/-- a plain pattern of a depth of at most n, over al -/
def Pt.Pl (al : List Nat) : Nat → Pt → Prop
  | _, .set cs => ∀ c ∈ cs, c ∈ al
  | n + 1, .row ps => ps.length ≤ 60 ∧ ∀ p ∈ ps, Pt.Pl al n p
  | n + 1, .any ps => ps.length ≤ 60 ∧ ∀ p ∈ ps, Pt.Pl al n p
  | n + 1, .again p lo hi => Pt.Pl al n p ∧ lo ≤ 60 ∧ ∀ h, hi = some h → lo ≤ h ∧ h ≤ 60
  | _, _ => False
theorem Tp.tupE {H : Hp} {v : V} {ds : List PyData} (h : Tp H v (.tuple ds)) : ∃ a xs, v = .ref a ∧ H a = some (.tup xs) ∧ TpAll H xs ds := by
  cases h with
  | tup e t => exact ⟨_, _, rfl, e, t⟩
theorem TpAll.consE {H : Hp} {xs : List V} {d : PyData} {ds : List PyData} (h : TpAll H xs (d :: ds)) : ∃ x ys, xs = x :: ys ∧ Tp H x d ∧ TpAll H ys ds := by
  cases h with
  | cons a t => exact ⟨_, _, rfl, a, t⟩
theorem TpAll.nilE {H : Hp} {xs : List V} (h : TpAll H xs []) : xs = [] := by cases h; rfl
theorem Tp.strE {H : Hp} {v : V} {x : Str} (h : Tp H v (.str x)) : v = .str x := by cases h; rfl
theorem Tp.intE {H : Hp} {v : V} {x : Int} (h : Tp H v (.int x)) : v = .int x := by cases h; rfl
theorem Tp.nonE {H : Hp} {v : V} (h : Tp H v .none) : v = .non := by cases h; rfl
/-- what a call of _piece leaves -/
structure PR (C m d l : Addr) (al f : List Nat) (r : Nat → Nat) (H : Hp) (wd : Nat) (A : Lg) (t : Addr) (H' : Hp) : Prop where
  ex : ∃ (f' : List Nat) (r' : Nat → Nat) (x : Pc), MS C m d l al f' r' H' ∧ KM d l H H' ∧ H t = none ∧ H' t = some (.tup [.bl x.1, vn x.2.1, vn x.2.2]) ∧
    Grow f f' r r' ∧ Mach f' r' ∧ POk f' f.length f'.length x.2.1 x.2.2 ∧ (∀ w, PL f' r' x.1 x.2.1 x.2.2 w ↔ A w) ∧ f'.length ≤ f.length + wd
/-- what calls of _piece leave in the list at D, one for each of As -/
structure PRs (C m d l : Addr) (al f : List Nat) (r : Nat → Nat) (H : Hp) (wd : Nat) (As : List Lg) (D : Addr) (f' : List Nat) (r' : Nat → Nat) (xs : List V) (ps : List Pc) (H' : Hp) : Prop where
  ms : MS C m d l al f' r' H'
  km : KM d l H H'
  D : H' D = some (.lst xs)
  t : TpAll H' xs (ps.map dPc)
  g : Grow f f' r r'
  M : Mach f' r'
  p : Pcs f' r' f.length ps f'.length As
  len : f'.length ≤ f.length + wd
section
variable {C m d l D : Addr} {al f f' : List Nat} {r r' : Nat → Nat} {H H' H2 : Hp} {wd wd2 : Nat} {As : List Lg} {A : Lg} {xs : List V} {ps : List Pc} {t : Addr}
theorem PRs.start (M : MS C m d l al f r H) (Mc : Mach f r) (hD : H D = none) : PRs C m d l al f r H 0 [] D f r [] [] (upd H D (.lst [])) :=
  ⟨M.lay hD, KM.refl.lay hD, upd_same, .nil, .refl, Mc, .nil, Nat.le_refl _⟩
theorem PRs.xs_len (h : PRs C m d l al f r H wd As D f' r' xs ps H') : xs.length = As.length := by
  rw [h.t.length, List.length_map, h.p.length]
theorem PRs.step (hD : H D = none) (h : PRs C m d l al f r H wd As D f' r' xs ps H') (M : MS C m d l al f r H) (q : PR C m d l al f' r' H' wd2 A t H2) :
    H2 D = some (.lst xs) ∧ ∃ f2 r2 ps2, PRs C m d l al f r H (wd + wd2) (As ++ [A]) D f2 r2 (xs ++ [.ref t]) ps2 (upd H2 D (.lst (xs ++ [.ref t]))) := by
  obtain ⟨f2, r2, x, M2, k2, ht, et, g2, Mc2, p2, q2, l2⟩ := q.ex
  have nD := M.free hD
  have eD : H2 D = some (.lst xs) := k2 D _ nD.1 nD.2.1 h.D
  have tDs : TS H2 (upd H2 D (.lst (xs ++ [.ref t]))) := TS.set eD
  have t2 : TS H' H2 := h.ms.ts k2
  refine ⟨eD, f2, r2, ps ++ [x], ?_, (h.km.trans k2).layD hD, upd_same, ?_, h.g.trans g2, Mc2, ?_, by have := h.len; omega⟩
  · obtain ⟨dx, e⟩ := M2.m
    exact ⟨⟨dx, by rw [upd_ne nD.2.2.symm]; exact e⟩, by rw [upd_ne nD.1.symm]; exact M2.d, by rw [upd_ne nD.2.1.symm]; exact M2.l⟩
  · rw [List.map_append]
    refine ((h.t.ts t2).ts tDs).app (.cons ((pc_mk et).ts tDs) .nil)
  · exact (h.p.agr (g2.agr (Nat.le_refl _))).snoc p2 q2
end

end Cs
namespace Cs
open PySem L2
open PyProof.Rows (envOfC)
def sp_piece (C : Addr) (n : Nat) : Sp := fun vs H Q _ => ∃ (m d l : Addr) (al f : List Nat) (r : Nat → Nat) (v : V) (p : Pt), vs = [.ref m, v] ∧ MS C m d l al f r H ∧ Mach f r ∧ al.length ≤ 100 ∧ p.Pl al n ∧ Tp H v p.d ∧ f.length + p.wd ≤ 800 ∧
  ∀ t H', PR C m d l al f r H p.wd p.L t H' → Q (.ref t) H'
theorem use_piece {C m d l : Addr} {al f : List Nat} {r : Nat → Nat} {v : V} {p : Pt} {n : Nat} {H : Hp} {Q : VK} {E : XK} (M : MS C m d l al f r H) (Mc : Mach f r) (hL : al.length ≤ 100) (hp : p.Pl al n) (hv : Tp H v p.d) (hw : f.length + p.wd ≤ 800)
    (k : ∀ t H', PR C m d l al f r H p.wd p.L t H' → Q (.ref t) H') : sp_piece C n [.ref m, v] H Q E := ⟨m, d, l, al, f, r, v, p, rfl, M, Mc, hL, hp, hv, hw, k⟩
def sp_loop (C : Addr) (n : Nat) : Sp := fun vs H Q _ => ∃ (m d l : Addr) (al f : List Nat) (r : Nat → Nat) (v : V) (p : Pt), vs = [.ref m, v] ∧ MS C m d l al f r H ∧ Mach f r ∧ al.length ≤ 100 ∧ p.Pl al n ∧ Tp H v p.d ∧ f.length + p.wd ≤ 800 ∧
  ∀ t H', PR C m d l al f r H p.wd (fun w => ∃ j, Pw p.L j w) t H' → Q (.ref t) H'
theorem use_loop {C m d l : Addr} {al f : List Nat} {r : Nat → Nat} {v : V} {p : Pt} {n : Nat} {H : Hp} {Q : VK} {E : XK} (M : MS C m d l al f r H) (Mc : Mach f r) (hL : al.length ≤ 100) (hp : p.Pl al n) (hv : Tp H v p.d) (hw : f.length + p.wd ≤ 800)
    (k : ∀ t H', PR C m d l al f r H p.wd (fun w => ∃ j, Pw p.L j w) t H' → Q (.ref t) H') : sp_loop C n [.ref m, v] H Q E := ⟨m, d, l, al, f, r, v, p, rfl, M, Mc, hL, hp, hv, hw, k⟩
section
variable {P : Program} {w : World} {K : PySem.W.Frag} {mg : Str → Option Value} {base : Heap}
theorem ok_loop {C : Addr} {n k : Nat} (T : MTxt K mg C) (G__link : Mtd P w K mg base 1 C "_link" ["self", "before", "after"] (sp_link C)) (G__piece : Mtd P w K mg base (k + 1) C "_piece" ["self", "pattern"] (sp_piece C n)) (F : AtM K C "_loop" "Machine._loop" s_Machine__loop ["self", "part"]) : Mtd P w K mg base (k + 2) C "_loop" ["self", "part"] (sp_loop C n) := by
  refine F.ok (k := k + 1) sc_Machine__loop (fun vs H Q E h => ?_) (fun f cdv A outer s H vs Q E hr h => ?_)
  · obtain ⟨m, d, l, al, f, r, v, p, rfl, _⟩ := h
    rfl
  · obtain ⟨m, d, l, al, f, r, v, p, rfl, M, Mc, hL, hp, hv, hw, kq⟩ := h
    refine ⟨_, (pss_cons (ps_asg (pe_md T.cl G__piece (hr.mono (by first | decide | omega)) (pv 0) (pa_cons (pv 1) pa_nil)) (pg_tupK (n := 3) (K := K) (by rfl) (by rfl) (pgs_cons (pg_name (i := 2) sc_Machine__loop.nd rfl (Or.inl rfl)) (pgs_cons (pg_name (i := 3) sc_Machine__loop.nd rfl (Or.inl rfl)) (pgs_cons (pg_name (i := 4) sc_Machine__loop.nd rfl (Or.inl rfl)) pgs_nil)))))
    (pss_cons (ps_expr (pe_md T.cl G__link (hr.mono (by first | decide | omega)) (pv 0) (pa_cons (pv 4) (pa_cons (pv 3) pa_nil))))
    (pss_one (ps_ret (pe_tup (pa_cons pe_bl (pa_cons (pv 3) (pa_cons (pv 4) pa_nil)))))))), ?_⟩
    walk_at "go"
    refine M.me ?_
    walk_at "go"
    refine use_piece M Mc hL hp hv hw fun t H1 q => ?_
    obtain ⟨f1, r1, ⟨e, F, L⟩, M1, k1, ht, et, g1, Mc1, p1, q1, l1⟩ := q.ex
    walk_at "go"
    refine rd_gtup (SqT.of et) rfl ?_
    walk_at "go"
    refine M1.me ?_
    walk_at "go"
    refine use_link M1 (by omega) fun H2 M2 k2 => ?_
    walk_at "go"
    refine ⟨by show 3 ≤ sizeLine; decide, fun p' hp' => ?_⟩
    walk_at "go"
    obtain ⟨p2, q2⟩ := loop_step p1 (Nat.le_refl _) q1
    have one := Mc.one
    refine kq _ _ ⟨linkF f1 L F, r1, (true, F, L), M2.lay hp', (k1.trans k2).lay' hp', (k1.trans k2).free M2 hp', upd_same, Grow.link (fun j hj => (p1.L j hj).1) (by have := g1.len; omega) rfl g1, Mc1.link (fun j hj => p1.F j hj) (by omega) (Nat.le_refl _), ?_, q2, ?_⟩
    · rw [linkF_len]; exact p2
    · rw [linkF_len]; exact l1
end

end Cs
namespace Cs
open PySem L2
open PyProof.Rows (envOfC)
def sp_copies (C : Addr) (n : Nat) : Sp := fun vs H Q _ => ∃ (m d l : Addr) (al f : List Nat) (r : Nat → Nat) (v u : V) (p : Pt) (lo : Nat) (hi : Option Nat), vs = [.ref m, v, vn lo, u] ∧ MS C m d l al f r H ∧ Mach f r ∧ al.length ≤ 100 ∧ p.Pl al n ∧ Tp H v p.d ∧ f.length + (Pt.again p lo hi).wd ≤ 800 ∧ lo ≤ 60 ∧ (∀ h, hi = some h → lo ≤ h ∧ h ≤ 60) ∧ u = hiV hi ∧
  ∀ (q : Addr) (H' : Hp) (As : List Lg) (f' : List Nat) (r' : Nat → Nat) (xs : List V) (ps : List Pc), H q = none → (∀ w, RowL As w ↔ (Pt.again p lo hi).L w) → PRs C m d l al f r H (Pt.again p lo hi).wd As q f' r' xs ps H' → Q (.ref q) H'
section
variable {P : Program} {w : World} {K : PySem.W.Frag} {mg : Str → Option Value} {base : Heap}
theorem ok_copies (B : Blt mg) {C : Addr} {n k : Nat} (T : MTxt K mg C) (G__piece : Mtd P w K mg base (k + 1) C "_piece" ["self", "pattern"] (sp_piece C n)) (G__loop : Mtd P w K mg base (k + 2) C "_loop" ["self", "part"] (sp_loop C n))
    (F : AtM K C "_copies" "Machine._copies" s_Machine__copies ["self", "part", "low", "high"]) : Mtd P w K mg base (k + 3) C "_copies" ["self", "part", "low", "high"] (sp_copies C n) := by
  refine F.ok (k := k + 2) sc_Machine__copies (fun vs H Q E h => ?_) (fun f cdv A outer s H vs Q E hr h => ?_)
  · obtain ⟨m, d, l, al, f, r, v, u, p, lo, hi, rfl, _⟩ := h
    rfl
  · obtain ⟨m, d, l, al, f, r, v, u, p, lo, hi, rfl, M, Mc, hL, hp, hv, hw, hlo, hhi, hu, kq⟩ := h
    refine ⟨_, (pss_cons (ps_setLc (i := 4) (own := [("_", 6)]) rfl sc_Machine__copies.nd rfl rfl (sw_true rfl rfl rfl (by decide +kernel)) (pi_range1 (by rfl) B.range (pa_cons (pv 2) pa_nil)) (blkOk_by (N := ["self", "part", "low", "high", "needed", "spare", "_", "first", "last"]) (sc := defScope s_Machine__copies) (by decide +kernel)) (fun _ _ _ _ _ => (pg_name (i := 6) sc_Machine__copies.nd rfl (Or.inl rfl))) (fun _ _ _ _ _ => pts_nil) (fun _ _ _ _ _ => (pe_md T.cl G__piece (hr.mono (by first | decide | omega)) (pv 0) (pa_cons (pv 1) pa_nil))))
    (pss_cons (ps_if (pt_cmpR op_isN (pv 3) pe_non (nomark _))
    (pss_one (ps_ret (pe_op op_cat (pv 4) (pe_lst (pa_cons (pe_md T.cl G__loop (hr.mono (by first | decide | omega)) (pv 0) (pa_cons (pv 1) pa_nil)) pa_nil)))))
    pss_nil)
    (pss_cons (ps_setLc (i := 5) (own := [("_", 6)]) rfl sc_Machine__copies.nd rfl rfl (sw_true rfl rfl rfl (by decide +kernel)) (pi_range1 (by rfl) B.range (pa_cons (pe_op op_sub (pv 3) (pv 2)) pa_nil)) (blkOk_by (N := ["self", "part", "low", "high", "needed", "spare", "_", "first", "last"]) (sc := defScope s_Machine__copies) (by decide +kernel)) (fun _ _ _ _ _ => (pg_name (i := 6) sc_Machine__copies.nd rfl (Or.inl rfl))) (fun _ _ _ _ _ => pts_nil) (fun _ _ _ _ _ => (pe_md T.cl G__piece (hr.mono (by first | decide | omega)) (pv 0) (pa_cons (pv 1) pa_nil))))
    (pss_one (ps_ret (pe_op op_cat (pv 4) (pe_lc (own := [("_", 6), ("first", 7), ("last", 8)]) rfl sc_Machine__copies.nd (pi_listK (K := K) (by rfl) (pv 5)) (blkOk_by (N := ["self", "part", "low", "high", "needed", "spare", "_", "first", "last"]) (sc := defScope s_Machine__copies) (by decide +kernel)) (fun _ _ _ _ _ => (pg_tupK (n := 3) (K := K) (by rfl) (by rfl) (pgs_cons (pg_name (i := 6) sc_Machine__copies.nd rfl (Or.inl rfl)) (pgs_cons (pg_name (i := 7) sc_Machine__copies.nd rfl (Or.inl rfl)) (pgs_cons (pg_name (i := 8) sc_Machine__copies.nd rfl (Or.inl rfl)) pgs_nil))))) (fun _ _ _ _ _ => pts_nil) (fun _ _ _ _ _ => (pe_tup (pa_cons pe_bl (pa_cons (pv 7) (pa_cons (pv 8) pa_nil)))))))))))), ?_⟩
    walk_at "go"
    refine rd_rng1j (by omega) (by omega) ?_
    rw [Int.toNat_natCast]
    intro D hD
    have wlo : lo * p.wd ≤ (Pt.again p lo hi).wd := by
      cases hi with
      | none => rw [Pt.wd, Nat.mul_comm]; exact Nat.mul_le_mul_left _ (by omega)
      | some h => rw [Pt.wd, Nat.mul_comm]; exact Nat.mul_le_mul_left _ (hhi h rfl).1
    refine lc_range (lo := 0) (n := lo) (fun i H' => ∃ f' r' xs ps, PRs C m d l al f r H (i * p.wd) (List.replicate i p.L) D f' r' xs ps H') ?_ ?_ ?_
    · exact ⟨f, r, [], [], by rw [Nat.zero_mul]; exact PRs.start M Mc hD⟩
    · rintro i H1 hi1 ⟨f1, r1, xs, ps, h1⟩
      walk_at "go"
      refine ⟨rfl, ?_⟩
      walk_at "go"
      refine h1.ms.me ?_
      walk_at "go"
      have hmul : (i + 1) * p.wd ≤ lo * p.wd := Nat.mul_le_mul_right _ hi1
      rw [Nat.succ_mul] at hmul
      refine use_piece h1.ms h1.M hL hp (hv.ts (M.ts h1.km)) (by have := h1.len; omega) fun t H2 q => ?_
      obtain ⟨eD, f2, r2, ps2, h2⟩ := h1.step hD M q
      refine ⟨xs, eD, by rw [h1.xs_len, List.length_replicate, PySem.sizeLine_eq]; omega, f2, r2, xs ++ [.ref t], ps2, ?_⟩
      rw [List.replicate_succ', Nat.succ_mul]
      exact h2
    · rintro H1 ⟨f1, r1, xs, ps, h1⟩
      walk_at "go"
      have nD := M.free hD
      cases hi with
      | none =>
        replace hu : u = .non := hu
        subst hu
        rw [Pt.wd] at hw
        refine ⟨rfl, ?_⟩
        walk_at "go"
        refine ite2 (fun _ => ?_) (fun z => absurd (decide_eq_true rfl) z)
        walk_at "go"
        refine h1.ms.me ?_
        walk_at "go"
        have e1 : lo * p.wd + p.wd = p.wd * (lo + 1) := by rw [Nat.mul_succ, Nat.mul_comm]
        refine use_loop h1.ms h1.M hL hp (hv.ts (M.ts h1.km)) (by have := h1.len; omega) fun t H2 q => ?_
        walk_at "go"
        obtain ⟨eD, f2, r2, ps2, h2⟩ := h1.step hD M q
        obtain ⟨f3, r3, x, M3, k3, ht, et, g3, Mc3, p3, q3, l3⟩ := q.ex
        refine ⟨by show 1 ≤ sizeLine; decide, fun L1 hL1 => ?_⟩
        walk_at "go"
        have hxs : xs.length = lo := by rw [h1.xs_len, List.length_replicate]
        have nDL : D ≠ L1 := fun z => by rw [← z, eD] at hL1; cases hL1
        refine ⟨D, L1, xs, [.ref t], rfl, rfl, by rw [upd_ne nDL]; exact eD, upd_same, by rw [hxs, PySem.sizeLine_eq]; show lo + 1 ≤ _; omega, fun q' hq' => ?_⟩
        walk_at "go"
        have hq2 : H2 q' = none := by
          by_cases z : q' = L1
          · rw [z]; exact hL1
          · rw [upd_ne z] at hq'; exact hq'
        have fr := (h1.km.trans k3).free M3 hq2
        have ts3 : TS H1 (upd (upd H2 L1 (.lst [.ref t])) q' (.lst (xs ++ [.ref t]))) := ((h1.ms.ts k3).trans (TS.lay hL1)).trans (TS.lay hq')
        refine kq q' _ (List.replicate lo p.L ++ [fun w => ∃ j, Pw p.L j w]) f3 r3 (xs ++ [.ref t]) (ps ++ [x]) fr (fun w => again_none w) ⟨(M3.lay hL1).lay hq', (((h1.km.trans k3).lay' hL1).lay' hq'), upd_same, ?_, h1.g.trans g3, Mc3, (h1.p.agr (g3.agr (Nat.le_refl _))).snoc p3 q3, by rw [Pt.wd]; have := h1.len; omega⟩
        rw [List.map_append]
        exact (h1.t.ts ts3).app (.cons ((pc_mk et).ts ((TS.lay hL1).trans (TS.lay hq'))) .nil)
      | some h =>
        replace hu : u = vn h := hu
        subst hu
        obtain ⟨hh1, hh2⟩ := hhi h rfl
        rw [Pt.wd] at hw
        refine ⟨rfl, ?_⟩
        walk_at "go"
        refine ite2 (fun z => nomatch of_decide_eq_true z) (fun _ => ?_)
        walk_at "go"
        refine rd_rng1j (by omega) (by omega) ?_
        rw [show ((h : Int) - (lo : Int)).toNat = h - lo from by omega]
        intro D2 hD2
        have nD2 := h1.ms.free hD2
        have nDD : D ≠ D2 := fun z => by rw [← z, h1.D] at hD2; cases hD2
        have e1 : lo * p.wd + (h - lo) * p.wd = p.wd * h := by rw [← Nat.add_mul, Nat.mul_comm]; congr 1; omega
        refine lc_range (lo := 0) (n := h - lo) (fun i H' => ∃ f' r' ys qs, PRs C m d l al f1 r1 H1 (i * p.wd) (List.replicate i p.L) D2 f' r' ys qs H') ?_ ?_ ?_
        · exact ⟨f1, r1, [], [], by rw [Nat.zero_mul]; exact PRs.start h1.ms h1.M hD2⟩
        · rintro i H2 hi1 ⟨f2, r2, ys, qs, h2⟩
          walk_at "go"
          refine ⟨rfl, ?_⟩
          walk_at "go"
          refine h2.ms.me ?_
          walk_at "go"
          have hmul : (i + 1) * p.wd ≤ (h - lo) * p.wd := Nat.mul_le_mul_right _ hi1
          rw [Nat.succ_mul] at hmul
          refine use_piece h2.ms h2.M hL hp (hv.ts (M.ts (h1.km.trans h2.km))) (by have := h1.len; have := h2.len; omega) fun t H3 q => ?_
          obtain ⟨eD, f3, r3, ps3, h3⟩ := h2.step hD2 h1.ms q
          refine ⟨ys, eD, by rw [h2.xs_len, List.length_replicate, PySem.sizeLine_eq]; omega, f3, r3, ys ++ [.ref t], ps3, ?_⟩
          rw [List.replicate_succ', Nat.succ_mul]
          exact h3
        · rintro H2 ⟨f2, r2, ys, qs, h2⟩
          walk_at "go"
          have eD : H2 D = some (.lst xs) := h2.km D _ nD.1 nD.2.1 h1.D
          refine ⟨D2, rfl, ⟨_, SqL.of h2.D⟩, ?_⟩
          intro D3 hD3
          have nD3 := h2.ms.free hD3
          have n32 : D2 ≠ D3 := fun z => by rw [← z, h2.D] at hD3; cases hD3
          have n31 : D ≠ D3 := fun z => by rw [← z, eD] at hD3; cases hD3
          have hys : ys.length = h - lo := by rw [h2.xs_len, List.length_replicate]
          have hqs : qs.length = ys.length := by rw [h2.t.length, List.length_map]
          refine lc_list (K := K) (a := D2) (xs := ys) (fun i H' => ∃ zs, Same H2 H' ∧ H' D3 = some (.lst zs) ∧ TpAll H' zs (((qs.take i).map fun x => (true, x.2.1, x.2.2)).map dPc) ∧ H2 D3 = none) ?_ ?_ ?_ ?_
          · exact ⟨[], Same.lay hD3, upd_same, .nil, hD3⟩
          · rintro i H' _ ⟨zs, s, _⟩
            exact SqL.of (s _ _ h2.D)
          · rintro i y H' hi2 ⟨zs, s, eD3, tz, n3⟩
            obtain ⟨x, hx, tx⟩ := pcs_get (h2.t.ts (TS.same s)) hi2
            obtain ⟨t, rfl, et⟩ := pc_at tx
            refine rd_gtup (SqT.of et) rfl ?_
            walk_at "go"
            refine ⟨rfl, ?_⟩
            walk_at "go"
            refine ⟨by show 3 ≤ sizeLine; decide, fun t' ht' => ?_⟩
            have n3' : D3 ≠ t' := fun z => by rw [← z, eD3] at ht'; cases ht'
            have hz : zs.length = i := by
              rw [tz.length, List.length_map, List.length_map, List.length_take, hqs]
              have := (List.getElem?_eq_some_iff.mp hi2).1
              omega
            refine ⟨zs, by rw [upd_ne n3']; exact eD3, by rw [hz, PySem.sizeLine_eq]; have := (List.getElem?_eq_some_iff.mp hi2).1; omega, zs ++ [.ref t'], ?_, upd_same, ?_, n3⟩
            · exact Same.lay2 (Same.lay2 s (L2.Same.free s ht')) n3
            · rw [take_snoc hx, List.map_append, List.map_append]
              have tA : TS H' (upd H' t' (.tup [.bl true, vn x.2.1, vn x.2.2])) := TS.lay ht'
              have tB : TS (upd H' t' (.tup [.bl true, vn x.2.1, vn x.2.2])) (upd (upd H' t' (.tup [.bl true, vn x.2.1, vn x.2.2])) D3 (.lst (zs ++ [.ref t']))) := TS.set (by rw [upd_ne n3']; exact eD3)
              exact (tz.ts (tA.trans tB)).app (.cons ((pc_mk (x := (true, x.2.1, x.2.2)) upd_same).ts tB) .nil)
          · rintro H3 ⟨zs, s, eD3, tz, n3⟩
            rw [← hqs, List.take_length] at tz
            walk_at "go"
            have hzs : zs.length = h - lo := by rw [tz.length, List.length_map, List.length_map, hqs, hys]
            have hxs : xs.length = lo := by rw [h1.xs_len, List.length_replicate]
            refine ⟨D, D3, xs, zs, rfl, rfl, s _ _ eD, eD3, by rw [hxs, hzs, PySem.sizeLine_eq]; omega, fun q hq => ?_⟩
            walk_at "go"
            have k3 : KM d l H2 (upd H3 q (.lst (xs ++ zs))) := (KM.of s).lay' hq
            have M3 : MS C m d l al f2 r2 H3 := by
              obtain ⟨dx, e⟩ := h2.ms.m
              exact ⟨⟨dx, s _ _ e⟩, s _ _ h2.ms.d, s _ _ h2.ms.l⟩
            have fr : H q = none := ((h1.km.trans h2.km).trans (KM.of s)).free M3 hq
            refine kq q _ (List.replicate lo p.L ++ (List.replicate (h - lo) p.L).map fun A w => w = [] ∨ A w) f2 r2 (xs ++ zs) (ps ++ qs.map fun x => (true, x.2.1, x.2.2)) fr (fun w => ?_) ⟨M3.lay hq, (h1.km.trans h2.km).trans k3, upd_same, ?_, h1.g.trans h2.g, h2.M, (h1.p.agr (h2.g.agr (Nat.le_refl _))).app h2.p.opt, by rw [Pt.wd]; have := h1.len; have := h2.len; omega⟩
            · rw [List.map_replicate]
              exact again_some hh1 w
            · rw [List.map_append]
              have t1 : TS H1 (upd H3 q (.lst (xs ++ zs))) := (h1.ms.ts h2.km).trans ((TS.same s).trans (TS.lay hq))
              exact (h1.t.ts t1).app (tz.ts (TS.lay hq))
end

end Cs
namespace Cs
open PySem L2
open PyProof.Rows (envOfC)
/-! tuples by their parts -/
theorem Tp.tupI {H : Hp} {v : V} {ds : List PyData} (h : Tp H v (.tuple ds)) : ∃ p xs, v = .ref p ∧ H p = some (.tup xs) ∧ TpAll H xs ds := by
  cases h with
  | tup e h => exact ⟨_, _, rfl, e, h⟩
theorem TpAll.rep {H : Hp} {v : V} {d : PyData} (h : Tp H v d) : ∀ n : Nat, TpAll H (List.replicate n v) (List.replicate n d)
  | 0 => .nil
  | n + 1 => .cons h (TpAll.rep h n)
theorem flat_rep {α : Type} (v : α) : ∀ n : Nat, (List.replicate n [v]).flatten = List.replicate n v
  | 0 => rfl
  | n + 1 => by
    rw [List.replicate_succ, List.flatten_cons, flat_rep v n, List.replicate_succ]; rfl
theorem pick3 {y : V} (h : y ∈ ([V.str (kS "row"), .str (kS "any"), .str (kS "all")] : List V)) : ∃ u : Str, y = .str u ∧ (u = kS "row" ∨ u = kS "any" ∨ u = kS "all") := by
  simp only [List.mem_cons, List.not_mem_nil, or_false] at h
  rcases h with rfl | rfl | rfl
  · exact ⟨_, rfl, .inl rfl⟩
  · exact ⟨_, rfl, .inr (.inl rfl)⟩
  · exact ⟨_, rfl, .inr (.inr rfl)⟩
theorem if_tt {b : Bool} : (if b = true then true else true) = true := by cases b <;> rfl
theorem cut1 {x : V} {xs : List V} : cutV (x :: xs) (some 1) none = xs := by
  unfold cutV
  have e : HT.sIx (x :: xs).length 0 (some 1) = 1 := by
    show HT.sIx (x :: xs).length 0 (some ((1 : Nat) : Int)) = 1
    rw [HT.sIx_nat, List.length_cons]; omega
  rw [e, HT.sIx_none]
  show ((x :: xs).drop 1).take _ = xs
  rw [List.drop_one, List.tail_cons, List.take_of_length_le]
  rw [List.length_cons]; omega

end Cs
namespace Cs
open PySem L2
open PyProof.Rows (envOfC)
def spN : Sp := fun _ _ _ _ => False
theorem AtM.none {P : Program} {w : World} {K : PySem.W.Frag} {mg : Str → Option Value} {base : Heap} {C : Addr} {m q : Str} {st : Stmt} {N ps : List Str} (k : Nat) (F : AtM K C m q st ps) (S : FnScope N ps (defScope st)) : Mtd P w K mg base (k + 1) C m ps spN :=
  F.ok S (fun _ _ _ _ h => h.elim) (fun _ _ _ _ _ _ _ _ _ _ h => h.elim)
def spP (C : Addr) : Nat → Sp
  | 0 => spN
  | n + 1 => sp_piece C n
def spC (C : Addr) : Nat → Sp
  | 0 => spN
  | n + 1 => sp_copies C n
theorem wne {a b : String} (h : kS a ≠ kS b) : ¬ (decide (V.str (kS a) = V.str (kS b)) = true) := fun z => h (V.str.inj (of_decide_eq_true z))
theorem cut1_no {x : V} {xs : List V} {hi : Option Int} : ¬ (HT.sIx (x :: xs).length 0 (some 1) = 0 ∧ HT.sIx (x :: xs).length (x :: xs).length hi = (x :: xs).length) := fun z => by
  have e : HT.sIx (x :: xs).length 0 (some ((1 : Nat) : Int)) = 1 := by rw [HT.sIx_nat, List.length_cons]; omega
  have := z.1
  rw [show (some (1 : Int)) = some ((1 : Nat) : Int) from rfl, e] at this
  omega
theorem Pl_parts {al : List Nat} {n : Nat} {ps : List Pt} (h : (∃ n', n = n' + 1 ∧ ps.length ≤ 60 ∧ ∀ p ∈ ps, Pt.Pl al n' p)) : ps.length ≤ 60 ∧ ∀ p ∈ ps, ∃ n', n = n' + 1 ∧ Pt.Pl al n' p := by
  obtain ⟨n', rfl, h1, h2⟩ := h
  exact ⟨h1, fun p hp => ⟨n', rfl, h2 p hp⟩⟩
section
variable {P : Program} {w : World} {K : PySem.W.Frag} {mg : Str → Option Value} {base : Heap}
theorem ok_piece {C : Addr} {n k : Nat} (T : MTxt K mg C) (G__place : Mtd P w K mg base 1 C "_place" ["self", "characters"] (sp_place C)) (G__choice : Cal P w K mg base 1 "_choice" ["pieces"] (sp_choice K)) (G__chain : Mtd P w K mg base 2 C "_chain" ["self", "pieces"] (sp_chain K C))
    (G__piece : Mtd P w K mg base (k + 1) C "_piece" ["self", "pattern"] (spP C n)) (G__copies : Mtd P w K mg base (k + 3) C "_copies" ["self", "part", "low", "high"] (spC C n))
    (F : AtM K C "_piece" "Machine._piece" s_Machine__piece ["self", "pattern"]) : Mtd P w K mg base (k + 4) C "_piece" ["self", "pattern"] (sp_piece C n) := by
  refine F.ok (k := k + 3) sc_Machine__piece (fun vs H Q E h => ?_) (fun f cdv A outer s H vs Q E hr h => ?_)
  · obtain ⟨m, d, l, al, f, r, v, p, rfl, _⟩ := h
    rfl
  · obtain ⟨m, d, l, al, f, r, v, p, rfl, M, Mc, hL, hp, hv, hw, kq⟩ := h
    refine ⟨_, (pss_cons (ps_set (i := 2) sc_Machine__piece.nd rfl (Or.inl rfl) (pe_ix (ix_tupK (K := K) (by rfl)) (pv 1) pe_int (fun _ _ => rfl)))
    (pss_cons (ps_if (pt_cmpR op_eq (pv 2) pe_str (nomark _))
    (pss_one (ps_ret (pe_md T.cl G__place (hr.mono (by first | decide | omega)) (pv 0) (pa_cons (pe_ix (ix_tupK (K := K) (by rfl)) (pv 1) pe_int (fun _ _ => rfl)) pa_nil))))
    pss_nil)
    (pss_cons (ps_if (pt_cmpR op_eq (pv 2) pe_str (nomark _))
    (pss_one (ps_ret (pe_c G__choice (hr.mono (by first | decide | omega)) (pa_cons (pe_lc (own := [("part", 3)]) rfl sc_Machine__piece.nd (pi_tupK (K := K) (by rfl) (pe_slice (sl_tupAK (K := K) (by rfl)) (pv 1) (po_some pe_int) po_none)) (blkOk_by (N := ["self", "pattern", "word", "part"]) (sc := defScope s_Machine__piece) (by decide +kernel)) (fun _ _ _ _ _ => (pg_name (i := 3) sc_Machine__piece.nd rfl (Or.inl rfl))) (fun _ _ _ _ _ => pts_nil) (fun _ _ _ _ _ => (pe_md T.cl G__piece (hr.mono (by first | decide | omega)) (pv 0) (pa_cons (pv 3) pa_nil)))) pa_nil))))
    pss_nil)
    (pss_cons (ps_if (pt_cmpR op_eq (pv 2) pe_str (nomark _))
    (pss_one (ps_ret (pe_md T.cl G__chain (hr.mono (by first | decide | omega)) (pv 0) (pa_cons (pe_lc (own := [("part", 3)]) rfl sc_Machine__piece.nd (pi_tupK (K := K) (by rfl) (pe_slice (sl_tupAK (K := K) (by rfl)) (pv 1) (po_some pe_int) po_none)) (blkOk_by (N := ["self", "pattern", "word", "part"]) (sc := defScope s_Machine__piece) (by decide +kernel)) (fun _ _ _ _ _ => (pg_name (i := 3) sc_Machine__piece.nd rfl (Or.inl rfl))) (fun _ _ _ _ _ => pts_nil) (fun _ _ _ _ _ => (pe_md T.cl G__piece (hr.mono (by first | decide | omega)) (pv 0) (pa_cons (pv 3) pa_nil)))) pa_nil))))
    pss_nil)
    (pss_one (ps_ret (pe_md T.cl G__chain (hr.mono (by first | decide | omega)) (pv 0) (pa_cons (pe_md T.cl G__copies (hr.mono (by first | decide | omega)) (pv 0) (pa_cons (pe_ix (ix_tupK (K := K) (by rfl)) (pv 1) pe_int (fun _ _ => rfl)) (pa_cons (pe_ix (ix_tupK (K := K) (by rfl)) (pv 1) pe_int (fun _ _ => rfl)) (pa_cons (pe_ix (ix_tupK (K := K) (by rfl)) (pv 1) pe_int (fun _ _ => rfl)) pa_nil)))) pa_nil)))))))), ?_⟩
    walk_at "go"
    have one := Mc.one
    have comp : ∀ (ps : List Pt) (xs : List V), ps.length ≤ 60 → (∀ p ∈ ps, ∃ n', n = n' + 1 ∧ Pt.Pl al n' p) → TpAll H xs (ps.map Pt.d) → f.length + (ps.map Pt.wd).sum ≤ 800 →
        ∀ (H0 : Hp) (i : Nat) (q : Pt) (x : V) (D : Addr) (H1 : Hp) (f1 : List Nat) (r1 : Nat → Nat) (ys : List V) (qs : List Pc) (Q : VK) (E : XK), ps[i]? = some q → xs[i]? = some x → H0 D = none → MS C m d l al f r H0 → TS H H0 → PRs C m d l al f r H0 ((ps.take i).map Pt.wd).sum ((ps.take i).map Pt.L) D f1 r1 ys qs H1 →
        (∀ t H2, H2 D = some (.lst ys) → ys.length < sizeLine → (∃ f2 r2 qs2, PRs C m d l al f r H0 ((ps.take (i + 1)).map Pt.wd).sum ((ps.take (i + 1)).map Pt.L) D f2 r2 (ys ++ [.ref t]) qs2 (upd H2 D (.lst (ys ++ [.ref t])))) → Q (.ref t) H2) → spP C n [.ref m, x] H1 Q E := by
      intro ps xs hpl hps ht hsum H0 i q x D H1 f1 r1 ys qs Q E hq hx hD M0 t0 h1 kk
      obtain ⟨n', rfl, hq'⟩ := hps q (List.mem_of_getElem? hq)
      obtain ⟨dq, h3, h4⟩ := TpAll.get ht hx
      rw [List.getElem?_map, hq] at h3
      cases h3
      have hi : i < ps.length := (List.getElem?_eq_some_iff.mp hq).1
      have hs : ((ps.take (i + 1)).map Pt.wd).sum ≤ (ps.map Pt.wd).sum := by
        have e : ps.map Pt.wd = (ps.take (i + 1)).map Pt.wd ++ (ps.drop (i + 1)).map Pt.wd := by rw [← List.map_append, List.take_append_drop]
        rw [e, List.sum_append]; omega
      have e2 : ((ps.take (i + 1)).map Pt.wd).sum = ((ps.take i).map Pt.wd).sum + q.wd := by rw [take_snoc hq, List.map_append, List.sum_append]; simp
      refine use_piece (E := E) h1.ms h1.M hL hq' (h4.ts (t0.trans (M0.ts h1.km))) (by have := h1.len; omega) fun t H2 pr => ?_
      obtain ⟨eD, f2, r2, qs2, h2⟩ := h1.step hD M0 pr
      refine kk t H2 eD (by rw [h1.xs_len, List.length_map, List.length_take, PySem.sizeLine_eq]; omega) ⟨f2, r2, qs2, ?_⟩
      rw [take_snoc hq, List.map_append, List.map_append, List.sum_append]
      simpa using h2
    cases p with
    | set cs =>
      have hc : ∀ c ∈ cs, c ∈ al := by cases n <;> exact hp
      rw [Pt.wd] at hw
      rw [Pt.d] at hv
      obtain ⟨a, xs, rfl, ea, ht⟩ := hv.tupE
      obtain ⟨x0, xs, rfl, h0, ht⟩ := ht.consE
      obtain ⟨x1, xs, rfl, h1, ht⟩ := ht.consE
      rw [h0.strE, h1.strE, ht.nilE] at ea
      refine rd_ixt (SqT.of ea) (at_of (j := 0) rfl rfl) ?_
      walk_at "go"
      refine ite2 (fun _ => ?_) (fun z => absurd (decide_eq_true rfl) z)
      walk_at "go"
      refine M.me ?_
      walk_at "go"
      refine rd_ixt (SqT.of ea) (at_of (j := 1) rfl rfl) ?_
      walk_at "go"
      refine use_place M (by omega) hL hc fun t H' M' k' ht et => ?_
      walk_at "go"
      obtain ⟨g1, g2, g3, g4⟩ := set_piece (cs := cs) Mc
      refine kq t H' ⟨f ++ [0], _, (false, 2 ^ f.length, 2 ^ f.length), M', k', ht, et, g1, g2, by rw [List.length_append]; exact g3, g4, by rw [Pt.wd]; simp⟩
    | any ps =>
      have hps : ps.length ≤ 60 ∧ ∀ p ∈ ps, ∃ n', n = n' + 1 ∧ Pt.Pl al n' p := Pl_parts (by
        cases n with
        | zero => exact hp.elim
        | succ n => exact ⟨n, rfl, hp.1, hp.2⟩)
      rw [Pt.wd, Pt.wds_eq] at hw
      rw [Pt.d, Pt.ds_eq] at hv
      obtain ⟨a, xs, rfl, ea, ht⟩ := hv.tupE
      obtain ⟨x0, xs, rfl, h0, ht⟩ := ht.consE
      rw [h0.strE] at ea
      refine rd_ixt (SqT.of ea) (at_of (j := 0) rfl rfl) ?_
      walk_at "go"
      refine ite2 (fun z => absurd z (wne (by decide +kernel))) (fun _ => ?_)
      walk_at "go"
      refine ite2 (fun _ => ?_) (fun z => absurd (decide_eq_true rfl) z)
      walk_at "go"
      refine rd_sla (SqT.of ea) (fun z => absurd z cut1_no) (fun _ => ?_)
      rw [cut1]
      intro p0 hp0
      walk_at "go"
      refine ⟨p0, rfl, ⟨_, SqT.of upd_same⟩, ?_⟩
      intro D hD
      have n0 := M.free hp0
      have M0 := M.lay (o := .tup xs) hp0
      have nD := M0.free hD
      have nDp : D ≠ p0 := fun z => by rw [z, upd_same] at hD; cases hD
      have hxl : xs.length = ps.length := by rw [ht.length, List.length_map]
      refine lc_tup (K := K) (a := p0) (xs := xs) (fun i H' => ∃ f1 r1 ys qs, PRs C m d l al f r (upd H p0 (.tup xs)) ((ps.take i).map Pt.wd).sum ((ps.take i).map Pt.L) D f1 r1 ys qs H') ?_ ?_ ?_ ?_
      · exact ⟨f, r, [], [], PRs.start M0 Mc hD⟩
      · rintro i H' _ ⟨f1, r1, ys, qs, h1⟩
        exact SqT.of (h1.km p0 _ n0.1 n0.2.1 upd_same)
      · rintro i x H' hi ⟨f1, r1, ys, qs, h1⟩
        have hi' : i < ps.length := by rw [← hxl]; exact (List.getElem?_eq_some_iff.mp hi).1
        walk_at "go"
        refine ⟨rfl, ?_⟩
        walk_at "go"
        refine h1.ms.me ?_
        walk_at "go"
        refine comp ps xs hps.1 hps.2 ht hw (upd H p0 (.tup xs)) i _ x D H' f1 r1 ys qs _ _ (List.getElem?_eq_getElem hi') hi hD M0 (TS.lay hp0) h1 fun t H2 eD hl hx => ?_
        obtain ⟨f2, r2, qs2, h2⟩ := hx
        exact ⟨ys, eD, hl, f2, r2, ys ++ [.ref t], qs2, h2⟩
      · rintro H1 ⟨f1, r1, ys, qs, h1⟩
        rw [hxl, List.take_length] at h1
        walk_at "go"
        have fin : KM d l H H1 := (KM.refl.lay hp0).trans h1.km
        refine use_choice (SqL.of h1.D) h1.t fun t H2 sm ht et => ?_
        walk_at "go"
        obtain ⟨c1, c2⟩ := choF_ok h1.p
        have M2 : MS C m d l al f1 r1 H2 := by
          obtain ⟨dx, e⟩ := h1.ms.m
          exact ⟨⟨dx, sm _ _ e⟩, sm _ _ h1.ms.d, sm _ _ h1.ms.l⟩
        refine kq t H2 ⟨f1, r1, choF qs, M2, fin.trans (KM.of sm), fin.free h1.ms ht, et, h1.g, h1.M, c1, fun w => (c2 w).trans ?_, by rw [Pt.wd, Pt.wds_eq]; exact h1.len⟩
        rw [Pt.L, Pt.LAny_eq]
    | row ps =>
      have hps : ps.length ≤ 60 ∧ ∀ p ∈ ps, ∃ n', n = n' + 1 ∧ Pt.Pl al n' p := Pl_parts (by
        cases n with
        | zero => exact hp.elim
        | succ n => exact ⟨n, rfl, hp.1, hp.2⟩)
      rw [Pt.wd, Pt.wds_eq] at hw
      rw [Pt.d, Pt.ds_eq] at hv
      obtain ⟨a, xs, rfl, ea, ht⟩ := hv.tupE
      obtain ⟨x0, xs, rfl, h0, ht⟩ := ht.consE
      rw [h0.strE] at ea
      refine rd_ixt (SqT.of ea) (at_of (j := 0) rfl rfl) ?_
      walk_at "go"
      refine ite2 (fun z => absurd z (wne (by decide +kernel))) (fun _ => ?_)
      walk_at "go"
      refine ite2 (fun z => absurd z (wne (by decide +kernel))) (fun _ => ?_)
      walk_at "go"
      refine ite2 (fun _ => ?_) (fun z => absurd (decide_eq_true rfl) z)
      walk_at "go"
      refine M.me ?_
      walk_at "go"
      refine rd_sla (SqT.of ea) (fun z => absurd z cut1_no) (fun _ => ?_)
      rw [cut1]
      intro p0 hp0
      walk_at "go"
      refine ⟨p0, rfl, ⟨_, SqT.of upd_same⟩, ?_⟩
      intro D hD
      have n0 := M.free hp0
      have M0 := M.lay (o := .tup xs) hp0
      have nD := M0.free hD
      have nDp : D ≠ p0 := fun z => by rw [z, upd_same] at hD; cases hD
      have hxl : xs.length = ps.length := by rw [ht.length, List.length_map]
      refine lc_tup (K := K) (a := p0) (xs := xs) (fun i H' => ∃ f1 r1 ys qs, PRs C m d l al f r (upd H p0 (.tup xs)) ((ps.take i).map Pt.wd).sum ((ps.take i).map Pt.L) D f1 r1 ys qs H') ?_ ?_ ?_ ?_
      · exact ⟨f, r, [], [], PRs.start M0 Mc hD⟩
      · rintro i H' _ ⟨f1, r1, ys, qs, h1⟩
        exact SqT.of (h1.km p0 _ n0.1 n0.2.1 upd_same)
      · rintro i x H' hi ⟨f1, r1, ys, qs, h1⟩
        have hi' : i < ps.length := by rw [← hxl]; exact (List.getElem?_eq_some_iff.mp hi).1
        walk_at "go"
        refine ⟨rfl, ?_⟩
        walk_at "go"
        refine h1.ms.me ?_
        walk_at "go"
        refine comp ps xs hps.1 hps.2 ht hw (upd H p0 (.tup xs)) i _ x D H' f1 r1 ys qs _ _ (List.getElem?_eq_getElem hi') hi hD M0 (TS.lay hp0) h1 fun t H2 eD hl hx => ?_
        obtain ⟨f2, r2, qs2, h2⟩ := hx
        exact ⟨ys, eD, hl, f2, r2, ys ++ [.ref t], qs2, h2⟩
      · rintro H1 ⟨f1, r1, ys, qs, h1⟩
        rw [hxl, List.take_length] at h1
        walk_at "go"
        have fin : KM d l H H1 := (KM.refl.lay hp0).trans h1.km
        refine use_chain h1.ms (by have := h1.len; omega) h1.D nD.2.1 h1.t fun t H2 M2 k2 ht et => ?_
        walk_at "go"
        obtain ⟨c1, c2, c3, c4⟩ := chnF_ok one (Nat.le_refl _) h1.M h1.p
        refine kq t H2 ⟨_, r1, (chnF f1 qs).2, M2, fin.trans k2, fin.free h1.ms ht, et, c4 rfl h1.g, c3, by rw [chnF_len]; exact c1, fun w => (c2 w).trans ?_, by rw [chnF_len, Pt.wd, Pt.wds_eq]; exact h1.len⟩
        rw [Pt.L, Pt.LRow_eq]
    | again p lo hi =>
      obtain ⟨n', rfl, hpp, hlo, hhi⟩ : ∃ n', n = n' + 1 ∧ Pt.Pl al n' p ∧ lo ≤ 60 ∧ ∀ h, hi = some h → lo ≤ h ∧ h ≤ 60 := by
        cases n with
        | zero => exact hp.elim
        | succ n => exact ⟨n, rfl, hp.1, hp.2.1, hp.2.2⟩
      rw [Pt.d] at hv
      obtain ⟨a, xs, rfl, ea, ht⟩ := hv.tupE
      obtain ⟨x0, xs, rfl, h0, ht⟩ := ht.consE
      obtain ⟨x1, xs, rfl, h1, ht⟩ := ht.consE
      obtain ⟨x2, xs, rfl, h2, ht⟩ := ht.consE
      obtain ⟨x3, xs, rfl, h3, ht⟩ := ht.consE
      rw [h0.strE, h2.intE, ht.nilE] at ea
      have e3 : x3 = hiV hi := hi_val h3
      refine rd_ixt (SqT.of ea) (at_of (j := 0) rfl rfl) ?_
      walk_at "go"
      refine ite2 (fun z => absurd z (wne (by decide +kernel))) (fun _ => ?_)
      walk_at "go"
      refine ite2 (fun z => absurd z (wne (by decide +kernel))) (fun _ => ?_)
      walk_at "go"
      refine ite2 (fun z => absurd z (wne (by decide +kernel))) (fun _ => ?_)
      walk_at "go"
      refine M.me ?_
      walk_at "go"
      refine M.me ?_
      walk_at "go"
      refine rd_ixt (SqT.of ea) (at_of (j := 1) rfl rfl) ?_
      walk_at "go"
      refine rd_ixt (SqT.of ea) (at_of (j := 2) rfl rfl) ?_
      walk_at "go"
      refine rd_ixt (SqT.of ea) (at_of (j := 3) rfl rfl) ?_
      walk_at "go"
      refine ⟨m, d, l, al, f, r, x1, x3, p, lo, hi, rfl, M, Mc, hL, hpp, h1, hw, hlo, hhi, e3, fun q H1 As f1 r1 ys qs hq hAs hR => ?_⟩
      walk_at "go"
      have nq := M.free hq
      refine use_chain hR.ms (by have := hR.len; omega) hR.D nq.2.1 hR.t fun t H2 M2 k2 ht et => ?_
      walk_at "go"
      obtain ⟨c1, c2, c3, c4⟩ := chnF_ok one (Nat.le_refl _) hR.M hR.p
      exact kq t H2 ⟨_, r1, (chnF f1 qs).2, M2, hR.km.trans k2, hR.km.free hR.ms ht, et, c4 rfl hR.g, c3, by rw [chnF_len]; exact c1, fun w => (c2 w).trans (hAs w), by rw [chnF_len]; exact hR.len⟩
    | all ps => cases n <;> exact hp.elim
    | no p => cases n <;> exact hp.elim
end

end Cs
namespace Cs
open PySem L2
open PyProof.Rows (envOfC)
/-! verdicts as values; their lists are among N -/
mutual
inductive VV (N : Addr → Prop) (H : Hp) : V → Vd → Prop
  | ends {a : Addr} {t : Nat} : H a = some (.tup [.str (kS "ends"), vn t]) → VV N H (.ref a) (.ends t)
  | any {a q : Addr} {xs : List V} {vs : List Vd} : H a = some (.tup [.str (kS "any"), .ref q]) → H q = some (.lst xs) → N q → VVs N H xs vs → VV N H (.ref a) (.any vs)
  | all {a q : Addr} {xs : List V} {vs : List Vd} : H a = some (.tup [.str (kS "all"), .ref q]) → H q = some (.lst xs) → N q → VVs N H xs vs → VV N H (.ref a) (.all vs)
  | no {a q : Addr} {x : V} {v : Vd} : H a = some (.tup [.str (kS "not"), .ref q]) → H q = some (.lst [x]) → N q → VV N H x v → VV N H (.ref a) (.no v)
inductive VVs (N : Addr → Prop) (H : Hp) : List V → List Vd → Prop
  | nil : VVs N H [] []
  | cons {x : V} {xs : List V} {v : Vd} {vs : List Vd} : VV N H x v → VVs N H xs vs → VVs N H (x :: xs) (v :: vs)
end
/-- tuples stand, and the lists of N -/
structure KV' (N : Addr → Prop) (H H' : Hp) : Prop where
  t : TS H H'
  l : ∀ b xs, N b → H b = some (.lst xs) → H' b = some (.lst xs)
theorem KV'.trans {N : Addr → Prop} {H H1 H2 : Hp} (x : KV' N H H1) (y : KV' N H1 H2) : KV' N H H2 := ⟨x.t.trans y.t, fun b xs n e => y.l b xs n (x.l b xs n e)⟩
theorem KV'.same {N : Addr → Prop} {H H' : Hp} (s : Same H H') : KV' N H H' := ⟨TS.same s, fun b xs _ e => s b _ e⟩
theorem KV'.lay {N : Addr → Prop} {p : Addr} {H : Hp} {o : HO} (n : H p = none) : KV' N H (upd H p o) := .same (Same.lay n)
theorem KV'.km {C m d l : Addr} {al f : List Nat} {r : Nat → Nat} {N : Addr → Prop} {H H' : Hp} (M : MS C m d l al f r H) (k : KM d l H H') (n : ¬ N l) : KV' N H H' :=
  ⟨M.ts k, fun b xs nb e => k b _ (ne_of e M.d (by intro z; cases z)) (fun z => n (z ▸ nb)) e⟩
theorem KV'.set {N : Addr → Prop} {D : Addr} {H : Hp} {xs : List V} {o : HO} (e : H D = some (.lst xs)) (n : ¬ N D) : KV' N H (upd H D o) :=
  ⟨TS.set e, fun b ys nb q => by rw [upd_ne (fun z => by subst z; exact n nb)]; exact q⟩
section
variable {N : Addr → Prop} {H H' : Hp}
mutual
theorem VV.kp (k : KV' N H H') : ∀ {x : V} {v : Vd}, VV N H x v → VV N H' x v
  | _, _, .ends e => .ends (k.t _ _ e)
  | _, _, .any e q n t => .any (k.t _ _ e) (k.l _ _ n q) n (VVs.kp k t)
  | _, _, .all e q n t => .all (k.t _ _ e) (k.l _ _ n q) n (VVs.kp k t)
  | _, _, .no e q n t => .no (k.t _ _ e) (k.l _ _ n q) n (VV.kp k t)
theorem VVs.kp (k : KV' N H H') : ∀ {xs : List V} {vs : List Vd}, VVs N H xs vs → VVs N H' xs vs
  | _, _, .nil => .nil
  | _, _, .cons h t => .cons (VV.kp k h) (VVs.kp k t)
end
mutual
theorem VV.imp {N' : Addr → Prop} (k : ∀ b, N b → N' b) : ∀ {x : V} {v : Vd}, VV N H x v → VV N' H x v
  | _, _, .ends e => .ends e
  | _, _, .any e q n t => .any e q (k _ n) (VVs.imp k t)
  | _, _, .all e q n t => .all e q (k _ n) (VVs.imp k t)
  | _, _, .no e q n t => .no e q (k _ n) (VV.imp k t)
theorem VVs.imp {N' : Addr → Prop} (k : ∀ b, N b → N' b) : ∀ {xs : List V} {vs : List Vd}, VVs N H xs vs → VVs N' H xs vs
  | _, _, .nil => .nil
  | _, _, .cons h t => .cons (VV.imp k h) (VVs.imp k t)
end
theorem VVs.app : ∀ {xs ys : List V} {vs ws : List Vd}, VVs N H xs vs → VVs N H ys ws → VVs N H (xs ++ ys) (vs ++ ws)
  | _, _, _, _, .nil, t => t
  | _, _, _, _, .cons h t, u => .cons h (t.app u)
theorem VVs.length : ∀ {xs : List V} {vs : List Vd}, VVs N H xs vs → xs.length = vs.length
  | _, _, .nil => rfl
  | _, _, .cons _ t => congrArg Nat.succ t.length
theorem VVs.get : ∀ {xs : List V} {vs : List Vd} {i : Nat} {x : V}, VVs N H xs vs → xs[i]? = some x → ∃ v, vs[i]? = some v ∧ VV N H x v
  | _, _, _, _, .nil, e => by simp at e
  | _, _, 0, _, .cons h _, e => by simp at e; subst e; exact ⟨_, rfl, h⟩
  | _, _, i + 1, x, .cons _ t, e => by
    obtain ⟨v, a, b⟩ := VVs.get (i := i) (x := x) t (by simpa using e)
    exact ⟨v, by simpa using a, b⟩
end
/-- a verdict of a depth of at most n -/
def Vd.Dp : Nat → Vd → Prop
  | _, .ends _ => True
  | n + 1, .any vs => vs.length ≤ 60 ∧ ∀ v ∈ vs, Vd.Dp n v
  | n + 1, .all vs => vs.length ≤ 60 ∧ ∀ v ∈ vs, Vd.Dp n v
  | n + 1, .no v => Vd.Dp n v
  | _, _ => False
theorem Vd.hAny_eq (s : Nat) : ∀ vs : List Vd, Vd.hAny vs s = (vs.map fun v => v.h s).any id
  | [] => rfl
  | v :: vs => by rw [Vd.hAny, List.map_cons, List.any_cons, Vd.hAny_eq s vs]; rfl
theorem Vd.hAll_eq (s : Nat) : ∀ vs : List Vd, Vd.hAll vs s = (vs.map fun v => v.h s).all id
  | [] => rfl
  | v :: vs => by rw [Vd.hAll, List.map_cons, List.all_cons, Vd.hAll_eq s vs]; rfl
theorem VOk.congr {f : List Nat} {r : Nat → Nat} {n : Nat} {v : Vd} {A B : Lg} (h : VOk f r n v A) (e : ∀ w, A w ↔ B w) : VOk f r n v B := by
  have : A = B := funext fun w => propext (e w)
  rw [← this]; exact h
/-- verdicts side by side -/
inductive VOks (f : List Nat) (r : Nat → Nat) (n : Nat) : List Vd → List Lg → Prop
  | nil : VOks f r n [] []
  | cons {v : Vd} {vs : List Vd} {A : Lg} {As : List Lg} : VOk f r n v A → VOks f r n vs As → VOks f r n (v :: vs) (A :: As)
theorem VOks.grow {f f' : List Nat} {r r' : Nat → Nat} (M : Mach f r) (g : GrowV f f' r r') {n n' : Nat} (hn : n ≤ n') : ∀ {vs : List Vd} {As : List Lg}, VOks f r n vs As → VOks f' r' n' vs As
  | _, _, .nil => .nil
  | _, _, .cons h t => .cons (h.grow M g hn) (t.grow M g hn)
theorem VOks.app {f : List Nat} {r : Nat → Nat} {n : Nat} : ∀ {vs ws : List Vd} {As Bs : List Lg}, VOks f r n vs As → VOks f r n ws Bs → VOks f r n (vs ++ ws) (As ++ Bs)
  | _, _, _, _, .nil, t => t
  | _, _, _, _, .cons h t, u => .cons h (t.app u)
theorem VOks.any {f : List Nat} {r : Nat → Nat} {n : Nat} : ∀ {vs : List Vd} {As : List Lg}, VOks f r n vs As → VOk f r n (.any vs) fun w => ∃ A ∈ As, A w
  | _, _, .nil => VOk.any0.congr fun w => by simp
  | _, _, .cons h t => (VOk.any h t.any).congr fun w => by
    constructor
    · rintro (z | ⟨A, hA, z⟩)
      · exact ⟨_, List.mem_cons_self, z⟩
      · exact ⟨A, List.mem_cons_of_mem _ hA, z⟩
    · rintro ⟨A, hA, z⟩
      rcases List.mem_cons.mp hA with rfl | hA
      · exact .inl z
      · exact .inr ⟨A, hA, z⟩
theorem VOks.all {f : List Nat} {r : Nat → Nat} {n : Nat} : ∀ {vs : List Vd} {As : List Lg}, VOks f r n vs As → VOk f r n (.all vs) fun w => ∀ A ∈ As, A w
  | _, _, .nil => VOk.all0.congr fun w => by simp
  | _, _, .cons h t => (VOk.all h t.all).congr fun w => by
    constructor
    · rintro ⟨z, y⟩ A hA
      rcases List.mem_cons.mp hA with rfl | hA
      · exact z
      · exact y A hA
    · intro z
      exact ⟨z _ List.mem_cons_self, fun A hA => z A (List.mem_cons_of_mem _ hA)⟩
theorem Pt.LAll_eq : ∀ (ps : List Pt) (w : List Nat), Pt.LAll ps w ↔ ∀ A ∈ ps.map Pt.L, A w
  | [], w => by simp [Pt.LAll]
  | p :: ps, w => by
    rw [Pt.LAll, List.map_cons, Pt.LAll_eq ps]
    constructor
    · rintro ⟨z, y⟩ A hA
      rcases List.mem_cons.mp hA with rfl | hA
      · exact z
      · exact y A hA
    · intro z
      exact ⟨z _ List.mem_cons_self, fun A hA => z A (List.mem_cons_of_mem _ hA)⟩

end Cs
namespace Cs
open PySem L2
open PyProof.Rows (envOfC)
theorem wne' {a b : String} (h : kS a ≠ kS b) : ¬ (decide (V.str (kS a) = V.str (kS b)) = true) := fun z => h (V.str.inj (of_decide_eq_true z))
def sp_holds (n : Nat) : Sp := fun vs H Q _ => ∃ (N : Addr → Prop) (x : V) (v : Vd) (s : Nat), vs = [x, vn s] ∧ VV N H x v ∧ v.Dp n ∧ ∀ H', Same H H' → Q (.bl (v.h s)) H'
theorem use_holds {N : Addr → Prop} {n : Nat} {x : V} {v : Vd} {s : Nat} {H : Hp} {Q : VK} {E : XK} (h : VV N H x v) (hd : v.Dp n) (k : ∀ H', Same H H' → Q (.bl (v.h s)) H') : sp_holds n [x, vn s] H Q E := ⟨N, x, v, s, rfl, h, hd, k⟩
def spH : Nat → Sp
  | 0 => fun _ _ _ _ => False
  | n + 1 => sp_holds n
section
variable {P : Program} {w : World} {K : PySem.W.Frag} {mg : Str → Option Value} {base : Heap}
theorem At.none {x : Str} {st : Stmt} {N ps : List Str} (k : Nat) (F : At K mg x st ps) (S : FnScope N ps (defScope st)) : Cal P w K mg base (k + 1) x ps fun _ _ _ _ => False :=
  F.ok S (fun _ _ _ _ h => h.elim) (fun _ _ _ _ _ _ _ _ _ _ h => h.elim)
theorem ok_holds1 (B : Blt mg) {n k : Nat} (G__holds : Cal P w K mg base (k + 1) "_holds" ["verdict", "state"] (spH n)) (F : At K mg "_holds" s__holds ["verdict", "state"]) : Cal P w K mg base (k + 2) "_holds" ["verdict", "state"] (spH (n + 1)) := by
  refine F.ok (k := k + 1) sc__holds (fun vs H Q E h => ?_) (fun f cdv A outer s H vs Q E hr h => ?_)
  · obtain ⟨N, x, v, s, rfl, _⟩ := h
    rfl
  · obtain ⟨N, x, v, s, rfl, hv, hd, k⟩ := h
    refine ⟨_, (pss_cons (ps_asg (pv 0) (pg_tupK (n := 2) (K := K) (by rfl) (by rfl) (pgs_cons (pg_name (i := 2) sc__holds.nd rfl (Or.inl rfl)) (pgs_cons (pg_name (i := 3) sc__holds.nd rfl (Or.inl rfl)) pgs_nil))))
    (pss_cons (ps_if (pt_cmpR op_eq (pv 2) pe_str (nomark _))
    (pss_one (ps_ret (pe_cmpR op_ne (pe_op op_and (pv 3) (pv 1)) pe_int (nomark _))))
    pss_nil)
    (pss_cons (ps_setLc (i := 4) (own := [("part", 5)]) rfl sc__holds.nd rfl rfl (sw_true rfl rfl rfl (by decide +kernel)) (pi_listK (K := K) (by rfl) (pv 3)) (blkOk_by (N := ["verdict", "state", "word", "told", "answers", "part"]) (sc := defScope s__holds) (by decide +kernel)) (fun _ _ _ _ _ => (pg_name (i := 5) sc__holds.nd rfl (Or.inl rfl))) (fun _ _ _ _ _ => pts_nil) (fun _ _ _ _ _ => (pe_c G__holds (hr.mono (by first | decide | omega)) (pa_cons (pv 5) (pa_cons (pv 1) pa_nil)))))
    (pss_cons (ps_if (pt_cmpR op_eq (pv 2) pe_str (nomark _))
    (pss_one (ps_ret (pe_callB (cr_anyK (K := K) (by rfl) rfl) (by rfl) B.any (by decide +kernel) (pa_cons (pv 4) pa_nil))))
    pss_nil)
    (pss_cons (ps_if (pt_cmpR op_eq (pv 2) pe_str (nomark _))
    (pss_one (ps_ret (pe_callB (cr_allK (K := K) (by rfl) rfl) (by rfl) B.all (by decide +kernel) (pa_cons (pv 4) pa_nil))))
    pss_nil)
    (pss_one (ps_ret (pe_not (pe_ix (ix_listK (K := K) (by rfl)) (pv 4) pe_int (fun _ _ => rfl)))))))))), ?_⟩
    walk_at "go"
    have comp : ∀ (vs : List Vd) (xs : List V) (q : Addr) (R : V → Hp → Prop), vs.length ≤ 60 → (∀ v ∈ vs, ∃ n', n = n' + 1 ∧ Vd.Dp n' v) → H q = some (.lst xs) → VVs N H xs vs →
        ∀ (i : Nat) (x : V) (D : Addr) (H1 : Hp) (Q : VK) (E : XK), xs[i]? = some x → H D = none → Same H H1 → H1 D = some (.lst (((vs.take i).map fun v => v.h s).map V.bl)) →
          (∀ (b : Bool) (H2 : Hp), Same H H2 → H2 D = some (.lst (((vs.take i).map fun v => v.h s).map V.bl)) → (((vs.take i).map fun v => v.h s).map V.bl) ++ [V.bl b] = (((vs.take (i + 1)).map fun v => v.h s).map V.bl) → ((vs.take i).map fun v => v.h s).length ≤ 60 → Q (.bl b) H2) → spH n [x, vn s] H1 Q E := by
      intro vs xs q R hl hps hq ht i x D H1 Q E hx hD sm eD kk
      obtain ⟨v, hv1, hv2⟩ := ht.get hx
      obtain ⟨n', rfl, hn'⟩ := hps v (List.mem_of_getElem? hv1)
      refine use_holds (E := E) (hv2.kp (.same sm)) hn' fun H2 s2 => kk _ H2 (L2.Same.trans sm s2) (s2 _ _ eD) ?_ ?_
      · rw [take_snoc hv1]; simp
      · rw [List.length_map, List.length_take]; omega
    cases hv with
    | @ends a t e =>
      refine rd_gtup (SqT.of e) rfl ?_
      walk_at "go"
      refine ite2 (fun _ => ?_) (fun z => absurd (decide_eq_true rfl) z)
      walk_at "go"
      rw [band_n]
      have e2 : (!decide (V.int ((t &&& s : Nat) : Int) = V.int 0)) = (Vd.ends t).h s := by
        rw [Vd.h]
        by_cases z : t &&& s = 0
        · simp [z]
        · have : ¬ ((t &&& s : Nat) : Int) = 0 := by omega
          simp [z, this]
      rw [e2]
      exact k _ (Same.refl _)
    | @any a q xs vs e eq nq ht =>
      have hps : vs.length ≤ 60 ∧ ∀ v ∈ vs, ∃ n', n = n' + 1 ∧ Vd.Dp n' v := by
        cases n with
        | zero => exact hd.elim
        | succ n => exact ⟨hd.1, fun v hv => ⟨n, rfl, hd.2 v hv⟩⟩
      have hxl : xs.length = vs.length := ht.length
      refine rd_gtup (SqT.of e) rfl ?_
      walk_at "go"
      refine ite2 (fun z => absurd z (wne' (by decide +kernel))) (fun _ => ?_)
      walk_at "go"
      refine ⟨q, rfl, ⟨_, SqL.of eq⟩, ?_⟩
      intro D hD
      refine lc_list (K := K) (a := q) (xs := xs) (fun i H' => Same H H' ∧ H' D = some (.lst (((vs.take i).map fun v => v.h s).map V.bl))) ?_ ?_ ?_ ?_
      · exact ⟨Same.lay hD, upd_same⟩
      · rintro i H' _ ⟨sm, _⟩
        exact SqL.of (sm _ _ eq)
      · rintro i y H' hi ⟨sm, eD⟩
        walk_at "go"
        refine ⟨rfl, ?_⟩
        walk_at "go"
        refine comp vs xs q (fun _ _ => True) hps.1 hps.2 eq ht i y D H' _ _ hi hD sm eD fun b H2 s2 eD2 e3 hl => ?_
        exact ⟨_, eD2, by rw [List.length_map, PySem.sizeLine_eq]; omega, Same.lay2 s2 hD, by rw [e3]; exact upd_same⟩
      · rintro H1 ⟨sm, eD⟩
        rw [hxl, List.take_length] at eD
        walk_at "go"
        refine ite2 (fun _ => ?_) (fun z => absurd (decide_eq_true rfl) z)
        walk_at "go"
        refine rd_any (SqL.of eD) ?_
        have e2 : ((vs.map fun v => v.h s).any id) = (Vd.any vs).h s := by rw [Vd.h, Vd.hAny_eq]
        rw [e2]
        exact k _ sm
    | @all a q xs vs e eq nq ht =>
      have hps : vs.length ≤ 60 ∧ ∀ v ∈ vs, ∃ n', n = n' + 1 ∧ Vd.Dp n' v := by
        cases n with
        | zero => exact hd.elim
        | succ n => exact ⟨hd.1, fun v hv => ⟨n, rfl, hd.2 v hv⟩⟩
      have hxl : xs.length = vs.length := ht.length
      refine rd_gtup (SqT.of e) rfl ?_
      walk_at "go"
      refine ite2 (fun z => absurd z (wne' (by decide +kernel))) (fun _ => ?_)
      walk_at "go"
      refine ⟨q, rfl, ⟨_, SqL.of eq⟩, ?_⟩
      intro D hD
      refine lc_list (K := K) (a := q) (xs := xs) (fun i H' => Same H H' ∧ H' D = some (.lst (((vs.take i).map fun v => v.h s).map V.bl))) ?_ ?_ ?_ ?_
      · exact ⟨Same.lay hD, upd_same⟩
      · rintro i H' _ ⟨sm, _⟩
        exact SqL.of (sm _ _ eq)
      · rintro i y H' hi ⟨sm, eD⟩
        walk_at "go"
        refine ⟨rfl, ?_⟩
        walk_at "go"
        refine comp vs xs q (fun _ _ => True) hps.1 hps.2 eq ht i y D H' _ _ hi hD sm eD fun b H2 s2 eD2 e3 hl => ?_
        exact ⟨_, eD2, by rw [List.length_map, PySem.sizeLine_eq]; omega, Same.lay2 s2 hD, by rw [e3]; exact upd_same⟩
      · rintro H1 ⟨sm, eD⟩
        rw [hxl, List.take_length] at eD
        walk_at "go"
        refine ite2 (fun z => absurd z (wne' (by decide +kernel))) (fun _ => ?_)
        walk_at "go"
        refine ite2 (fun _ => ?_) (fun z => absurd (decide_eq_true rfl) z)
        walk_at "go"
        refine rd_all (SqL.of eD) ?_
        have e2 : ((vs.map fun v => v.h s).all id) = (Vd.all vs).h s := by rw [Vd.h, Vd.hAll_eq]
        rw [e2]
        exact k _ sm
    | @no a q x v e eq nq ht =>
      have hps : [v].length ≤ 60 ∧ ∀ u ∈ [v], ∃ n', n = n' + 1 ∧ Vd.Dp n' u := by
        cases n with
        | zero => exact hd.elim
        | succ n => exact ⟨by show 1 ≤ 60; decide, fun u hu => ⟨n, rfl, by rw [List.mem_singleton.mp hu]; exact hd⟩⟩
      have ht : VVs N H [x] [v] := .cons ht .nil
      have hxl : [x].length = [v].length := ht.length
      refine rd_gtup (SqT.of e) rfl ?_
      walk_at "go"
      refine ite2 (fun z => absurd z (wne' (by decide +kernel))) (fun _ => ?_)
      walk_at "go"
      refine ⟨q, rfl, ⟨_, SqL.of eq⟩, ?_⟩
      intro D hD
      refine lc_list (K := K) (a := q) (xs := [x]) (fun i H' => Same H H' ∧ H' D = some (.lst ((([v].take i).map fun v => v.h s).map V.bl))) ?_ ?_ ?_ ?_
      · exact ⟨Same.lay hD, upd_same⟩
      · rintro i H' _ ⟨sm, _⟩
        exact SqL.of (sm _ _ eq)
      · rintro i y H' hi ⟨sm, eD⟩
        walk_at "go"
        refine ⟨rfl, ?_⟩
        walk_at "go"
        refine comp [v] [x] q (fun _ _ => True) hps.1 hps.2 eq ht i y D H' _ _ hi hD sm eD fun b H2 s2 eD2 e3 hl => ?_
        exact ⟨_, eD2, by rw [List.length_map, PySem.sizeLine_eq]; omega, Same.lay2 s2 hD, by rw [e3]; exact upd_same⟩
      · rintro H1 ⟨sm, eD⟩
        rw [hxl, List.take_length] at eD
        walk_at "go"
        refine ite2 (fun z => absurd z (wne' (by decide +kernel))) (fun _ => ?_)
        walk_at "go"
        refine ite2 (fun z => absurd z (wne' (by decide +kernel))) (fun _ => ?_)
        walk_at "go"
        refine rd_ixl (SqL.of eD) (at_of (j := 0) rfl rfl) ?_
        walk_at "go"
        have e2 : (!v.h s) = (Vd.no v).h s := by rw [Vd.h]
        rw [e2]
        exact k _ sm
end

end Cs
namespace Cs
open PySem L2
open PyProof.Rows (envOfC)
/-- a pattern of all kinds: any, all, not down to j, plain ones of a depth of at most n below -/
def Pt.Jd (al : List Nat) (n : Nat) : Nat → Pt → Prop
  | j + 1, .any ps => ps.length ≤ 60 ∧ ∀ p ∈ ps, Pt.Jd al n j p
  | j + 1, .all ps => ps.length ≤ 60 ∧ ∀ p ∈ ps, Pt.Jd al n j p
  | j + 1, .no p => Pt.Jd al n j p
  | _, .set cs => Pt.Pl al n (.set cs)
  | _, .row ps => Pt.Pl al n (.row ps)
  | _, .again p lo hi => Pt.Pl al n (.again p lo hi)
  | _, _ => False
/-- what a call of _judge leaves -/
structure JR (C m d l : Addr) (al f : List Nat) (r : Nat → Nat) (H : Hp) (wd j : Nat) (A : Lg) (x : V) (H' : Hp) : Prop where
  ex : ∃ (f' : List Nat) (r' : Nat → Nat) (v : Vd), MS C m d l al f' r' H' ∧ KM d l H H' ∧ GrowV f f' r r' ∧ Mach f' r' ∧ VOk f' r' f'.length v A ∧ VV (fun b => H b = none) H' x v ∧ v.Dp j ∧ f'.length ≤ f.length + wd
structure JRs (C m d l : Addr) (al f : List Nat) (r : Nat → Nat) (H : Hp) (wd j : Nat) (As : List Lg) (D : Addr) (f' : List Nat) (r' : Nat → Nat) (xs : List V) (vs : List Vd) (H' : Hp) : Prop where
  ms : MS C m d l al f' r' H'
  km : KM d l H H'
  eD : H' D = some (.lst xs)
  g : GrowV f f' r r'
  M : Mach f' r'
  v : VOks f' r' f'.length vs As
  t : VVs (fun b => H b = none ∧ b ≠ D) H' xs vs
  dp : ∀ v ∈ vs, Vd.Dp j v
  len : f'.length ≤ f.length + wd
theorem VOks.length {f : List Nat} {r : Nat → Nat} {n : Nat} : ∀ {vs : List Vd} {As : List Lg}, VOks f r n vs As → vs.length = As.length
  | _, _, .nil => rfl
  | _, _, .cons _ t => congrArg Nat.succ t.length
section
variable {C m d l D : Addr} {al f f' : List Nat} {r r' : Nat → Nat} {H H' H2 : Hp} {wd wd2 j : Nat} {As : List Lg} {A : Lg} {xs : List V} {vs : List Vd} {x : V}
theorem JRs.start (M : MS C m d l al f r H) (Mc : Mach f r) (hD : H D = none) : JRs C m d l al f r H 0 j [] D f r [] [] (upd H D (.lst [])) :=
  ⟨M.lay hD, KM.refl.lay hD, upd_same, .refl, Mc, .nil, .nil, by simp, Nat.le_refl _⟩
theorem JRs.step (hD : H D = none) (h : JRs C m d l al f r H wd j As D f' r' xs vs H') (M : MS C m d l al f r H) (q : JR C m d l al f' r' H' wd2 j A x H2) :
    H2 D = some (.lst xs) ∧ ∃ f2 r2 v2, JRs C m d l al f r H (wd + wd2) j (As ++ [A]) D f2 r2 (xs ++ [x]) (vs ++ [v2]) (upd H2 D (.lst (xs ++ [x]))) := by
  obtain ⟨f2, r2, v, M2, k2, g2, Mc2, q2, t2, dp2, l2⟩ := q.ex
  have nD := M.free hD
  have eD : H2 D = some (.lst xs) := k2 D _ nD.1 nD.2.1 h.eD
  have sD : KV' (fun b => H b = none ∧ b ≠ D) H2 (upd H2 D (.lst (xs ++ [x]))) := KV'.set eD (fun z => z.2 rfl)
  have kv : KV' (fun b => H b = none ∧ b ≠ D) H' H2 := KV'.km h.ms k2 (fun z => by rw [M.l] at z; cases z.1)
  refine ⟨eD, f2, r2, v, ?_, (h.km.trans k2).layD hD, upd_same, h.g.trans g2, Mc2, ?_, ?_, ?_, by have := h.len; omega⟩
  · obtain ⟨dx, e⟩ := M2.m
    exact ⟨⟨dx, by rw [upd_ne nD.2.2.symm]; exact e⟩, by rw [upd_ne nD.1.symm]; exact M2.d, by rw [upd_ne nD.2.1.symm]; exact M2.l⟩
  · exact (h.v.grow h.M g2 g2.len).app (.cons q2 .nil)
  · refine ((h.t.kp kv).kp sD).app (.cons ((t2.imp (fun b hb => ⟨?_, fun z => ?_⟩)).kp sD) .nil)
    · exact h.km.free h.ms hb
    · rw [z, h.eD] at hb; cases hb
  · intro u hu
    rcases List.mem_append.mp hu with hu | hu
    · exact h.dp u hu
    · rw [List.mem_singleton.mp hu]; exact dp2
end
def sp_judge (C : Addr) (n j : Nat) : Sp := fun vs H Q _ => ∃ (m d l : Addr) (al f : List Nat) (r : Nat → Nat) (v : V) (p : Pt), vs = [.ref m, v] ∧ MS C m d l al f r H ∧ Mach f r ∧ al.length ≤ 100 ∧ p.Jd al n j ∧ Tp H v p.d ∧ f.length + p.wd ≤ 800 ∧
  ∀ x H', JR C m d l al f r H p.wd j p.L x H' → Q x H'
theorem use_judge {C m d l : Addr} {al f : List Nat} {r : Nat → Nat} {v : V} {p : Pt} {n j : Nat} {H : Hp} {Q : VK} {E : XK} (M : MS C m d l al f r H) (Mc : Mach f r) (hL : al.length ≤ 100) (hp : p.Jd al n j) (hv : Tp H v p.d) (hw : f.length + p.wd ≤ 800)
    (k : ∀ x H', JR C m d l al f r H p.wd j p.L x H' → Q x H') : sp_judge C n j [.ref m, v] H Q E := ⟨m, d, l, al, f, r, v, p, rfl, M, Mc, hL, hp, hv, hw, k⟩
def spJ (C : Addr) (n : Nat) : Nat → Sp
  | 0 => spN
  | j + 1 => sp_judge C n j
abbrev aan : List V := [.str (kS "any"), .str (kS "all"), .str (kS "not")]
theorem jd_plain {al : List Nat} {n j : Nat} {p : Pt} {wd : Str} {ds : List PyData} (h : p.Jd al n j) (e : p.d = .tuple (.str wd :: ds)) (hi : inV (.str wd) aan = false) : p.Pl al n := by
  cases p with
  | set cs => cases j <;> exact h
  | row ps => cases j <;> exact h
  | again p lo hi => cases j <;> exact h
  | any ps =>
    rw [Pt.d] at e
    injection e with e; injection e with e1 e2; injection e1 with e1
    subst e1
    exact absurd hi (by decide +kernel)
  | all ps =>
    rw [Pt.d] at e
    injection e with e; injection e with e1 e2; injection e1 with e1
    subst e1
    exact absurd hi (by decide +kernel)
  | no p =>
    rw [Pt.d] at e
    injection e with e; injection e with e1 e2; injection e1 with e1
    subst e1
    exact absurd hi (by decide +kernel)
theorem jd_comp {al : List Nat} {n j : Nat} {p : Pt} {wd : Str} {ds : List PyData} (h : p.Jd al n j) (e : p.d = .tuple (.str wd :: ds)) (hi : inV (.str wd) aan = true) : ∃ (j' : Nat) (ps : List Pt), j = j' + 1 ∧ ps.length ≤ 60 ∧ (∀ p ∈ ps, Pt.Jd al n j' p) ∧ ds = ps.map Pt.d ∧ p.wd = (ps.map Pt.wd).sum ∧
    ((p = .any ps ∧ wd = kS "any") ∨ (p = .all ps ∧ wd = kS "all") ∨ (∃ q, p = .no q ∧ ps = [q] ∧ wd = kS "not")) := by
  cases p with
  | set cs =>
    rw [Pt.d] at e
    injection e with e; injection e with e1 e2; injection e1 with e1
    subst e1
    exact absurd hi (by decide +kernel)
  | row ps =>
    rw [Pt.d] at e
    injection e with e; injection e with e1 e2; injection e1 with e1
    subst e1
    exact absurd hi (by decide +kernel)
  | again p lo hi' =>
    rw [Pt.d] at e
    injection e with e; injection e with e1 e2; injection e1 with e1
    subst e1
    exact absurd hi (by decide +kernel)
  | any ps =>
    rw [Pt.d, Pt.ds_eq] at e
    injection e with e; injection e with e1 e2; injection e1 with e1
    cases j with
    | zero => exact h.elim
    | succ j => exact ⟨j, ps, rfl, h.1, h.2, e2.symm, by rw [Pt.wd, Pt.wds_eq], .inl ⟨rfl, e1.symm⟩⟩
  | all ps =>
    rw [Pt.d, Pt.ds_eq] at e
    injection e with e; injection e with e1 e2; injection e1 with e1
    cases j with
    | zero => exact h.elim
    | succ j => exact ⟨j, ps, rfl, h.1, h.2, e2.symm, by rw [Pt.wd, Pt.wds_eq], .inr (.inl ⟨rfl, e1.symm⟩)⟩
  | no p =>
    rw [Pt.d] at e
    injection e with e; injection e with e1 e2; injection e1 with e1
    cases j with
    | zero => exact h.elim
    | succ j => exact ⟨j, [p], rfl, by show 1 ≤ 60; decide, fun q hq => by rw [List.mem_singleton.mp hq]; exact h, e2.symm, by rw [Pt.wd]; simp, .inr (.inr ⟨p, rfl, rfl, e1.symm⟩)⟩
theorem pt_word (p : Pt) : ∃ (wd : Str) (ds : List PyData), p.d = .tuple (.str wd :: ds) := by
  cases p <;> exact ⟨_, _, by rw [Pt.d]⟩
theorem or_one (L : Nat) : Builtin.bitOr (L : Int) 1 = ((L ||| 1 : Nat) : Int) := bor_n L 1
section
variable {P : Program} {w : World} {K : PySem.W.Frag} {mg : Str → Option Value} {base : Heap}
theorem ok_judge {C : Addr} {n j k : Nat} (T : MTxt K mg C) (G__piece : Mtd P w K mg base (k + 1) C "_piece" ["self", "pattern"] (sp_piece C n)) (G__judge : Mtd P w K mg base (k + 1) C "_judge" ["self", "pattern"] (spJ C n j))
    (F : AtM K C "_judge" "Machine._judge" s_Machine__judge ["self", "pattern"]) : Mtd P w K mg base (k + 2) C "_judge" ["self", "pattern"] (sp_judge C n j) := by
  refine F.ok (k := k + 1) sc_Machine__judge (fun vs H Q E h => ?_) (fun f cdv A outer s H vs Q E hr h => ?_)
  · obtain ⟨m, d, l, al, f, r, v, p, rfl, _⟩ := h
    rfl
  · obtain ⟨m, d, l, al, f, r, v, p, rfl, M, Mc, hL, hp, hv, hw, kq⟩ := h
    refine ⟨_, (pss_cons (ps_if (pt_cmpR (op_in_seqK (K := K) (by rfl)) (pe_ix (ix_tupK (K := K) (by rfl)) (pv 1) pe_int (fun _ _ => rfl)) (pe_tup (pa_cons pe_str (pa_cons pe_str (pa_cons pe_str pa_nil)))) (by first | rfl | decide))
    (pss_one (ps_ret (pe_tup (pa_cons (pe_ix (ix_tupK (K := K) (by rfl)) (pv 1) pe_int (fun _ _ => rfl)) (pa_cons (pe_lc (own := [("part", 5)]) rfl sc_Machine__judge.nd (pi_tupK (K := K) (by rfl) (pe_slice (sl_tupAK (K := K) (by rfl)) (pv 1) (po_some pe_int) po_none)) (blkOk_by (N := ["self", "pattern", "empty", "first", "last", "part"]) (sc := defScope s_Machine__judge) (by decide +kernel)) (fun _ _ _ _ _ => (pg_name (i := 5) sc_Machine__judge.nd rfl (Or.inl rfl))) (fun _ _ _ _ _ => pts_nil) (fun _ _ _ _ _ => (pe_md T.cl G__judge (hr.mono (by first | decide | omega)) (pv 0) (pa_cons (pv 5) pa_nil)))) pa_nil)))))
    pss_nil)
    (pss_cons (ps_asg (pe_md T.cl G__piece (hr.mono (by first | decide | omega)) (pv 0) (pa_cons (pv 1) pa_nil)) (pg_tupK (n := 3) (K := K) (by rfl) (by rfl) (pgs_cons (pg_name (i := 2) sc_Machine__judge.nd rfl (Or.inl rfl)) (pgs_cons (pg_name (i := 3) sc_Machine__judge.nd rfl (Or.inl rfl)) (pgs_cons (pg_name (i := 4) sc_Machine__judge.nd rfl (Or.inl rfl)) pgs_nil)))))
    (pss_cons (ps_augS (pe_fldK (K := K) (by rfl) (pv 0) rfl) pe_int (pget_listK (K := K) (by rfl)) (pv 3) ip_or set_list)
    (pss_one (ps_ret (pe_tup (pa_cons pe_str (pa_cons (pe_ifExp (pt_truthK (K := K) (by rfl) (pv 2)) (pe_op op_or (pv 4) (pe_k T.c_START)) (pv 4)) pa_nil)))))))), ?_⟩
    walk_at "go"
    have one := Mc.one
    obtain ⟨wd, ds, ep⟩ := pt_word p
    have hv0 := hv
    rw [ep] at hv
    obtain ⟨a, xs, rfl, ea, ht⟩ := hv.tupE
    obtain ⟨x0, xs, rfl, h0, ht⟩ := ht.consE
    rw [h0.strE] at ea
    refine rd_ixt (SqT.of ea) (at_of (j := 0) rfl rfl) ?_
    walk_at "go"
    refine ⟨by show 3 ≤ sizeLine; decide, fun p0 hp0 => ?_⟩
    walk_at "go"
    have M0 := M.lay (o := .tup aan) hp0
    have ea0 : upd H p0 (.tup aan) a = some (.tup (.str wd :: xs)) := by rw [upd_ne (ne_of_none ea hp0)]; exact ea
    have t0 : TS H (upd H p0 (.tup aan)) := TS.lay hp0
    refine rd_in (xs := aan) (.inr (SqT.of upd_same)) rfl rfl ?_
    walk_at "go"
    cases hin : inV (.str wd) aan with
    | false =>
      have hpl := jd_plain hp ep hin
      rw [if_neg (by decide)]
      walk_at "go"
      refine M0.me ?_
      walk_at "go"
      refine use_piece M0 Mc hL hpl (hv0.ts t0) hw fun t H1 q => ?_
      obtain ⟨f1, r1, ⟨e, F, L⟩, M1, k1, ht1, et, g1, Mc1, p1, q1, l1⟩ := q.ex
      walk_at "go"
      refine rd_gtup (SqT.of et) rfl ?_
      walk_at "go"
      refine M1.fF T ?_
      walk_at "go"
      have one1 := Mc1.one
      refine rd_ixl (SqL.of M1.l) (at_of (j := 0) rfl (map_vn_get (by omega))) ?_
      walk_at "go"
      rw [bor_n]
      refine rd_setl M1.l (j := 0) (by rw [List.length_map]; unfold ixN; rw [if_pos (by omega), if_pos (by omega)]; rfl) ?_
      obtain ⟨Mc2, g2, lf, e2⟩ := leaf_new Mc Mc1 g1 p1 q1
      have M2 := M1.setl (setF f1 F)
      have es : (f1.map vn).set 0 (vn (f1.getD 0 0 ||| F)) = (setF f1 F).map vn := by unfold setF; rw [List.map_set]
      rw [es]
      walk_at "go"
      have fin : ∀ (t2 : Addr) (o : Nat), o = (if e then L ||| 1 else L) → upd H1 l (.lst ((setF f1 F).map vn)) t2 = none →
          Q (.ref t2) (upd (upd H1 l (.lst ((setF f1 F).map vn))) t2 (.tup [.str (kS "ends"), vn o])) := by
        intro t2 o ho ht2
        subst ho
        refine kq _ _ ⟨setF f1 F, r1, .ends (if e then L ||| 1 else L), M2.lay ht2, (((KM.refl.lay hp0).trans k1).setl).lay' ht2, g2, Mc2, .ends lf (by rw [e2]; exact Nat.le_refl _), .ends upd_same, ?_, by rw [e2]; exact l1⟩
        cases j <;> exact trivial
      refine ⟨e, rfl, ?_⟩
      cases e with
      | true =>
        walk_at "go"
        rw [or_one]
        exact ⟨by show 2 ≤ sizeLine; decide, fun t2 ht2 => by
          walk_at "go"
          exact fin t2 _ rfl ht2⟩
      | false =>
        walk_at "go"
        exact ⟨by show 2 ≤ sizeLine; decide, fun t2 ht2 => by
          walk_at "go"
          exact fin t2 _ rfl ht2⟩
    | true =>
      obtain ⟨j', ps, rfl, hl60, hps, rfl, ew, hcase⟩ := jd_comp hp ep hin
      rw [if_pos (by decide)]
      walk_at "go"
      refine rd_ixt (SqT.of ea0) (at_of (j := 0) rfl rfl) ?_
      walk_at "go"
      refine rd_sla (SqT.of ea0) (fun z => absurd z cut1_no) (fun _ => ?_)
      rw [cut1]
      intro p1 hp1
      walk_at "go"
      refine ⟨p1, rfl, ⟨_, SqT.of upd_same⟩, ?_⟩
      intro D hD
      have n1 := M0.free hp1
      have M1 := M0.lay (o := .tup xs) hp1
      have nD := M1.free hD
      have nDp : D ≠ p1 := fun z => by rw [z, upd_same] at hD; cases hD
      have hxl : xs.length = ps.length := by rw [ht.length, List.length_map]
      have t1 : TS H (upd (upd H p0 (.tup aan)) p1 (.tup xs)) := t0.trans (TS.lay hp1)
      rw [ew] at hw
      refine lc_tup (K := K) (a := p1) (xs := xs) (fun i H' => ∃ f1 r1 ys vs, JRs C m d l al f r (upd (upd H p0 (.tup aan)) p1 (.tup xs)) ((ps.take i).map Pt.wd).sum j' ((ps.take i).map Pt.L) D f1 r1 ys vs H') ?_ ?_ ?_ ?_
      · exact ⟨f, r, [], [], JRs.start M1 Mc hD⟩
      · rintro i H' _ ⟨f1, r1, ys, vs, h1⟩
        exact SqT.of (h1.km p1 _ n1.1 n1.2.1 upd_same)
      · rintro i x H' hi ⟨f1, r1, ys, vs, h1⟩
        have hi' : i < ps.length := by rw [← hxl]; exact (List.getElem?_eq_some_iff.mp hi).1
        have hq : ps[i]? = some ps[i] := List.getElem?_eq_getElem hi'
        walk_at "go"
        refine ⟨rfl, ?_⟩
        walk_at "go"
        refine h1.ms.me ?_
        walk_at "go"
        obtain ⟨dq, h3, h4⟩ := TpAll.get ht hi
        rw [List.getElem?_map, hq] at h3
        cases h3
        have hs : ((ps.take (i + 1)).map Pt.wd).sum ≤ (ps.map Pt.wd).sum := by
          have e : ps.map Pt.wd = (ps.take (i + 1)).map Pt.wd ++ (ps.drop (i + 1)).map Pt.wd := by rw [← List.map_append, List.take_append_drop]
          rw [e, List.sum_append]; omega
        have e2 : ((ps.take (i + 1)).map Pt.wd).sum = ((ps.take i).map Pt.wd).sum + (ps[i]).wd := by rw [take_snoc hq, List.map_append, List.sum_append]; simp
        refine use_judge (E := E0) h1.ms h1.M hL (hps _ (List.getElem_mem hi')) (h4.ts (t1.trans (M1.ts h1.km))) (by have := h1.len; omega) fun t H2 pr => ?_
        obtain ⟨eD, f2, r2, v2, h2⟩ := h1.step hD M1 pr
        refine ⟨ys, eD, ?_, f2, r2, ys ++ [t], vs ++ [v2], ?_⟩
        · rw [h1.t.length, h1.v.length, List.length_map, List.length_take, PySem.sizeLine_eq]; omega
        · rw [take_snoc hq, List.map_append, List.map_append, List.sum_append]
          simpa using h2
      · rintro H1 ⟨f1, r1, ys, vs, h1⟩
        rw [hxl, List.take_length] at h1
        walk_at "go"
        refine ⟨by show 2 ≤ sizeLine; decide, fun t2 ht2 => ?_⟩
        walk_at "go"
        have fr : ∀ b, upd (upd H p0 (.tup aan)) p1 (.tup xs) b = none → H b = none := fun b hb => by
          cases z : H b with
          | none => rfl
          | some o =>
            have q1 : upd H p0 (.tup aan) b = some o := by rw [upd_ne (ne_of_none z hp0)]; exact z
            rw [upd_ne (ne_of_none q1 hp1), q1] at hb; cases hb
        have hvv := (h1.t.kp (KV'.lay (o := .tup [.str wd, .ref D]) ht2)).imp (N' := fun b => H b = none) fun b hb => fr b hb.1
        have nDt : D ≠ t2 := fun z => by rw [← z, h1.eD] at ht2; cases ht2
        have eD2 : upd H1 t2 (.tup [.str wd, .ref D]) D = some (.lst ys) := by rw [upd_ne nDt]; exact h1.eD
        have km : KM d l H (upd H1 t2 (.tup [.str wd, .ref D])) := ((((KM.refl.lay hp0).lay' hp1)).trans h1.km).lay' ht2
        have hvl : vs.length = ps.length := by rw [h1.v.length, List.length_map]
        rcases hcase with ⟨rfl, rfl⟩ | ⟨rfl, rfl⟩ | ⟨q, rfl, rfl, rfl⟩
        · refine kq _ _ ⟨f1, r1, .any vs, h1.ms.lay ht2, km, h1.g, h1.M, h1.v.any.congr fun w => ?_, .any upd_same eD2 (fr D hD) hvv, ⟨by rw [hvl]; exact hl60, h1.dp⟩, by rw [ew]; exact h1.len⟩
          rw [Pt.L, Pt.LAny_eq]
        · refine kq _ _ ⟨f1, r1, .all vs, h1.ms.lay ht2, km, h1.g, h1.M, h1.v.all.congr fun w => ?_, .all upd_same eD2 (fr D hD) hvv, ⟨by rw [hvl]; exact hl60, h1.dp⟩, by rw [ew]; exact h1.len⟩
          rw [Pt.L, Pt.LAll_eq]
        · obtain ⟨v, rfl⟩ : ∃ v, vs = [v] := by
            match vs, hvl with
            | [v], _ => exact ⟨v, rfl⟩
          cases hvv with
          | cons hx hn =>
            cases hn
            have hov := h1.v
            cases hov with
            | cons hv1 hv2 =>
              refine kq _ _ ⟨f1, r1, .no v, h1.ms.lay ht2, km, h1.g, h1.M, (VOk.no hv1).congr fun w => ?_, .no upd_same eD2 (fr D hD) hx, h1.dp v List.mem_cons_self, by rw [ew]; exact h1.len⟩
              rw [Pt.L]
end

end Cs
namespace Cs
open PySem L2
open PyProof.Rows (envOfC)
/-- a machine that is made -/
structure MV (C m d l : Addr) (al f : List Nat) (r : Nat → Nat) (v : Vd) (H : Hp) : Prop where
  m : ∃ (dx : Addr) (x : V), H m = some (.ins C dx (mFv d l x)) ∧ VV (fun _ => True) H x v
  d : H d = some (.dK (rK al r))
  l : H l = some (.lst (f.map vn))
section
variable {C m d l : Addr} {al f : List Nat} {r : Nat → Nat} {v : Vd} {H H' : Hp}
theorem MV.same (M : MV C m d l al f r v H) (s : Same H H') : MV C m d l al f r v H' := by
  obtain ⟨dx, x, e, t⟩ := M.m
  exact ⟨⟨dx, x, s _ _ e, t.kp (.same s)⟩, s _ _ M.d, s _ _ M.l⟩
variable {K : PySem.W.Frag} {mg : Str → Option Value} {R : V → Prop}
theorem MV.fR (M : MV C m d l al f r v H) (T : MTxt K mg C) (q : R (.ref d)) : ∃ a C dx fs v, V.ref m = .ref a ∧ H a = some (.ins C dx fs) ∧ Cls K C ∧ NoAttr K C "_reading" ∧ fs.lookup ("_reading" : Str) = some v ∧ R v := by
  obtain ⟨dx, x, e, _⟩ := M.m
  exact ⟨m, C, dx, _, _, rfl, e, T.cl, T.nR, mFv_R d l x, q⟩
theorem MV.fF (M : MV C m d l al f r v H) (T : MTxt K mg C) (q : R (.ref l)) : ∃ a C dx fs v, V.ref m = .ref a ∧ H a = some (.ins C dx fs) ∧ Cls K C ∧ NoAttr K C "_following" ∧ fs.lookup ("_following" : Str) = some v ∧ R v := by
  obtain ⟨dx, x, e, _⟩ := M.m
  exact ⟨m, C, dx, _, _, rfl, e, T.cl, T.nF, mFv_F d l x, q⟩
theorem MV.fV (M : MV C m d l al f r v H) (T : MTxt K mg C) (q : ∀ x, VV (fun _ => True) H x v → R x) : ∃ a C dx fs v, V.ref m = .ref a ∧ H a = some (.ins C dx fs) ∧ Cls K C ∧ NoAttr K C "_verdict" ∧ fs.lookup ("_verdict" : Str) = some v ∧ R v := by
  obtain ⟨dx, x, e, t⟩ := M.m
  exact ⟨m, C, dx, _, _, rfl, e, T.cl, T.nV, mFv_V d l x, q x t⟩
theorem MV.me (M : MV C m d l al f r v H) {x : Str} {R : Prop} (q : R) (h1 : (x == ("_reading" : Str)) = false := by decide +kernel) (h2 : (x == ("_following" : Str)) = false := by decide +kernel) (h3 : (x == ("_verdict" : Str)) = false := by decide +kernel) :
    ∃ a dx fs, V.ref m = .ref a ∧ H a = some (.ins C dx fs) ∧ fs.lookup x = none ∧ R := by
  obtain ⟨dx, y, e, _⟩ := M.m
  exact ⟨m, dx, _, rfl, e, mFv_no d l y h1 h2 h3, q⟩
end
def foldN (f : List Nat) (s i : Nat) : Nat := (List.range i).foldl (fun a k => if s.testBit k then a ||| f.getD k 0 else a) 0
theorem foldN_succ (f : List Nat) (s i : Nat) : foldN f s (i + 1) = if s.testBit i then foldN f s i ||| f.getD i 0 else foldN f s i := by
  unfold foldN
  rw [List.range_succ, List.foldl_append]; rfl

end Cs
namespace Cs
open PySem L2
open PyProof.Rows (envOfC)
def sp_step (C : Addr) : Sp := fun vs H Q _ => ∃ (m d l : Addr) (al f : List Nat) (r : Nat → Nat) (v : Vd) (s c : Nat), vs = [.ref m, vn s, .str (S [c])] ∧ MV C m d l al f r v H ∧ c ∈ al ∧ ∀ H', Same H H' → Q (vn (stepF f r s c)) H'
theorem use_step {C m d l : Addr} {al f : List Nat} {r : Nat → Nat} {v : Vd} {s c : Nat} {H : Hp} {Q : VK} {E : XK} (M : MV C m d l al f r v H) (hc : c ∈ al) (k : ∀ H', Same H H' → Q (vn (stepF f r s c)) H') : sp_step C [.ref m, vn s, .str (S [c])] H Q E := ⟨m, d, l, al, f, r, v, s, c, rfl, M, hc, k⟩
def sp_accepts (C : Addr) (n : Nat) : Sp := fun vs H Q _ => ∃ (m d l : Addr) (al f : List Nat) (r : Nat → Nat) (v : Vd) (s : Nat), vs = [.ref m, vn s] ∧ MV C m d l al f r v H ∧ v.Dp n ∧ ∀ H', Same H H' → Q (.bl (v.h s)) H'
theorem use_accepts {C m d l : Addr} {n : Nat} {al f : List Nat} {r : Nat → Nat} {v : Vd} {s : Nat} {H : Hp} {Q : VK} {E : XK} (M : MV C m d l al f r v H) (hd : v.Dp n) (k : ∀ H', Same H H' → Q (.bl (v.h s)) H') : sp_accepts C n [.ref m, vn s] H Q E := ⟨m, d, l, al, f, r, v, s, rfl, M, hd, k⟩
section
variable {P : Program} {w : World} {K : PySem.W.Frag} {mg : Str → Option Value} {base : Heap}
theorem ok_step (B : Blt mg) {C : Addr} (T : MTxt K mg C) (F : AtM K C "step" "Machine.step" s_Machine_step ["self", "state", "character"]) : Mtd P w K mg base 1 C "step" ["self", "state", "character"] (sp_step C) := by
  refine F.ok (k := 0) sc_Machine_step (fun vs H Q E h => ?_) (fun f cdv A outer s H vs Q E hr h => ?_)
  · obtain ⟨m, d, l, al, f, r, v, s, c, rfl, _⟩ := h
    rfl
  · obtain ⟨m, d, l, al, f, r, v, st, c, rfl, M, hc, k⟩ := h
    refine ⟨_, (pss_cons (ps_set (i := 3) sc_Machine_step.nd rfl (Or.inl rfl) pe_int)
    (pss_cons (ps_for PassesOwn.never rfl (pi_enum (by rfl) B.enumerate (pa_cons (pe_fldK (K := K) (by rfl) (pv 0) rfl) pa_nil)) (pg_tupK (n := 2) (K := K) (by rfl) (by rfl) (pgs_cons (pg_name (i := 4) sc_Machine_step.nd rfl (Or.inl rfl)) (pgs_cons (pg_name (i := 5) sc_Machine_step.nd rfl (Or.inl rfl)) pgs_nil)))
    (pss_one (ps_if (pt_truthK (K := K) (by rfl) (pe_op op_and (pe_op op_shr (pv 1) (pv 4)) pe_int))
    (pss_one (ps_aug (i := 3) sc_Machine_step.nd rfl (Or.inl rfl) (pv 5) ip_or))
    pss_nil)))
    (pss_one (ps_ret (pe_op op_and (pv 3) (pe_dget (hu1 hr.units) (pe_fldK (K := K) (by rfl) (pv 0) rfl) (pv 2) (fun _ _ => rfl))))))), ?_⟩
    walk_at "go"
    refine M.fF T ?_
    walk_at "go"
    refine ⟨l, _, rfl, SqL.of M.l, ?_⟩
    refine for_enum (K := K) (a := l) (xs := f.map vn) (fun i σ H' => ∃ x4 x5 : Option V, σ = [some (.ref m), some (vn st), some (.str (S [c])), some (vn (foldN f st i)), x4, x5] ∧ Same H H') ?_ (fun i σ H' _ ⟨_, _, _, e⟩ => SqL.of (e _ _ M.l)) ?_ ?_
    · exact ⟨_, _, rfl, Same.refl _⟩
    · rintro i y σ H' t hi ⟨x4, x5, rfl, sm⟩ ht
      have hi' : i < f.length := by have := (List.getElem?_eq_some_iff.mp hi).1; rwa [List.length_map] at this
      rw [map_vn_get hi'] at hi
      cases hi
      have s2 : Same H (upd H' t (.tup [.int (i : Nat), vn (f.getD i 0)])) := Same.lay2 sm (L2.Same.free sm ht)
      refine rd_gtup (SqT.of upd_same) rfl ?_
      walk_at "go"
      refine ⟨_, _, rfl, rfl, by omega, ?_⟩
      walk_at "go"
      rw [bit_n]
      cases e : st.testBit i with
      | false =>
        refine ⟨false, rfl, ?_⟩
        walk_at "go"
        exact ⟨_, _, by rw [foldN_succ, e]; rfl, s2⟩
      | true =>
        refine ⟨true, rfl, ?_⟩
        walk_at "go"
        rw [bor_n]
        exact ⟨_, _, by rw [foldN_succ, e]; rfl, s2⟩
    · rintro σ H' ⟨x4, x5, rfl, sm⟩
      rw [List.length_map]
      walk_at "go"
      refine (M.same sm).fR T ?_
      walk_at "go"
      refine ⟨d, _, rfl, by rw [← rK_val (r := r) hc]; exact DGet.k (k := Sum.inr (S [c])) (sm _ _ M.d), ?_⟩
      walk_at "go"
      rw [band_n]
      exact k _ sm
theorem ok_accepts {C : Addr} {n k : Nat} (T : MTxt K mg C) (G__holds : Cal P w K mg base (k + 1) "_holds" ["verdict", "state"] (sp_holds n)) (F : AtM K C "accepts" "Machine.accepts" s_Machine_accepts ["self", "state"]) : Mtd P w K mg base (k + 2) C "accepts" ["self", "state"] (sp_accepts C n) := by
  refine F.ok (k := k + 1) sc_Machine_accepts (fun vs H Q E h => ?_) (fun f cdv A outer s H vs Q E hr h => ?_)
  · obtain ⟨m, d, l, al, f, r, v, s, rfl, _⟩ := h
    rfl
  · obtain ⟨m, d, l, al, f, r, v, st, rfl, M, hd, kq⟩ := h
    refine ⟨_, (pss_one (ps_ret (pe_c G__holds (hr.mono (by first | decide | omega)) (pa_cons (pe_fldK (K := K) (by rfl) (pv 0) rfl) (pa_cons (pv 1) pa_nil))))), ?_⟩
    walk_at "go"
    refine M.fV T fun x hx => ?_
    walk_at "go"
    refine use_holds hx hd fun H' sm => ?_
    walk_at "go"
    exact kq _ sm
end

end Cs
namespace Cs
open PySem L2
open PyProof.Rows (envOfC)
/-- what __init__ leaves -/
structure MD (C m : Addr) (al : List Nat) (H : Hp) (j : Nat) (A : Lg) (H' : Hp) : Prop where
  ex : ∃ (d l : Addr) (f : List Nat) (r : Nat → Nat) (v : Vd), MV C m d l al f r v H' ∧ Mach f r ∧ VOk f r f.length v A ∧ v.Dp j
  kp : ∀ b o, b ≠ m → H b = some o → H' b = some o
def sp_minit (C : Addr) (n j : Nat) : Sp := fun vs H Q _ => ∃ (m dx : Addr) (al : List Nat) (v : V) (p : Pt), vs = [.ref m, .str (S al), v] ∧ H m = some (.ins C dx []) ∧ al.Nodup ∧ al.length ≤ 60 ∧ p.Jd al n j ∧ Tp H v p.d ∧ p.wd ≤ 790 ∧ ∀ H', MD C m al H j p.L H' → Q .non H'
theorem pf1 (d : Addr) : putF "_reading" (.ref d) [] = ([("_reading", V.ref d)] : List (Str × V)) := rfl
theorem pf2 (d l : Addr) : putF "_following" (.ref l) ([("_reading", V.ref d)] : List (Str × V)) = mF d l := by
  have h : ¬ (("_reading" : Str) = "_following") := by decide +kernel
  show (if ("_reading" : Str) = "_following" then _ else (("_reading" : Str), V.ref d) :: putF "_following" (.ref l) []) = mF d l
  rw [if_neg h]; rfl
theorem pf3 (d l : Addr) (x : V) : putF "_verdict" x (mF d l) = mFv d l x := by
  have h1 : ¬ (("_reading" : Str) = "_verdict") := by decide +kernel
  have h2 : ¬ (("_following" : Str) = "_verdict") := by decide +kernel
  show (if ("_reading" : Str) = "_verdict" then _ else (("_reading" : Str), V.ref d) :: (if ("_following" : Str) = "_verdict" then _ else (("_following" : Str), V.ref l) :: putF "_verdict" x [])) = mFv d l x
  rw [if_neg h1, if_neg h2]; rfl
theorem rK_put_new {al : List Nat} {r : Nat → Nat} {c n : Nat} (h : c ∉ al) : putK (rK al r) (Sum.inr (S [c])) (vn n) = rK al r ++ [(Sum.inr (S [c]), vn n)] := by
  unfold putK
  rw [if_neg]
  rw [List.any_eq_true]
  rintro ⟨kv, hk, e⟩
  obtain ⟨x, hx, rfl⟩ := List.mem_map.mp hk
  have := key_inj (of_decide_eq_true e)
  subst this
  exact h hx
theorem rK_snoc {al : List Nat} {i c : Nat} (h : al[i]? = some c) (hn : al.Nodup) : putK (rK (al.take i) fun _ => 0) (Sum.inr (S [c])) (vn 0) = rK (al.take (i + 1)) fun _ => 0 := by
  have hni : c ∉ al.take i := by
    have e := hn
    rw [← List.take_append_drop i al] at e
    obtain ⟨h1, h2⟩ := List.getElem?_eq_some_iff.mp h
    rw [List.drop_eq_getElem_cons h1, h2] at e
    exact fun q => (List.nodup_append.mp e).2.2 c q c List.mem_cons_self rfl
  rw [rK_put_new hni, take_snoc h]
  unfold rK
  rw [List.map_append]; rfl
theorem mach0 : Mach [0] fun _ => 0 := ⟨fun c m h => by simp at h, fun k m h => by
  unfold Ed at h
  cases k <;> simp at h, by simp⟩
section
variable {P : Program} {w : World} {K : PySem.W.Frag} {mg : Str → Option Value} {base : Heap}
theorem ok_minit {C : Addr} {n j k : Nat} (T : MTxt K mg C) (G__judge : Mtd P w K mg base (k + 1) C "_judge" ["self", "pattern"] (sp_judge C n j)) (F : AtM K C "__init__" "Machine.__init__" s_Machine___init__ ["self", "alphabet", "pattern"]) :
    Mtd P w K mg base (k + 2) C "__init__" ["self", "alphabet", "pattern"] (sp_minit C n j) := by
  refine F.ok (k := k + 1) sc_Machine___init__ (fun vs H Q E h => ?_) (fun f cdv A outer s H vs Q E hr h => ?_)
  · obtain ⟨m, dx, al, v, p, rfl, _⟩ := h
    rfl
  · obtain ⟨m, dx, al, v, p, rfl, em, hnd, hL, hj, hv, hw, kq⟩ := h
    refine ⟨_, (pss_cons (ps_fldK (K := K) (by rfl) (pv 0) (pe_dc (own := [("character", 3)]) rfl sc_Machine___init__.nd (pi_str (pv 1)) (blkOk_by (N := ["self", "alphabet", "pattern", "character"]) (sc := defScope s_Machine___init__) (by decide +kernel)) (fun _ _ _ _ _ => (pg_name (i := 3) sc_Machine___init__.nd rfl (Or.inl rfl))) (fun _ _ _ _ _ => pts_nil) (fun _ _ _ _ _ => (pv 3)) (fun _ _ _ _ _ => pe_int)) rfl)
    (pss_cons (ps_fldK (K := K) (by rfl) (pv 0) (pe_lst (pa_cons pe_int pa_nil)) rfl)
    (pss_one (ps_fldK (K := K) (by rfl) (pv 0) (pe_md T.cl G__judge (hr.mono (by first | decide | omega)) (pv 0) (pa_cons (pv 2) pa_nil)) rfl)))), ?_⟩
    walk_at "go"
    intro D hD
    have nDm : D ≠ m := fun z => by rw [z, em] at hD; cases hD
    refine dc_str (x := al) (fun i H' => H' D = some (.dK (rK (al.take i) fun _ => 0)) ∧ Same H H') ?_ ?_ ?_
    · exact ⟨upd_same, Same.lay hD⟩
    · rintro i c H' hi ⟨eD, sm⟩
      walk_at "go"
      refine ⟨rfl, ?_⟩
      walk_at "go"
      refine ⟨_, Sum.inr (S [c]), rfl, eD, by rw [rK_len, List.length_take, PySem.sizeLine_eq]; omega, ?_, Same.lay2 sm hD⟩
      rw [← rK_snoc hi hnd]; exact upd_same
    · rintro H1 ⟨eD, sm⟩
      rw [List.take_length] at eD
      walk_at "go"
      refine ⟨m, C, dx, [], rfl, sm _ _ em, T.cl, T.nR, by show 0 < 1000; decide, ?_⟩
      rw [pf1]
      walk_at "go"
      refine ⟨by show 1 ≤ sizeLine; decide, fun l hl => ?_⟩
      have nlm : l ≠ m := fun z => by rw [z, upd_same] at hl; cases hl
      have nlD : l ≠ D := fun z => by rw [z, upd_ne nDm, eD] at hl; cases hl
      have hl0 : H1 l = none := by rw [upd_ne nlm] at hl; exact hl
      walk_at "go"
      refine ⟨m, C, dx, _, rfl, by rw [upd_ne nlm.symm]; exact upd_same, T.cl, T.nF, by show 1 < 1000; decide, ?_⟩
      rw [pf2]
      have M0 : MS C m D l al [0] (fun _ => 0) (upd (upd (upd H1 m (.ins C dx [("_reading", V.ref D)])) l (.lst [.int 0])) m (.ins C dx (mF D l))) :=
        ⟨⟨dx, upd_same⟩, by rw [upd_ne nDm, upd_ne nlD.symm, upd_ne nDm]; exact eD, by rw [upd_ne nlm]; exact upd_same⟩
      have keep : ∀ b o, b ≠ m → H b = some o → upd (upd (upd H1 m (.ins C dx [("_reading", V.ref D)])) l (.lst [.int 0])) m (.ins C dx (mF D l)) b = some o := fun b o nb e => by
        have e1 := sm b o e
        have nl : b ≠ l := fun z => by rw [z, hl0] at e1; cases e1
        rw [upd_ne nb, upd_ne nl, upd_ne nb]; exact e1
      have hv1 : Tp (upd (upd (upd H1 m (.ins C dx [("_reading", V.ref D)])) l (.lst [.int 0])) m (.ins C dx (mF D l))) v p.d := hv.ts fun b xs e => keep b _ (ne_of e em (by intro z; cases z)) e
      walk_at "go"
      refine M0.me ?_
      walk_at "go"
      refine use_judge M0 mach0 (by omega) hj hv1 (by show 1 + p.wd ≤ 800; omega) fun x H2 q => ?_
      obtain ⟨f1, r1, vd, M1, k1, g1, Mc1, vk, tv, dp, l1⟩ := q.ex
      walk_at "go"
      obtain ⟨dx', em1⟩ := M1.m
      refine ⟨m, C, dx', _, rfl, em1, T.cl, T.nV, by show 2 < 1000; decide, ?_⟩
      rw [pf3]
      have k2 : KV' (fun _ => True) H2 (upd H2 m (.ins C dx' (mFv D l x))) := ⟨fun b xs e => by rw [upd_ne (ne_of e em1 (by intro z; cases z))]; exact e, fun b xs _ e => by rw [upd_ne (ne_of e em1 (by intro z; cases z))]; exact e⟩
      refine kq _ ⟨⟨D, l, f1, r1, vd, ⟨⟨dx', x, upd_same, (tv.imp fun _ _ => trivial).kp k2⟩, by rw [upd_ne nDm]; exact M1.d, by rw [upd_ne nlm]; exact M1.l⟩, Mc1, vk, dp⟩, fun b o nb e => ?_⟩
      rw [upd_ne nb]
      refine k1 b o ?_ ?_ (keep b o nb e)
      · intro z; rw [z, hD] at e; cases e
      · intro z; rw [z] at e; have := sm _ _ e; rw [hl0] at this; cases this
end

end Cs
namespace Cs
open PySem L2
open PyProof.Rows (envOfC)
/-! an exception of an own class as a value -/
def ExV (cls : Value) (d : Option Addr) (a : Addr) : HO := .ext fun h => ∃ (oe : Obj) (vs : Array Value), h.get? a = some oe ∧ Zc cls d oe ∧ oe.data = .fields vs
theorem exV_ok {P : Program} {w : World} {H : Hp} {h : Heap} {a : Addr} {cls : Value} {d : Option Addr} {oe : Obj} {vs : Array Value} (e : h.get? a = some oe) (z : Zc cls d oe) (dt : oe.data = .fields vs) : ObjOk P w H h a (ExV cls d a) :=
  ⟨⟨oe, vs, e, z, dt⟩, ⟨oe, e⟩, fun _ _ ⟨o, v, q, r⟩ k => ⟨o, v, k o q, r⟩⟩
/-- what may be raised may be a value -/
theorem pe_made {X : Cx} {e : Expr} {t : St → Hp → XK → Prop} (he : PMk X e t) : PE X e (fun σ H Q => t σ H fun cls d H' => ∀ a, H' a = none → Q (.ref a) (upd H' a (ExV cls d a))) := by
  constructor
  intro pins s σ H Q I h
  refine wpAny_mono (he pins s σ H _ I h) (fun u s1 hu => ?_) fun _ _ x => x
  obtain ⟨a, oe, vs, sI, H', cls, d, rfl, J, k, hne, ha, hz, hd, _, na, os, ag, _, q⟩ := hu
  have L := J.laidN (t' := s1.toks) k hne na (exV_ok ha hz hd)
  exact ⟨.ref a, _, ⟨L.ok, by rw [os]; exact L.os, ag, L.base, L.loc, L.cell, L.free, L.freeC, L.pin, L.hok, L.len⟩, rfl, q a na⟩
/-- its field -/
def tFieldV (K : PySem.W.Frag) (f : Str) (te : TE) : TE := fun σ H Q => te σ H fun x H1 => ∃ (a C dd : Addr) (fs : List (Str × V)) (v : V), x = .ref a ∧ H1 a = some (ExV (.ref C) (some dd) a) ∧ H1 dd = some (.xd fs) ∧ XfC K C ∧ PySem.W.findIn K (.ref C) f = some none ∧ fs.lookup f = some v ∧ Q v H1
theorem pe_fieldV {X : Cx} {e : Expr} {te : TE} {pos : Pos} {n : Str} (he : PE X e te) (hb : attributeBase e n X.env (eval e X.env) = eval e X.env := by rfl) : PE X (.Attribute e n pos) (tFieldV X.K n te) := by
  constructor
  intro pins s σ H Q I h
  refine attr_of hb (thn (he.run pins s σ H _ I h) fun u s1 hh => ?_)
  obtain ⟨x, H1, I1, rx, a, C, dd, fs, v, rfl, ea, ed, T, hno, l, q⟩ := hh
  cases rx
  obtain ⟨⟨oe, vs, hget, hz, hd⟩, _⟩ := I1.hok a _ ea
  have hx : ObjOk X.prog X.w H1 s1.heap dd (.xd fs) := I1.hok dd _ ed
  obtain ⟨mA, hns, hr⟩ := hx
  obtain ⟨od, ho, hl⟩ := lookIn_ns hns
  obtain ⟨u, hu, ru⟩ := RelO.some_of (v := v) (o := mA n) (by rw [← l]; exact hr n)
  have J : PySem.W.InstAt s1.heap a oe C (some od) := ⟨hget, hz.1, by unfold PySem.W.notCls; rw [hd] <;> rfl, by rw [hz.2]; exact ho⟩
  exact HandSPX.exc_get I1.kIn J T.ga T.gg T.exC (PySem.W.findObj_own T.hdC hno rfl (by rw [hl, hu])) (handed_of ru) ⟨v, H1, I1.tok _, ru, q⟩
/-- isinstance(e, c), with fields or without -/
def rIsV (K : PySem.W.Frag) : List V → Hp → VK → Prop := fun xs H Q => ∃ (a D : Addr) (d : Option Addr) (c : V) (cv : Value) (b : Bool), xs = [.ref a, c] ∧ H a = some (ExV (.ref D) d a) ∧ (d = none ∨ ∃ dd fs, d = some dd ∧ H dd = some (.xd fs)) ∧ ExcC K D ∧ (∀ u, RelV c u → u = cv) ∧ PySem.W.kitOne K (.ref D) cv = some b ∧ Q (.bl b) H
theorem call_isV {X : Cx} {K : PySem.W.Frag} (hK : X.K = K) : CallR X (.builtin "isinstance") (rIsV K) := by
  subst hK
  rintro pins s σ H xs us Q I r ⟨a, D, d, c, cv, b, rfl, ea, dct, C, hcv, e, q⟩
  cases r with
  | cons rx rr =>
    cases rr with
    | cons rt rr =>
      cases rr
      cases rx
      have ec := hcv _ rt
      subst ec
      obtain ⟨⟨oe, vs, hget, hz, hd⟩, _⟩ := I.hok a _ ea
      obtain ⟨od, J⟩ : ∃ od, PySem.W.InstAt s.heap a oe D od := by
        rcases dct with rfl | ⟨dd, fs, rfl, ed⟩
        · exact ⟨none, hget, hz.1, by unfold PySem.W.notCls; rw [hd] <;> rfl, by rw [hz.2]; trivial⟩
        · have hx : ObjOk X.prog X.w H s.heap dd (.xd fs) := I.hok dd _ ed
          obtain ⟨mA, hns, hr⟩ := hx
          obtain ⟨od, ho, hl⟩ := lookIn_ns hns
          exact ⟨some od, hget, hz.1, by unfold PySem.W.notCls; rw [hd] <;> rfl, by rw [hz.2]; exact ho⟩
      have cls : (PySem.W.clsIn X.K D).isSome = true := by
        obtain ⟨cd, hc, _⟩ := PySem.W.any_some C.hd
        rw [hc]; rfl
      exact PySem.W.kia_one (PySem.W.kitx_exc cls C.hg C.hk C.hs C.ha C.hn C.ht C.hm) I.kIn J e (fun z => nomatch z) fun tk => ⟨.bl b, H, I.kept (t' := tk) fun _ _ z => z, rfl, q⟩
def tExv0 (C : Addr) : TE := fun _ H Q => ∀ a, H a = none → Q (.ref a) (upd H a (ExV (.ref C) none a))
/-- C(), C an own class without own __init__ -/
theorem pe_exv0 {X : Cx} {C : Addr} {bmB : List Value} {B newId initId : String} {x : Str} {p pos : Pos} (F : ExcBaseFacts B newId initId bmB) (q : PySem.W.excIn X.K C bmB newId = true) (gC : X.mg x = some (.ref C)) (kC : PySem.W.keepIn X.K (.ref C) = true) (hg : Gl X x := by rfl) (hdb : (x == ("__debug__" : Str)) = false := by decide) :
    PE X (.Call (.Name x p) [] [] pos) (tExv0 C) := by
  constructor
  intro pins s σ H Q I h
  refine wpAny_Call_Name_kw (ld_glob I hg gC ?_ hdb)
  refine PySem.W.callWith_K0 I.kIn kC ?_
  show wpAny _ _ (call (.ref C) []) _ _ _
  obtain ⟨bm, N, nm, qn, bs, hdct, sn, sub, ab, col, dd, k0, k1, k2, k3, k5, mN, hC, hN, hni, T⟩ := exc_obj I.kIn q
  refine wpAny_call_exc_subT F T hC hN hni (fun h' a made => ?_) (by show 0 ≤ sizeLine; decide)
  have free : H a = none := I.hok.gone made.new
  obtain ⟨t, there, _, _⟩ := made.there
  exact ⟨.ref a, _, I.laidN made.keeps made.new free (exV_ok there ⟨rfl, rfl⟩ rfl), rfl, h a free⟩

end Cs
namespace Cs
open PySem L2
open PyProof.Rows (envOfC)
/-! one own exception with fields: made, raised -/
def sp_init (C : Addr) (names : List Str) : Sp := fun vs H Q _ => ∃ (a : Addr) (ys : List V), vs = .ref a :: ys ∧ ys.length = names.length ∧ H a = some (exo a C none) ∧
  ∀ (dx : Addr) (H' : Hp), H dx = none → dx ≠ a → H' a = some (exo a C (some dx)) → H' dx = some (exd dx (names.zip ys).reverse) → (∀ b, b ≠ a → b ≠ dx → H' b = H b) → Q .non H'
theorem rd_ost {K : PySem.W.Frag} {f : Str} {to te : TE} {D : Ends} {σ : St} {H : Hp} (h : te σ H fun y H1 => to σ H1 fun x H2 => ∃ a C : Addr, x = .ref a ∧ OexC K C ∧ PySem.W.findIn K (.ref C) f = some none ∧
    ((H2 a = some (exo a C none) ∧ ∀ dx, H2 dx = none → dx ≠ a → D.nx σ (upd (upd H2 dx (exd dx [(f, y)])) a (exo a C (some dx)))) ∨ ∃ (dx : Addr) (fs : List (Str × V)), H2 a = some (exo a C (some dx)) ∧ H2 dx = some (exd dx fs) ∧ fs.length ≤ 900 ∧ D.nx σ (upd H2 dx (exd dx ((f, y) :: fs))))) : tOst K f to te D σ H := h
structure NewAt (P : Program) (w : World) (K : PySem.W.Frag) (mg : Str → Option Value) (base : Heap) (x : Str) (C : Addr) (names : List Str) : Prop where
  ex : ∃ (fI : Addr) (fd : FuncData) (ps : List Str), mg x = some (.ref C) ∧ OexC K C ∧ PySem.W.findIn K (.ref C) "__init__" = some (some (.ref fI)) ∧ PySem.W.typeIn K (.ref fI) = some (.type "function") ∧ FnOk P w K mg base CX0 1 fI fd ps (sp_init C names) ∧ Binds K fd ps []
/-- raise x(..) -/
def tRaiseN (C : Addr) (names : List Str) (W : WX) (ta : TA) : L2.TS := fun _ σ H => ta σ H fun ys H1 => ys.length = names.length ∧ ys.length ≤ 1000 ∧ ∀ (d : Addr) (H' : Hp), H1 d = none → Same H1 H' → H' d = some (.xd (names.zip ys).reverse) → W (.ref C) (some d) σ H'
theorem rd_raiseN {C : Addr} {names : List Str} {W : WX} {ta : TA} {D : Ends} {σ : St} {H : Hp} (h : ta σ H fun ys H1 => ys.length = names.length ∧ ys.length ≤ 1000 ∧ ∀ (d : Addr) (H' : Hp), H1 d = none → Same H1 H' → H' d = some (.xd (names.zip ys).reverse) → W (.ref C) (some d) σ H') : tRaiseN C names W ta D σ H := h
theorem ps_raiseN {X : Cx} {W : WX} {x : Str} {C : Addr} {names : List Str} {e : Expr} {es : List Expr} {ta : TA} {p pos pos2 : Pos} (hc : X.calm = true) (tk : Takes X W) (M : NewAt X.prog X.w X.K X.mg X.base x C names) (hr : Room 2 X.A) (ha : PA X (e :: es) ta) (mono : ∀ σ H R R', (∀ ys H1, R ys H1 → R' ys H1) → ta σ H R → ta σ H R')
    (hg : Gl X x := by rfl) (hdb : (x == ("__debug__" : Str)) = false := by decide)
    (he : starEach (e :: es) X.env = (false, eval e X.env) :: starEach es X.env := by rfl) (hpl : (backTo pos (starEach es X.env)).any (·.1) = false := by rfl) : PS X (.Raise (some (.Call (.Name x p) (e :: es) [] pos)) none pos2) (tRaiseN C names W ta) := by
  obtain ⟨fI, fd, ps, hm, hO, iC, tI, F1, hb⟩ := M.ex
  have base := ps_raise (pos := pos2) hc tk (pmk_oex (p := p) hO iC tI F1 hr hb .nil pass0 hg hm ha hdb he hpl)
  constructor
  intro pins s σ H D I h
  refine base.run pins s σ H D I ?_
  show tMkO C (sp_init C names) [] ta σ H _
  refine mono σ H _ _ (fun ys H1 q => ?_) h
  obtain ⟨l1, l2, k⟩ := q
  refine ⟨l2, fun a ha' => ?_⟩
  rw [List.append_nil]
  refine ⟨a, ys, rfl, l1, upd_same, fun dx H' n1 n2 ea ed keep => ?_⟩
  have nd : H1 dx = none := by rw [upd_ne n2] at n1; exact n1
  refine ⟨rfl, dx, _, ea, ed, nd, ?_⟩
  refine k dx _ nd (fun b o q => ?_) upd_same
  have b1 : b ≠ a := ne_of_none q ha'
  have b2 : b ≠ dx := ne_of_none q nd
  rw [upd_ne b2, del_ne b1, keep b b1 b2, upd_ne b1]; exact q

end Cs
namespace Cs
open PySem L2
open PyProof.Rows (envOfC)
/-! what the top has left, for the classes; the towers of the machine -/
def eB (K : PySem.W.Frag) (C : Addr) : Bool :=
  decide (PySem.W.findIn K (.ref C) "__getattribute__" = some (some (.builtin "BaseException.__getattribute__"))) && (decide (PySem.W.findIn K (.ref C) "__getattr__" = some none) && (decide (PySem.W.subIn K (.ref C) (.type "BaseException") = some true) && (PySem.W.hasDictIn K C &&
    (decide (PySem.W.findIn K (.ref C) "__class__" = some (some (.builtin "object.__class__"))) && (decide (PySem.W.specialIn K (.builtin "object.__class__") "__get__" = some (some (.builtin "getset_descriptor.__get__"))) && (decide (PySem.W.takesIn K (.builtin "object.__class__") = some true) && (decide (PySem.W.mroIn K C (.type "object") = some true) && PySem.W.keepIn K (.ref C))))))))
theorem eB_ok {K : PySem.W.Frag} {C : Addr} (h : eB K C = true) : ExcC K C ∧ XfC K C ∧ PySem.W.keepIn K (.ref C) = true := by
  simp only [eB, Bool.and_eq_true, decide_eq_true_eq] at h
  obtain ⟨h1, h2, h3, h4, h5, h6, h7, h8, h9⟩ := h
  exact ⟨⟨h1, h2, h3, h4, h5, h6, h7, h8⟩, ⟨h1, h2, h3, h4⟩, h9⟩
theorem eB_mk {K : PySem.W.Frag} {C : Addr} (h1 : PySem.W.findIn K (.ref C) "__getattribute__" = some (some (.builtin "BaseException.__getattribute__"))) (h2 : PySem.W.findIn K (.ref C) "__getattr__" = some none) (h3 : PySem.W.subIn K (.ref C) (.type "BaseException") = some true) (h4 : PySem.W.hasDictIn K C = true)
    (h5 : PySem.W.findIn K (.ref C) "__class__" = some (some (.builtin "object.__class__"))) (h6 : PySem.W.specialIn K (.builtin "object.__class__") "__get__" = some (some (.builtin "getset_descriptor.__get__"))) (h7 : PySem.W.takesIn K (.builtin "object.__class__") = some true) (h8 : PySem.W.mroIn K C (.type "object") = some true) (h9 : PySem.W.keepIn K (.ref C) = true) : eB K C = true := by
  simp only [eB, Bool.and_eq_true, decide_eq_true_eq]
  exact ⟨h1, h2, h3, h4, h5, h6, h7, h8, h9⟩
theorem cls_some {K : PySem.W.Frag} {C : Addr} (h : PySem.W.hasDictIn K C = true) : (PySem.W.clsIn K C).isSome = true := by
  obtain ⟨cd, hc, _⟩ := PySem.W.any_some h
  rw [hc]; rfl
theorem ys1 {ys : List V} {n : Str} (h : ys.length = [n].length) : ∃ y, ys = [y] := by
  match ys, h with
  | [y], _ => exact ⟨y, rfl⟩
theorem new_mk {P : Program} {w : World} {K : PySem.W.Frag} {mg : Str → Option Value} {base : Heap} {x qn : Str} {C fI : Addr} {names ps : List Str} {st : Stmt} {oc : Value} {od an : Option Addr} {osl : Array (Option Value)} {kV dc pm cd ct : Value}
    {nm q : Str} {N : Addr} {bs bm : List Value} {sn : List Str} {sub : List Value} {ab : Bool} {col : Option Bool} {dd : Option Addr} {k0 k1 k2 k3 k5 : Option Value}
    (g : mg x = some (.ref C)) (o : K.lookup C = some (PySem.excClassObj nm q C N bs bm true sn sub ab col dd k0 k1 k2 k3 k5 "ValueError.__new__")) (r : PySem.HandSPX.refsVE bm = true)
    (sa : PySem.W.findIn K (.ref C) "__setattr__" = some (some (.builtin "object.__setattr__"))) (tC : PySem.W.typeIn K (.ref C) = some (.type "type")) (e : eB K C = true)
    (iC : PySem.W.findIn K (.ref C) "__init__" = some (some (.ref fI))) (tI : PySem.W.typeIn K (.ref fI) = some (.type "function"))
    (l : K.lookup fI = some ⟨oc, od, .func (PySem.W.fnOf "__init__" qn (defArgs st) (defBody st) (defScope st) .none kV dc pm an cd ct), osl⟩) (c : PySem.W.codeIn K cd qn = true) (k : PySem.W.keepIn K (.ref fI) = true)
    (b : ∀ (kV dc pm : Value) (an : Option Addr) (cd ct : Value) (us : List Value), us.length = ps.length → bindArgs (PySem.W.fnOf "__init__" qn (defArgs st) (defBody st) (defScope st) .none kV dc pm an cd ct) ⟨us, []⟩ = pure (ps.zip us))
    (ok : OexC K C → ∀ {f : Addr} {fd : FuncData}, Fun K "__init__" qn st f fd → FnOk P w K mg base CX0 1 f fd ps (sp_init C names)) : NewAt P w K mg base x C names := by
  have hO : OexC K C := ⟨⟨nm, q, N, bs, bm, sn, sub, ab, col, dd, k0, k1, k2, k3, k5, o, r⟩, sa, (eB_ok e).1.hs, tC, (eB_ok e).2.2⟩
  have F := fun_mk l c k
  exact ⟨⟨fI, _, ps, g, hO, iC, tI, ok hO F, F.binds b⟩⟩


theorem atm_mk {K : PySem.W.Frag} {C : Addr} {m q : Str} {st : Stmt} {ps : List Str} {f : Addr} {oc : Value} {od an : Option Addr} {osl : Array (Option Value)} {kV dc pm cd ct : Value}
    (a : PySem.W.findIn K (.ref C) m = some (some (.ref f))) (i : PySem.W.isFn K (.ref f) = true) (l : K.lookup f = some ⟨oc, od, .func (PySem.W.fnOf m q (defArgs st) (defBody st) (defScope st) .none kV dc pm an cd ct), osl⟩) (c : PySem.W.codeIn K cd q = true) (k : PySem.W.keepIn K (.ref f) = true)
    (b : ∀ (kV dc pm : Value) (an : Option Addr) (cd ct : Value) (us : List Value), us.length = ps.length → bindArgs (PySem.W.fnOf m q (defArgs st) (defBody st) (defScope st) .none kV dc pm an cd ct) ⟨us, []⟩ = pure (ps.zip us)) : AtM K C m q st ps :=
  ⟨⟨f, _, fun_mk l c k, ⟨a, i, k⟩, (fun_mk l c k).binds b⟩⟩
/-- all that is told of the machine -/
structure MachAt (K : PySem.W.Frag) (mg : Str → Option Value) (C : Addr) : Prop where
  g : mg "Machine" = some (.ref C)
  T : MTxt K mg C
  mks : PySem.W.makesIn K C = true
  kc : PySem.W.keepIn K (.ref C) = true
  m0 : AtM K C "__init__" "Machine.__init__" s_Machine___init__ ["self", "alphabet", "pattern"]
  m1 : AtM K C "step" "Machine.step" s_Machine_step ["self", "state", "character"]
  m2 : AtM K C "accepts" "Machine.accepts" s_Machine_accepts ["self", "state"]
  m3 : AtM K C "_judge" "Machine._judge" s_Machine__judge ["self", "pattern"]
  m4 : AtM K C "_piece" "Machine._piece" s_Machine__piece ["self", "pattern"]
  m5 : AtM K C "_place" "Machine._place" s_Machine__place ["self", "characters"]
  m6 : AtM K C "_copies" "Machine._copies" s_Machine__copies ["self", "part", "low", "high"]
  m7 : AtM K C "_loop" "Machine._loop" s_Machine__loop ["self", "part"]
  m8 : AtM K C "_chain" "Machine._chain" s_Machine__chain ["self", "pieces"]
  m9 : AtM K C "_link" "Machine._link" s_Machine__link ["self", "before", "after"]
theorem mach_mk {K : PySem.W.Frag} {h : Heap} {mg : Str → Option Value} {C : Addr} (X : K.In h) (G : h.Ns mainGlobals mg) (aC : PySem.W.nsIn K mainGlobals "Machine" = some (some (.ref C)))
    (pg : PySem.W.plainGet K C Str.empty = true) (hd : PySem.W.hasDictIn K C = true) (po : PySem.W.plainOver K C = true) (sa : PySem.W.findIn K (.ref C) "__setattr__" = some (some (.builtin "object.__setattr__")))
    (nR : PySem.W.findIn K (.ref C) "_reading" = some none) (nF : PySem.W.findIn K (.ref C) "_following" = some none) (nV : PySem.W.findIn K (.ref C) "_verdict" = some none) (cS : ∃ u, mg "START" = some u ∧ RelV (.int 1) u)
    (mk : PySem.W.makesIn K C = true) (kc : PySem.W.keepIn K (.ref C) = true)
    (m0 : AtM K C "__init__" "Machine.__init__" s_Machine___init__ ["self", "alphabet", "pattern"])
    (m1 : AtM K C "step" "Machine.step" s_Machine_step ["self", "state", "character"])
    (m2 : AtM K C "accepts" "Machine.accepts" s_Machine_accepts ["self", "state"])
    (m3 : AtM K C "_judge" "Machine._judge" s_Machine__judge ["self", "pattern"])
    (m4 : AtM K C "_piece" "Machine._piece" s_Machine__piece ["self", "pattern"])
    (m5 : AtM K C "_place" "Machine._place" s_Machine__place ["self", "characters"])
    (m6 : AtM K C "_copies" "Machine._copies" s_Machine__copies ["self", "part", "low", "high"])
    (m7 : AtM K C "_loop" "Machine._loop" s_Machine__loop ["self", "part"])
    (m8 : AtM K C "_chain" "Machine._chain" s_Machine__chain ["self", "pieces"])
    (m9 : AtM K C "_link" "Machine._link" s_Machine__link ["self", "before", "after"])
    : ∃ C, MachAt K mg C := ⟨C, PySem.W.mg_of X G aC, ⟨⟨pg, hd, po, sa⟩, nR, nF, nV, cS⟩, mk, kc, m0, m1, m2, m3, m4, m5, m6, m7, m8, m9⟩
section
variable {P : Program} {w : World} {K : PySem.W.Frag} {mg : Str → Option Value} {base : Heap}
theorem Mtd.mkr {k : Nat} {x : Str} {C : Addr} {ps : List Str} {sp : Sp} (M : Mtd P w K mg base k C "__init__" ps sp) (mk : PySem.W.makesIn K C = true) (kc : PySem.W.keepIn K (.ref C) = true) (g : mg x = some (.ref C)) : Mkr P w K mg base k x C ps sp := by
  obtain ⟨f, fd, me, b, F⟩ := M.ex
  exact ⟨f, fd, ⟨mk, me.at_, me.fn, kc⟩, b, F, g⟩
theorem piece_tower (B : Blt mg) {C : Addr} (M : MachAt K mg C) (Fc : At K mg "_choice" s__choice ["pieces"]) : ∀ n, Mtd P w K mg base (3 * n + 4) C "_piece" ["self", "pattern"] (sp_piece C n)
  | 0 => ok_piece (k := 0) M.T (ok_place B M.T M.m5) (ok_choice Fc) (ok_chain M.T (ok_link B M.T M.m9) M.m8) (M.m4.none 0 sc_Machine__piece) (M.m6.none 2 sc_Machine__copies) M.m4
  | n + 1 => by
    have ih := piece_tower B M Fc n
    have Gl := ok_link (P := P) (w := w) (base := base) B M.T M.m9
    have Go := ok_loop (n := n) (k := 3 * n + 3) M.T Gl ih M.m7
    have Gc := ok_copies (n := n) (k := 3 * n + 3) B M.T ih Go M.m6
    exact ok_piece (n := n + 1) (k := 3 * n + 3) M.T (ok_place B M.T M.m5) (ok_choice Fc) (ok_chain M.T Gl M.m8) ih Gc M.m4
theorem judge_tower (B : Blt mg) {C : Addr} (M : MachAt K mg C) (Fc : At K mg "_choice" s__choice ["pieces"]) : ∀ j, Mtd P w K mg base (j + 17) C "_judge" ["self", "pattern"] (sp_judge C 4 j)
  | 0 => ok_judge (n := 4) (j := 0) (k := 15) M.T (piece_tower B M Fc 4) (M.m3.none 15 sc_Machine__judge) M.m3
  | j + 1 => ok_judge (n := 4) (j := j + 1) (k := j + 16) M.T ((piece_tower B M Fc 4).mono (by omega)) (judge_tower B M Fc j) M.m3
theorem holds_tower (B : Blt mg) (Fh : At K mg "_holds" s__holds ["verdict", "state"]) : ∀ n, Cal P w K mg base (n + 1) "_holds" ["verdict", "state"] (spH n)
  | 0 => Fh.none 0 sc__holds
  | n + 1 => ok_holds1 (n := n) (k := n) B (holds_tower B Fh n) Fh
end

end Cs
namespace Cs
open PySem L2
open PyProof.Rows (envOfC)
/-! a comprehension over a text -/
theorem lc_text {x : List Nat} {g : TG} {tt : TT} {te : TE} {vs : List Nat} {σ : St} {H1 : Hp} {D : Addr} {Qd : Hp → Prop} (Pv : Nat → Hp → Prop) (h0 : Pv 0 (upd H1 D (.lst [])))
    (hs : ∀ i c H, x[i]? = some c → Pv i H → g (.str (S [c])) (wipe σ vs) H fun σ2 H2 => wipe σ2 vs = wipe σ vs ∧ tt σ2 H2 fun b H3 =>
      if b = true then te σ2 H3 fun y H4 => ∃ acc, H4 D = some (.lst acc) ∧ acc.length < sizeLine ∧ Pv (i + 1) (upd H4 D (.lst (acc ++ [y]))) else Pv (i + 1) H3) (hd : ∀ H, Pv x.length H → Qd H) :
    ∃ W : Nat → Nat → Hp → Prop, (∃ m, W 0 m (upd H1 D (.lst []))) ∧ ∀ i m H, W i m H →
      ((Its (S x)).stop i H ∧ Qd H) ∨ ((Its (S x)).go i H ∧ ∃ Nx : Hp → Prop, (∀ H', Nx H' → ∃ m', m' < m ∧ W (i + 1) m' H') ∧ ∀ y H', (Its (S x)).yld i H y H' → g y (wipe σ vs) H' fun σ2 H2 => wipe σ2 vs = wipe σ vs ∧ tt σ2 H2 fun b H3 =>
        if b = true then te σ2 H3 fun y H4 => ∃ acc, H4 D = some (.lst acc) ∧ acc.length < sizeLine ∧ Nx (upd H4 D (.lst (acc ++ [y]))) else Nx H3) := by
  refine ⟨fun i m H => m = x.length - i ∧ i ≤ x.length ∧ Pv i H, ⟨x.length, by simp, Nat.zero_le _, h0⟩, ?_⟩
  rintro i m H ⟨rfl, hi, p⟩
  have sz : (S x).cps.size = x.length := by simp [S]
  by_cases hlt : i < x.length
  · refine .inr ⟨show i < (S x).cps.size by omega, Pv (i + 1), fun H' p' => ⟨x.length - (i + 1), by omega, rfl, hlt, p'⟩, fun y H' hy => ?_⟩
    obtain ⟨e, c, hc, y⟩ := hy
    subst e y
    exact hs i c _ (by rw [← Array.getElem?_toList] at hc; exact hc) p
  · have e : i = x.length := by omega
    subst e
    exact .inl ⟨show (S x).cps.size ≤ x.length by omega, hd H p⟩

end Cs
namespace Cs
open PySem L2
open PyProof.Rows (envOfC)
/-! a dict whose keys are pairs of a pattern and a text -/
open PySem.W in
abbrev NK := NestedKey
mutual
def nkD : PyData → NestedKey
  | .none => .none
  | .bool b => .num (if b = true then 1 else 0)
  | .int i => .num i
  | .str x => .text x
  | .tuple ds => .tup (nkDs ds)
  | .list _ => .none
  | .dict _ => .none
def nkDs : List PyData → List NestedKey
  | [] => []
  | d :: ds => nkD d :: nkDs ds
end
section
variable {P : Program} {w : World} {H : Hp} {h : Heap}
mutual
theorem nested_of (I : HOk P w H h) : ∀ {v : V} {d : PyData} {u : Value}, Tp H v d → RelV v u → NestedIs h (nkD d) u
  | _, _, u, .non, r => by
    have e : u = Value.none := r
    subst e; exact .none
  | _, _, u, .bl b, r => by
    have e : u = Value.bool b := r
    subst e; exact NestedIs.bool rfl
  | _, _, u, .int i, r => by
    obtain ⟨t, e⟩ := r
    subst e; exact .int i t
  | _, _, u, .str x, r => by
    obtain ⟨t, e⟩ := r
    subst e; exact .text x t
  | _, _, u, @Tp.tup _ a xs ds e t, r => by
    have eu : u = Value.ref a := r
    subst eu
    obtain ⟨z, its, rv, o, ho, hc, n, hd⟩ := I a _ e
    exact .tup ho hc hd (nested_all I t rv)
theorem nested_all (I : HOk P w H h) : ∀ {vs : List V} {ds : List PyData} {us : List Value}, TpAll H vs ds → Vals vs us → NestedAll h (nkDs ds) us
  | _, _, _, .nil, .nil => .nil
  | _, _, _, .cons a t, .cons r rr => .cons (nested_of I a r) (nested_all I t rr)
end
end
/-- the dict at a: keys, their tuples, values -/
def MO (P : Program) (w : World) (a : Addr) (xs : List (NestedKey × Addr × Value)) : HO := .ext fun h => (a == sysModules) = false ∧ xs.length ≤ sizeLine ∧ ∃ o es ep, h.get? a = some o ∧ o.ExactDict ∧ o.data = .dict es ep ∧ es.toList = xs.map (entryOfKey (nestedKind P w)) ∧ (xs.map (·.1)).Nodup
/-- a key that stands -/
def KeyAt (H : Hp) (k : NestedKey) (b : Addr) : Prop := ∃ d, k = nkD d ∧ Tp H (.ref b) d ∧ (nkD d).depth ≤ 8
def KeysAt (H : Hp) (xs : List (NestedKey × Addr × Value)) : Prop := ∀ x ∈ xs, KeyAt H x.1 x.2.1
theorem KeyAt.ts {H H' : Hp} {k : NestedKey} {b : Addr} (s : TS H H') (h : KeyAt H k b) : KeyAt H' k b := by
  obtain ⟨d, e, t, l⟩ := h
  exact ⟨d, e, t.ts s, l⟩
theorem mo_ok {P : Program} {w : World} {H : Hp} {h : Heap} {a : Addr} {xs : List (NestedKey × Addr × Value)} (hd : (a == sysModules) = false) (hl : xs.length ≤ sizeLine) (x : h.DictOfH (nestedKind P w) a xs) : ObjOk P w H h a (MO P w a xs) := by
  obtain ⟨o, es, ep, ho, hc, dt, he, _, nd⟩ := x
  exact ⟨⟨hd, hl, o, es, ep, ho, hc, dt, he, nd⟩, ⟨o, ho⟩, fun h1 h2 ⟨q1, q2, o', es', ep', r1, r2⟩ k => ⟨q1, q2, o', es', ep', k _ r1, r2⟩⟩
theorem key_is {P : Program} {w : World} {H : Hp} {h : Heap} (I : HOk P w H h) {k : NestedKey} {b : Addr} (x : KeyAt H k b) : (nestedKind P w).is h k b := by
  obtain ⟨d, rfl, t, l⟩ := x
  exact ⟨nested_of I t rfl, l⟩
theorem mo_at {P : Program} {w : World} {H : Hp} {h : Heap} (I : HOk P w H h) {a : Addr} {xs : List (NestedKey × Addr × Value)} (e : H a = some (MO P w a xs)) (ks : KeysAt H xs) : (a == sysModules) = false ∧ xs.length ≤ sizeLine ∧ h.DictOfH (nestedKind P w) a xs := by
  obtain ⟨⟨hd, hl, o, es, ep, ho, hc, dt, he, nd⟩, _⟩ := I a _ e
  exact ⟨hd, hl, o, es, ep, ho, hc, dt, he, fun x hx => key_is I (ks x hx), nd⟩
section
variable {X : Cx}
theorem nk_room {k : Nat} (hr : Room k X.A) : (nestedKind X.prog X.w).room X.A.in1 := by
  show X.A.units + 1 + 8 < cLine
  have := hr.units; omega
def rMemoNot (P : Program) (w : World) : R2 := fun x y H Q => ∃ (b a : Addr) (k : NestedKey) (xs : List (NestedKey × Addr × Value)), x = .ref b ∧ y = .ref a ∧ KeyAt H k b ∧ H a = some (MO P w a xs) ∧ KeysAt H xs ∧ Q (.bl (!(atKey xs k).isSome)) H
theorem op_notIn_memo {k : Nat} (hr : Room k X.A) : OpR X (compareOp .NotIn) (rMemoNot X.prog X.w) := by
  intro pins s σ H x y v u Q I rx ry h
  obtain ⟨b, a, k, xs, rfl, rfl, hk, ha, hks, q⟩ := h
  cases rx
  cases ry
  obtain ⟨hd, hl, dd⟩ := mo_at I.hok ha hks
  show wpAny (model X.prog X.w) X.A (do return Value.bool (!(← contains (Value.ref a) (Value.ref b)))) _ _ s
  exact wpAny_bind (wpAny_contains_heap (nk_room hr) (key_is I.hok hk) hd dd (wpAny_pure ⟨.bl _, H, I.tok _, rfl, q⟩))
def tMemoGet (P : Program) (w : World) (td ty : TE) : TE := fun σ H Q => td σ H fun x H1 => ty σ H1 fun y H2 => ∃ (a b : Addr) (k : NestedKey) (xs : List (NestedKey × Addr × Value)) (p : Addr × Value) (c : Bool), x = .ref a ∧ y = .ref b ∧ KeyAt H2 k b ∧ H2 a = some (MO P w a xs) ∧ KeysAt H2 xs ∧ atKey xs k = some p ∧ p.2 = Value.bool c ∧ Q (.bl c) H2
theorem rd_memoGet {P : Program} {w : World} {td ty : TE} {σ : St} {H : Hp} {Q : VK} (h : td σ H fun x H1 => ty σ H1 fun y H2 => ∃ (a b : Addr) (k : NestedKey) (xs : List (NestedKey × Addr × Value)) (p : Addr × Value) (c : Bool), x = .ref a ∧ y = .ref b ∧ KeyAt H2 k b ∧ H2 a = some (MO P w a xs) ∧ KeysAt H2 xs ∧ atKey xs k = some p ∧ p.2 = Value.bool c ∧ Q (.bl c) H2) : tMemoGet P w td ty σ H Q := h
theorem pe_memoGet {k : Nat} {o i : Expr} {td ty : TE} {pos : Pos} (hr : Room k X.A) (ho : PE X o td) (hi : PE X i ty) (hs : NoSl i) : PE X (.Subscript o i pos) (tMemoGet X.prog X.w td ty) := by
  refine ⟨fun pins s σ H Q I h => ?_⟩
  refine subD_of PySem.F.slot_dict_getitem.lookup hs (thn (ho.run pins s σ H _ I h) fun u s1 ⟨x, H1, I1, rx, q1⟩ => thn (hi.run pins s1 σ H1 _ I1 q1) fun iv s2 ⟨y, H2, I2, ry, a, b, k, xs, p, c, ex, ey, hk, ha, hks, hp, hc, q2⟩ => ?_)
  subst ex ey
  obtain rfl : u = Value.ref a := rx
  obtain rfl : iv = Value.ref b := ry
  obtain ⟨hd, hl, dd⟩ := mo_at I2.hok ha hks
  exact ⟨dd.typeIs, wpAny_getItem_heap (nk_room hr) (key_is I2.hok hk) dd hp ⟨.bl c, H2, I2.tok _, hc, q2⟩⟩
def rMemoSet (P : Program) (w : World) : V → V → V → Hp → (Hp → Prop) → Prop := fun o i v H Q => ∃ (a b : Addr) (k : NestedKey) (xs : List (NestedKey × Addr × Value)) (c : Bool), o = .ref a ∧ i = .ref b ∧ v = .bl c ∧ KeyAt H k b ∧ H a = some (MO P w a xs) ∧ KeysAt H xs ∧ (storedH xs k b (Value.bool c)).length ≤ sizeLine ∧ Q (upd H a (MO P w a (storedH xs k b (Value.bool c))))
theorem set_memo {k : Nat} (hr : Room k X.A) : PSet X (rMemoSet X.prog X.w) := by
  intro pins s σ H o i v ov iv u Q I ro ri rv h
  obtain ⟨a, b, k, xs, c, rfl, rfl, rfl, hk, ha, hks, hl2, q⟩ := h
  cases ro
  cases ri
  obtain rfl : u = Value.bool c := rv
  obtain ⟨hd, hl, dd⟩ := mo_at I.hok ha hks
  refine wpAny_setItem_heap (hsz := hl) (nk_room hr) (key_is I.hok hk) dd fun h' dd' hs => ⟨_, ?_, q⟩
  have he : ∃ q, h'.get? a = some q := let ⟨q, _, _, hq, _⟩ := dd'; ⟨q, hq⟩
  exact d_write I (by rw [ha]; exact True.intro) hs he (mo_ok hd hl2 dd')
def tMemo0 (P : Program) (w : World) : TE := fun _ H Q => ∀ a, H a = none → Q (.ref a) (upd H a (MO P w a []))
theorem pe_memo0 {pos : Pos} : PE X (.Dict [] [] pos) (tMemo0 X.prog X.w) := ⟨fun pins s σ H Q I h =>
  wpAny_Dict_empty ⟨.ref s.heap.objs.size, _, I.laid (a := s.heap.objs.size) (o := MO X.prog X.w s.heap.objs.size []) (t' := s.toks) (fun _ _ q => Heap.get?_push_of_some _ q) (Nat.le_refl _)
    (mo_ok (dk_empty (P := X.prog) (w := X.w) (H := H) s.heap I.big).2.1 (Nat.zero_le _) (Heap.DictOfH.new s.heap)), rfl, h _ (I.hok.fresh (Nat.le_refl _))⟩⟩
end
theorem rd_memoNot {P : Program} {w : World} {b a : Addr} {k : NestedKey} {xs : List (NestedKey × Addr × Value)} {H : Hp} {Q : VK} (hk : KeyAt H k b) (ha : H a = some (MO P w a xs)) (hks : KeysAt H xs) (q : Q (.bl (!(atKey xs k).isSome)) H) : rMemoNot P w (.ref b) (.ref a) H Q := ⟨b, a, k, xs, rfl, rfl, hk, ha, hks, q⟩

end Cs
namespace Cs
open PySem L2
open PyProof.Rows (envOfC)
/-! a dict from labels to numbers: the labels bools, or tuples -/
open PySem.W in
/-- bools as keys -/
def LB (P : Program) (w : World) (a : Addr) (kvs : List (PySem.Leaf × V)) : HO := .ext fun h => (a == sysModules) = false ∧ kvs.length ≤ sizeLine ∧ ∃ vs, KV kvs vs ∧ h.DictOf (leafKind P w) a vs
def lfB (b : Bool) : PySem.Leaf := .num (if b = true then 1 else 0)
section
variable {P : Program} {w : World} {H : Hp} {h : Heap} {a : Addr}
theorem lb_ok {kvs : List (PySem.Leaf × V)} {vs : List (PySem.Leaf × Value)} (hd : (a == sysModules) = false) (hl : kvs.length ≤ sizeLine) (r : KV kvs vs) (x : h.DictOf (leafKind P w) a vs) : ObjOk P w H h a (LB P w a kvs) := by
  have hg : ∃ o, h.get? a = some o := let ⟨o, _, _, ho, _⟩ := x; ⟨o, ho⟩
  refine ⟨⟨hd, hl, vs, r, x⟩, hg, fun h1 h2 ⟨q1, q2, vs', r', o, es, ep, ho, r2⟩ k => ⟨q1, q2, vs', r', o, es, ep, k _ ho, r2⟩⟩
theorem lb_at {kvs : List (PySem.Leaf × V)} (I : HOk P w H h) (e : H a = some (LB P w a kvs)) : (a == sysModules) = false ∧ kvs.length ≤ sizeLine ∧ ∃ vs, KV kvs vs ∧ h.DictOf (leafKind P w) a vs := (I a _ e).1
theorem lfB_is {b : Bool} {u : Value} (r : RelV (.bl b) u) : (leafKind P w).is (lfB b) u = true := by
  have e : u = Value.bool b := r
  subst e
  cases b <;> rfl
end
/-- a dict of the one or the other kind stands at a -/
def IsN (P : Program) (w : World) (H : Hp) (a : Addr) : Prop := (∃ kvs, H a = some (LB P w a kvs)) ∨ ∃ xs, H a = some (MO P w a xs) ∧ KeysAt H xs
section
variable {X : Cx}
theorem isN_at {pins : List (Addr × Obj)} {σ : St} {H : Hp} {s : Shared} {a : Addr} (I : Inv X pins σ H s) (d : IsN X.prog X.w H a) :
    s.TypeIs (.ref a) "dict" ∧ ∀ b, Value.ref a = .ref b → ∃ ob, s.heap.get? b = some ob ∧ ob.dict = none := by
  rcases d with ⟨kvs, e⟩ | ⟨xs, e, ks⟩
  · obtain ⟨_, _, vs, _, dd⟩ := lb_at I.hok e
    refine ⟨dd.typeIs, fun b eb => ?_⟩
    cases eb
    obtain ⟨o, es, ep, ho, hc, _⟩ := dd
    exact ⟨o, ho, hc.2.1⟩
  · obtain ⟨_, _, dd⟩ := mo_at I.hok e ks
    refine ⟨dd.typeIs, fun b eb => ?_⟩
    cases eb
    obtain ⟨o, es, ep, ho, hc, _⟩ := dd
    exact ⟨o, ho, hc.2.1⟩
/-- {} for either kind -/
def tNd0 (P : Program) (w : World) : TE := fun _ H Q => ∀ a, H a = none → Q (.ref a) (upd H a (LB P w a [])) ∨ Q (.ref a) (upd H a (MO P w a []))
theorem pe_nd0 {pos : Pos} : PE X (.Dict [] [] pos) (tNd0 X.prog X.w) := ⟨fun pins s σ H Q I h => by
  have fr := I.hok.fresh (a := s.heap.objs.size) (Nat.le_refl _)
  have hb : (s.heap.objs.size == sysModules) = false := (dk_empty (P := X.prog) (w := X.w) (H := H) s.heap I.big).2.1
  rcases h _ fr with q | q
  · exact wpAny_Dict_empty ⟨.ref s.heap.objs.size, _, I.laid (a := s.heap.objs.size) (o := LB X.prog X.w s.heap.objs.size []) (t' := s.toks) (fun _ _ q => Heap.get?_push_of_some _ q) (Nat.le_refl _)
      (lb_ok hb (Nat.zero_le _) .nil (Heap.DictOf.new s.heap)), rfl, q⟩
  · exact wpAny_Dict_empty ⟨.ref s.heap.objs.size, _, I.laid (a := s.heap.objs.size) (o := MO X.prog X.w s.heap.objs.size []) (t' := s.toks) (fun _ _ q => Heap.get?_push_of_some _ q) (Nat.le_refl _)
      (mo_ok hb (Nat.zero_le _) (Heap.DictOfH.new s.heap)), rfl, q⟩⟩
/-- len of it -/
def rLenN (P : Program) (w : World) : List V → Hp → VK → Prop := fun xs H Q => ∃ a, xs = [V.ref a] ∧ ((∃ kvs, H a = some (LB P w a kvs) ∧ Q (.int (kvs.length : Nat)) H) ∨ ∃ ys, H a = some (MO P w a ys) ∧ KeysAt H ys ∧ Q (.int (ys.length : Nat)) H)
theorem call_lenN : CallR X (.builtin "len") (rLenN X.prog X.w) := by
  intro pins s σ H xs us Q I r h
  obtain ⟨a, rfl, h⟩ := h
  obtain ⟨u, rfl, ru⟩ := vals1 r
  obtain rfl : u = .ref a := ru
  rcases h with ⟨kvs, ha, q⟩ | ⟨ys, ha, ks, q⟩
  · obtain ⟨hd, hl, vs, rv, dd⟩ := lb_at I.hok ha
    refine call_len_dict hd dd (by rw [← rv.length]; rw [sizeLine_eq] at hl; omega) ?_
    rw [← rv.length]
    exact ⟨.int _, H, I.tok _, ⟨_, rfl⟩, q⟩
  · obtain ⟨hd, hl, dd⟩ := mo_at I.hok ha ks
    exact call_len_dictH hd dd (by rw [sizeLine_eq] at hl; omega) ⟨.int _, H, I.tok _, ⟨_, rfl⟩, q⟩
/-- d.setdefault(y, z) -/
def tNset (P : Program) (w : World) (td ty tx : TE) : TE := fun σ H Q => td σ H fun x H1 => ∃ a, x = .ref a ∧ IsN P w H1 a ∧ ty σ H1 fun y H2 => tx σ H2 fun z H3 =>
  (∃ (kvs : List (PySem.Leaf × V)) (b : Bool), H3 a = some (LB P w a kvs) ∧ y = .bl b ∧ kvs.length < sizeLine ∧ (∀ v, valV kvs (lfB b) = some v → Q v H3) ∧ (valV kvs (lfB b) = none → Q z (upd H3 a (LB P w a (putK kvs (lfB b) z))))) ∨
  ∃ (xs : List (NestedKey × Addr × Value)) (k : NestedKey) (b : Addr), H3 a = some (MO P w a xs) ∧ KeysAt H3 xs ∧ y = .ref b ∧ KeyAt H3 k b ∧ xs.length < sizeLine ∧
    (∀ p, atKey xs k = some p → ∃ v, RelV v p.2 ∧ Q v H3) ∧ (atKey xs k = none → ∀ u, RelV z u → Q z (upd H3 a (MO P w a (xs ++ [(k, b, u)]))))
theorem pe_nset {k : Nat} {o e f : Expr} {td ty tx : TE} {apos cpos : Pos} (hr : Room k X.A) (ho : PE X o td) (he : PE X e ty) (hf : PE X f tx) (m : M2 X o "setdefault" apos e f cpos) : PE X (.Call (.Attribute o "setdefault" apos) [e, f] [] cpos) (tNset X.prog X.w td ty tx) := by
  refine ⟨fun pins s σ H Q I h => ?_⟩
  refine wpAny_Call_method m.base m.few m.line PySem.F.plainAttrs_dict PySem.F.slot_dict_setdefault PySem.F.type_dict_setdefault (thn (ho.run pins s σ H _ I h) fun u s1 ⟨x, H1, I1, rx, a, ex, d, q1⟩ => ?_)
  subst ex
  obtain rfl : u = Value.ref a := rx
  obtain ⟨t1, t2⟩ := isN_at I1 d
  refine ⟨t1, t2, ?_⟩
  rw [m.trees]
  refine Calls.callWith_builtin rfl (Calls.evalArgs_plain (Calls.spliced_cons (thn (he.run pins s1 σ H1 _ I1 q1) fun iv s2 ⟨y, H2, I2, ry, q2⟩ =>
    Calls.spliced_cons (thn (hf.run pins s2 σ H2 _ I2 q2) fun fv s3 ⟨z, H3, I3, rz, q3⟩ => Calls.spliced_nil ?_))))
  rcases q3 with ⟨kvs, b, ea, rfl, hl, k1, k2⟩ | ⟨xs, kk, b, ea, ks, rfl, hk, hl, k1, k2⟩
  · obtain ⟨hd, hl2, vs, rel, dd⟩ := lb_at I3.hok ea
    refine call_meetsIn PySem.F.slot_dict_setdefault dd.typeIs PySem.F.entry_dict_setdefault (PySem.F.args_dict_setdefault_3 _ _ _) (kt_meets_setdefault (leafKind X.prog X.w) a (lfB_is ry) hd fv) ⟨vs, dd, by rw [← rel.length]; exact hl2, fun v hv => ?_, fun hn h' dd' hs => ?_⟩
    · have q := rel.val (lfB b)
      rw [hv] at q
      cases q0 : valV kvs (lfB b) with
      | none =>
        rw [q0] at q
        exact (show False from q).elim
      | some v0 =>
        rw [q0] at q
        exact ⟨v0, _, I3.tok _, q, k1 v0 q0⟩
    · have q := rel.val (lfB b)
      rw [hn] at q
      cases q0 : valV kvs (lfB b) with
      | some v0 =>
        rw [q0] at q
        exact (show False from q).elim
      | none =>
        have hl3 : (putK kvs (lfB b) z).length ≤ sizeLine := by
          have := length_putK kvs (lfB b) z
          omega
        have hq : ∃ q, h'.get? a = some q := let ⟨q, _, _, hq, _⟩ := dd'; ⟨q, hq⟩
        exact ⟨z, _, d_write (t' := s3.toks + 1) I3 (by rw [ea]; exact True.intro) hs hq (lb_ok hd hl3 (rel.put _ rz) dd'), rz, k2 q0⟩
  · obtain rfl : iv = Value.ref b := ry
    obtain ⟨hd, hl2, dd⟩ := mo_at I3.hok ea ks
    refine call_setdefault_heap (nk_room hr) (key_is I3.hok hk) hd dd (fun p hp => ?_) (fun hn h' dd' hs => ?_) hl2
    · obtain ⟨v, rv, q⟩ := k1 p hp
      exact ⟨v, _, I3.tok _, rv, q⟩
    · rw [storedH_new hn] at dd'
      have hq : ∃ q, h'.get? a = some q := let ⟨q, _, _, hq, _⟩ := dd'; ⟨q, hq⟩
      exact ⟨z, _, d_write I3 (by rw [ea]; exact True.intro) hs hq (mo_ok hd (by simp; omega) dd'), rz, k2 hn fv rz⟩
theorem pe_nsetP {P : Program} {w : World} (hP : X.prog = P) (hw : X.w = w) {k : Nat} {o e f : Expr} {td ty tx : TE} {apos cpos : Pos} (hr : Room k X.A) (ho : PE X o td) (he : PE X e ty) (hf : PE X f tx) (m : M2 X o "setdefault" apos e f cpos) : PE X (.Call (.Attribute o "setdefault" apos) [e, f] [] cpos) (tNset P w td ty tx) := by
  subst hP hw
  exact pe_nset hr ho he hf m
theorem call_lenNP {P : Program} {w : World} (hP : X.prog = P) (hw : X.w = w) : CallR X (.builtin "len") (rLenN P w) := by
  subst hP hw
  exact call_lenN
theorem pe_nd0P {P : Program} {w : World} (hP : X.prog = P) (hw : X.w = w) {pos : Pos} : PE X (.Dict [] [] pos) (tNd0 P w) := by
  subst hP hw
  exact pe_nd0
end
theorem rd_nset {P : Program} {w : World} {td ty tx : TE} {σ : St} {H : Hp} {Q : VK} (h : td σ H fun x H1 => ∃ a, x = .ref a ∧ IsN P w H1 a ∧ ty σ H1 fun y H2 => tx σ H2 fun z H3 =>
  (∃ (kvs : List (PySem.Leaf × V)) (b : Bool), H3 a = some (LB P w a kvs) ∧ y = .bl b ∧ kvs.length < sizeLine ∧ (∀ v, valV kvs (lfB b) = some v → Q v H3) ∧ (valV kvs (lfB b) = none → Q z (upd H3 a (LB P w a (putK kvs (lfB b) z))))) ∨
  ∃ (xs : List (NestedKey × Addr × Value)) (k : NestedKey) (b : Addr), H3 a = some (MO P w a xs) ∧ KeysAt H3 xs ∧ y = .ref b ∧ KeyAt H3 k b ∧ xs.length < sizeLine ∧
    (∀ p, atKey xs k = some p → ∃ v, RelV v p.2 ∧ Q v H3) ∧ (atKey xs k = none → ∀ u, RelV z u → Q z (upd H3 a (MO P w a (xs ++ [(k, b, u)]))))) : tNset P w td ty tx σ H Q := h

end Cs
namespace Cs
open PySem L2
open PyProof.Rows (envOfC)
/-! an automaton that is least and numbered as a breadth-first walk meets its states is determined by what it marks -/
abbrev Ov (k : Nat) (w : List Nat) : Prop := ∀ c ∈ w, c < k
structure Std {α : Type} (k n : Nat) (e : Nat → Nat → Nat) (m : Nat → α) (L : List Nat → α) : Prop where
  pos : 0 < n
  lt : ∀ i c, i < n → c < k → e i c < n
  lang : ∀ w, Ov k w → m (w.foldl e 0) = L w
  apart : ∀ i j, i < n → j < n → (∀ w, Ov k w → m (w.foldl e i) = m (w.foldl e j)) → i = j
  fresh : ∀ i c b, i < n → c < k → (∀ i' c', c' < k → i' * k + c' < i * k + c → e i' c' ≤ b) → e i c ≤ b + 1
  met : ∀ i, 0 < i → i < n → ∃ j c, j < i ∧ c < k ∧ e j c = i
section
variable {α : Type} {k n n' : Nat} {e e' : Nat → Nat → Nat} {m m' : Nat → α} {L : List Nat → α}
def StR (k : Nat) (e e' : Nat → Nat → Nat) (m m' : Nat → α) (i j : Nat) : Prop := ∀ w, Ov k w → m (w.foldl e i) = m' (w.foldl e' j)
theorem StR.step {i j c : Nat} (h : StR k e e' m m' i j) (hc : c < k) : StR k e e' m m' (e i c) (e' j c) := fun w hw => h (c :: w) fun d hd => by
  rcases List.mem_cons.mp hd with rfl | hd
  · exact hc
  · exact hw d hd
theorem pos_lt {k i j c d : Nat} (h : i < j) (hc : c < k) : i * k + c < j * k + d := by
  have : (i + 1) * k ≤ j * k := Nat.mul_le_mul_right k h
  rw [Nat.succ_mul] at this
  omega
theorem pos_row {k i j c d : Nat} (h : i * k + c < j * k + d) (hd : d < k) : i ≤ j := by
  rcases Nat.lt_or_ge j i with l | l
  · exact absurd h (Nat.lt_asymm (pos_lt l hd))
  · exact l
theorem std_walk (A : Std k n e m L) (A' : Std k n' e' m' L) : ∀ t, ∃ b, (∀ i c, i < n → i < n' → c < k → i * k + c < t → e i c = e' i c ∧ e i c ≤ b) ∧ b < n ∧ b < n' ∧ ∀ v, v ≤ b → StR k e e' m m' v v
  | 0 => ⟨0, fun _ _ _ _ _ h => absurd h (Nat.not_lt_zero _), A.pos, A'.pos, fun v hv => by
      obtain rfl : v = 0 := by omega
      exact fun w hw => (A.lang w hw).trans (A'.lang w hw).symm⟩
  | t + 1 => by
    obtain ⟨b, h1, h2, h3, h4⟩ := std_walk A A' t
    by_cases hp : ∃ i c, i < n ∧ i < n' ∧ c < k ∧ i * k + c = t
    · obtain ⟨i, c, hi, hi', hc, ht⟩ := hp
      have hR : StR k e e' m m' i i := by
        rcases Nat.eq_zero_or_pos i with rfl | h0
        · exact h4 0 (Nat.zero_le _)
        · obtain ⟨j, d, hj, hd, ej⟩ := A.met i h0 hi
          have := (h1 j d (by omega) (by omega) hd (by have := pos_lt (d := c) hj hd; omega)).2
          exact h4 i (by omega)
      have hE := hR.step hc
      have f1 : e i c ≤ b + 1 := A.fresh i c b hi hc fun i' c' hc' hl => by
        have := pos_row hl hc
        exact (h1 i' c' (by omega) (by omega) hc' (by omega)).2
      have f2 : e' i c ≤ b + 1 := A'.fresh i c b hi' hc fun i' c' hc' hl => by
        have := pos_row hl hc
        have q := h1 i' c' (by omega) (by omega) hc' (by omega)
        omega
      have l1 := A.lt i c hi hc
      have l2 := A'.lt i c hi' hc
      have same : e i c = e' i c ∧ (e i c ≤ b ∨ (e i c = b + 1)) := by
        rcases Nat.lt_or_ge b (e i c) with g | g
        · rcases Nat.lt_or_ge b (e' i c) with g' | g'
          · exact ⟨by omega, .inr (by omega)⟩
          · have r := h4 _ g'
            exact ⟨A.apart _ _ l1 (by omega) fun w hw => (hE w hw).trans (r w hw).symm, .inr (by omega)⟩
        · have r := h4 _ g
          exact ⟨A'.apart _ _ (by omega) l2 fun w hw => (r w hw).symm.trans (hE w hw), .inl g⟩
      have uniq : ∀ i2 c2, c2 < k → i2 * k + c2 = t → i2 = i ∧ c2 = c := fun i2 c2 hc2 h => by
        rcases Nat.lt_trichotomy i2 i with l | l | l
        · have := pos_lt (d := c) l hc2; omega
        · subst l; exact ⟨rfl, by omega⟩
        · have := pos_lt (d := c2) l hc; omega
      rcases same with ⟨es, g | g⟩
      · refine ⟨b, fun i2 c2 a1 a2 a3 a4 => ?_, h2, h3, h4⟩
        rcases Nat.lt_or_ge (i2 * k + c2) t with l | l
        · exact h1 i2 c2 a1 a2 a3 l
        · obtain ⟨rfl, rfl⟩ := uniq i2 c2 a3 (by omega)
          exact ⟨es, g⟩
      · refine ⟨b + 1, fun i2 c2 a1 a2 a3 a4 => ?_, by omega, by omega, fun v hv => ?_⟩
        · rcases Nat.lt_or_ge (i2 * k + c2) t with l | l
          · have := h1 i2 c2 a1 a2 a3 l
            exact ⟨this.1, by omega⟩
          · obtain ⟨rfl, rfl⟩ := uniq i2 c2 a3 (by omega)
            exact ⟨es, by omega⟩
        · rcases Nat.lt_or_ge b v with l | l
          · obtain rfl : v = e i c := by omega
            rw [← es] at hE
            exact hE
          · exact h4 v l
    · refine ⟨b, fun i2 c2 a1 a2 a3 a4 => ?_, h2, h3, h4⟩
      rcases Nat.lt_or_ge (i2 * k + c2) t with l | l
      · exact h1 i2 c2 a1 a2 a3 l
      · exact absurd ⟨i2, c2, a1, a2, a3, by omega⟩ hp
theorem std_unique (A : Std k n e m L) (A' : Std k n' e' m' L) : n = n' ∧ ∀ i, i < n → m i = m' i ∧ ∀ c, c < k → e i c = e' i c := by
  obtain ⟨b, h1, h2, h3, h4⟩ := std_walk A A' ((n + n') * k)
  have le : ∀ i c, i < n → i < n' → c < k → i * k + c < (n + n') * k := fun i c a1 a2 a3 => by
    have := pos_lt (i := i) (j := n + n') (d := 0) (by omega) a3
    omega
  have en : n = n' := by
    rcases Nat.lt_trichotomy n n' with l | l | l
    · obtain ⟨j, c, hj, hc, q⟩ := A'.met n A.pos l
      have q1 := (h1 j c hj (by omega) hc (le _ _ hj (by omega) hc)).1
      have q2 := A.lt j c hj hc
      omega
    · exact l
    · obtain ⟨j, c, hj, hc, q⟩ := A.met n' A'.pos l
      have q1 := (h1 j c (by omega) hj hc (le _ _ (by omega) hj hc)).1
      have q2 := A'.lt j c hj hc
      omega
  subst en
  refine ⟨rfl, fun i hi => ⟨?_, fun c hc => (h1 i c hi hi hc (le _ _ hi hi hc)).1⟩⟩
  have hb : i ≤ b := by
    rcases Nat.eq_zero_or_pos i with rfl | h0
    · exact Nat.zero_le _
    · obtain ⟨j, c, hj, hc, q⟩ := A.met i h0 hi
      have := (h1 j c (by omega) (by omega) hc (le _ _ (by omega) (by omega) hc)).2
      omega
  exact h4 i hb [] fun c hc => by cases hc
end

end Cs
namespace Cs
open PySem L2
open PyProof.Rows (envOfC)
/-! states merged by classes: least, and in standard order -/
structure Bf (k n : Nat) (e : Nat → Nat → Nat) : Prop where
  pos : 0 < n
  lt : ∀ i c, i < n → c < k → e i c < n
  fresh : ∀ i c b, i < n → c < k → (∀ i' c', c' < k → i' * k + c' < i * k + c → e i' c' ≤ b) → e i c ≤ b + 1
  met : ∀ i, 0 < i → i < n → ∃ j c, j < i ∧ c < k ∧ e j c = i
structure Kls {α : Type} (k n N : Nat) (e : Nat → Nat → Nat) (m : Nat → α) (cl fs : Nat → Nat) : Prop where
  lt : ∀ i, i < n → cl i < N
  fs_lt : ∀ a, a < N → fs a < n ∧ cl (fs a) = a
  fs_min : ∀ i, i < n → fs (cl i) ≤ i
  mono : ∀ a b, a < b → b < N → fs a < fs b
  mark : ∀ i j, i < n → j < n → cl i = cl j → m i = m j
  step : ∀ i j c, i < n → j < n → c < k → cl i = cl j → cl (e i c) = cl (e j c)
  apart : ∀ i j, i < n → j < n → (∀ w, Ov k w → m (w.foldl e i) = m (w.foldl e j)) → cl i = cl j
section
variable {α : Type} {k n N : Nat} {e : Nat → Nat → Nat} {m : Nat → α} {L : List Nat → α} {cl fs : Nat → Nat}
/-- smaller numbers are met earlier -/
theorem Bf.earlier (B : Bf k n e) : ∀ t i c g, i * k + c = t → i < n → c < k → 0 < g → g < e i c → ∃ j d, d < k ∧ j * k + d < i * k + c ∧ e j d = g := by
  intro t
  induction t using Nat.strongRecOn with
  | _ t ih =>
    intro i c g ht hi hc g0 hg
    by_cases hq : ∃ j d, d < k ∧ j * k + d < i * k + c ∧ e j d = g
    · exact hq
    · have := B.fresh i c (g - 1) hi hc fun j d hd hl => by
        have hj := pos_row hl hc
        rcases Nat.lt_trichotomy (e j d) g with l | l | l
        · omega
        · exact absurd ⟨j, d, hd, hl, l⟩ hq
        · obtain ⟨j2, d2, a1, a2, a3⟩ := ih (j * k + d) (by omega) j d g rfl (by omega) hd g0 l
          exact absurd ⟨j2, d2, a1, by omega, a3⟩ hq
      omega
theorem Kls.le (C : Kls k n N e m cl fs) {a b : Nat} (ha : a < N) (hb : b < N) (h : fs a ≤ fs b) : a ≤ b := by
  rcases Nat.lt_or_ge b a with l | l
  · have := C.mono b a l ha; omega
  · exact l
theorem Bf.run (B : Bf k n e) : ∀ (w : List Nat) (i : Nat), Ov k w → i < n → w.foldl e i < n
  | [], _, _, h => h
  | c :: w, i, hw, h => B.run w (e i c) (fun d hd => hw d (List.mem_cons_of_mem _ hd)) (B.lt i c h (hw c List.mem_cons_self))
theorem Kls.run (B : Bf k n e) (C : Kls k n N e m cl fs) : ∀ (w : List Nat) (i : Nat), Ov k w → i < n → w.foldl (fun a c => cl (e (fs a) c)) (cl i) = cl (w.foldl e i)
  | [], _, _, _ => rfl
  | c :: w, i, hw, h => by
    have hc := hw c List.mem_cons_self
    have hl := C.lt i h
    obtain ⟨f1, f2⟩ := C.fs_lt _ hl
    have e1 : cl (e (fs (cl i)) c) = cl (e i c) := C.step _ _ c f1 h hc f2
    rw [List.foldl_cons, List.foldl_cons, e1]
    exact Kls.run B C w (e i c) (fun d hd => hw d (List.mem_cons_of_mem _ hd)) (B.lt i c h hc)
theorem Kls.fs0 (B : Bf k n e) (C : Kls k n N e m cl fs) : 0 < N ∧ fs 0 = 0 ∧ cl 0 = 0 := by
  have h0 := C.lt 0 B.pos
  have hN : 0 < N := by omega
  have f := C.fs_min 0 B.pos
  have h1 : cl 0 = 0 := by
    rcases Nat.eq_zero_or_pos (cl 0) with z | z
    · exact z
    · have := C.mono 0 (cl 0) z h0; omega
  rw [h1] at f
  exact ⟨hN, by omega, h1⟩
theorem merge_std (B : Bf k n e) (lang : ∀ w, Ov k w → m (w.foldl e 0) = L w) (C : Kls k n N e m cl fs) : Std k N (fun a c => cl (e (fs a) c)) (fun a => m (fs a)) L := by
  obtain ⟨hN, f0, c0⟩ := C.fs0 B
  have mk : ∀ i, i < n → m (fs (cl i)) = m i := fun i hi => by
    obtain ⟨f1, f2⟩ := C.fs_lt _ (C.lt i hi)
    exact C.mark _ _ f1 hi f2
  refine ⟨hN, fun a c ha hc => C.lt _ (B.lt _ c (C.fs_lt a ha).1 hc), fun w hw => ?_, fun a b ha hb h => ?_, fun a c b ha hc h => ?_, fun a h0 ha => ?_⟩
  · have := Kls.run B C w 0 hw B.pos
    rw [c0] at this
    rw [this, mk _ (B.run w 0 hw B.pos)]
    exact lang w hw
  · obtain ⟨fa, ea⟩ := C.fs_lt a ha
    obtain ⟨fb, eb⟩ := C.fs_lt b hb
    have := C.apart _ _ fa fb fun w hw => by
      have q := h w hw
      have ra := Kls.run B C w _ hw fa
      have rb := Kls.run B C w _ hw fb
      rw [ea] at ra
      rw [eb] at rb
      rw [ra, rb, mk _ (B.run w _ hw fa), mk _ (B.run w _ hw fb)] at q
      exact q
    rw [ea, eb] at this
    exact this
  · obtain ⟨fa, ea⟩ := C.fs_lt a ha
    have hx := B.lt _ c fa hc
    have hX := C.lt _ hx
    rcases Nat.lt_or_ge (b + 1) (cl (e (fs a) c)) with l | l
    · exfalso
      have hb : b + 1 < N := by omega
      obtain ⟨g1, g2⟩ := C.fs_lt _ hb
      have g3 := C.mono _ _ l hX
      have g4 := C.fs_min _ hx
      have g0 : 0 < fs (b + 1) := by have := C.mono 0 (b + 1) (by omega) hb; omega
      obtain ⟨j, d, hd, hl, ej⟩ := B.earlier _ (fs a) c (fs (b + 1)) rfl fa hc g0 (by omega)
      have hj := pos_row hl hc
      have hjn : j < n := by omega
      have hJ := C.lt j hjn
      obtain ⟨p1, p2⟩ := C.fs_lt _ hJ
      have p3 := C.fs_min j hjn
      have e1 : cl (e (fs (cl j)) d) = b + 1 := by rw [C.step _ _ d p1 hjn hd p2, ej, g2]
      have le := C.le hJ ha (by omega)
      have := h (cl j) d hd (by
        rcases Nat.lt_or_ge (cl j) a with q | q
        · exact pos_lt q hd
        · have ee : cl j = a := by omega
          rw [ee] at p3 ⊢
          have : j = fs a := by omega
          subst this
          omega)
      omega
    · exact l
  · obtain ⟨fa, ea⟩ := C.fs_lt a ha
    have h1 : 0 < fs a := by have := C.mono 0 a h0 ha; omega
    obtain ⟨j, d, hj, hd, ej⟩ := B.met _ h1 fa
    have hjn : j < n := by omega
    have hJ := C.lt j hjn
    obtain ⟨p1, p2⟩ := C.fs_lt _ hJ
    have p3 := C.fs_min j hjn
    refine ⟨cl j, d, ?_, hd, ?_⟩
    · rcases Nat.lt_or_ge (cl j) a with q | q
      · exact q
      · rcases Nat.lt_or_ge a (cl j) with r | r
        · have := C.mono _ _ r hJ; omega
        · have : cl j = a := by omega
          rw [this] at p3; omega
    · show cl (e (fs (cl j)) d) = a
      rw [C.step _ _ d p1 hjn hd p2, ej, ea]
end

end Cs
namespace Cs
open PySem L2
open PyProof.Rows (envOfC)
/-! numbers of labels by first occurrence -/
def Can' (s : Nat) (l : List Nat) : Prop := ∀ i x b : Nat, s ≤ b → l[i]? = some x → (∀ j y : Nat, j < i → l[j]? = some y → y < b) → x ≤ b
abbrev Can (l : List Nat) : Prop := Can' 0 l
theorem Can.earlier {l : List Nat} (h : Can l) : ∀ i x g : Nat, l[i]? = some x → g < x → ∃ j : Nat, j < i ∧ l[j]? = some g := by
  intro i
  induction i using Nat.strongRecOn with
  | _ i ih =>
    intro x g hx hg
    by_cases hq : ∃ j, j < i ∧ l[j]? = some g
    · exact hq
    · have := h i x g (Nat.zero_le _) hx fun j y hj hy => by
        rcases Nat.lt_trichotomy y g with q | q | q
        · exact q
        · subst q; exact absurd ⟨j, hj, hy⟩ hq
        · obtain ⟨j2, a1, a2⟩ := ih j hj y g hy q
          exact absurd ⟨j2, by omega, a2⟩ hq
      omega
theorem can_unique {l m : List Nat} (hl : Can l) (hm : Can m) (len : l.length = m.length) (h : ∀ i j : Nat, i < l.length → j < l.length → (l[i]? = l[j]? ↔ m[i]? = m[j]?)) : l = m := by
  have key : ∀ i, i < l.length → l[i]? = m[i]? := by
    intro i
    induction i using Nat.strongRecOn with
    | _ i ih =>
      intro hi
      have e1 := List.getElem?_eq_getElem hi
      have hi' : i < m.length := by omega
      have e2 := List.getElem?_eq_getElem hi'
      rcases Nat.lt_trichotomy l[i] m[i] with q | q | q
      · obtain ⟨j, hj, ej⟩ := hm.earlier i _ _ e2 q
        have := ih j hj (by omega)
        rw [ej, ← e1] at this
        have := (h j i (by omega) hi).mp this
        rw [ej, e2] at this
        have := Option.some.inj this
        omega
      · rw [e1, e2, q]
      · obtain ⟨j, hj, ej⟩ := hl.earlier i _ _ e1 q
        have := ih j hj (by omega)
        rw [ej, ← e2] at this
        have := (h j i (by omega) hi).mpr this.symm
        rw [ej, e1] at this
        have := Option.some.inj this
        omega
  refine List.ext_getElem? fun i => ?_
  rcases Nat.lt_or_ge i l.length with q | q
  · exact key i q
  · rw [List.getElem?_eq_none q, List.getElem?_eq_none (by omega)]
section
variable {α : Type} [DecidableEq α]
def numbF : List α → List α → List Nat
  | _, [] => []
  | ds, x :: xs => if x ∈ ds then ds.idxOf x :: numbF ds xs else ds.length :: numbF (ds ++ [x]) xs
theorem numbF_can : ∀ (xs ds : List α), Can' ds.length (numbF ds xs)
  | [], ds => fun i x b _ h _ => by simp [numbF] at h
  | y :: xs, ds => fun i x b hs h hj => by
    rw [numbF] at h hj
    by_cases hy : y ∈ ds
    · rw [if_pos hy] at h hj
      have hlt := List.idxOf_lt_length_iff.mpr hy
      cases i with
      | zero => simp at h; omega
      | succ i => exact numbF_can xs ds i x b hs (by simpa using h) fun j z hj2 hz => hj (j + 1) z (by omega) (by simpa using hz)
    · rw [if_neg hy] at h hj
      cases i with
      | zero => simp at h; omega
      | succ i =>
        have h0 := hj 0 ds.length (by omega) (by simp)
        exact numbF_can xs (ds ++ [y]) i x b (by simp; omega) (by simpa using h) fun j z hj2 hz => hj (j + 1) z (by omega) (by simpa using hz)
theorem numbF_map : ∀ (xs ds : List α), ∃ f : α → Nat, (∀ d ∈ ds, f d = ds.idxOf d) ∧ (∀ x y, (x ∈ ds ∨ x ∈ xs) → (y ∈ ds ∨ y ∈ xs) → f x = f y → x = y) ∧ numbF ds xs = xs.map f
  | [], ds => ⟨ds.idxOf, fun _ _ => rfl, fun x y hx hy e => by
      have hx : x ∈ ds := by simpa using hx
      have hy : y ∈ ds := by simpa using hy
      have h1 := List.getElem_idxOf (List.idxOf_lt_length_iff.mpr hx)
      have h2 := List.getElem_idxOf (List.idxOf_lt_length_iff.mpr hy)
      rw [← h1, ← h2]
      simp only [e], rfl⟩
  | z :: xs, ds => by
    by_cases hz : z ∈ ds
    · obtain ⟨f, h1, h2, h3⟩ := numbF_map xs ds
      refine ⟨f, h1, fun x y hx hy => h2 x y ?_ ?_, ?_⟩
      · rcases hx with hx | hx
        · exact .inl hx
        · rcases List.mem_cons.mp hx with rfl | hx
          · exact .inl hz
          · exact .inr hx
      · rcases hy with hy | hy
        · exact .inl hy
        · rcases List.mem_cons.mp hy with rfl | hy
          · exact .inl hz
          · exact .inr hy
      · rw [numbF, if_pos hz, h3, List.map_cons, h1 z hz]
    · obtain ⟨f, h1, h2, h3⟩ := numbF_map xs (ds ++ [z])
      refine ⟨f, fun d hd => ?_, fun x y hx hy => h2 x y ?_ ?_, ?_⟩
      · rw [h1 d (List.mem_append.mpr (.inl hd)), List.idxOf_append, if_pos hd]
      · rcases hx with hx | hx
        · exact .inl (List.mem_append.mpr (.inl hx))
        · rcases List.mem_cons.mp hx with rfl | hx
          · exact .inl (List.mem_append.mpr (.inr List.mem_cons_self))
          · exact .inr hx
      · rcases hy with hy | hy
        · exact .inl (List.mem_append.mpr (.inl hy))
        · rcases List.mem_cons.mp hy with rfl | hy
          · exact .inl (List.mem_append.mpr (.inr List.mem_cons_self))
          · exact .inr hy
      · rw [numbF, if_neg hz, h3, List.map_cons, h1 z (List.mem_append.mpr (.inr List.mem_cons_self)), List.idxOf_append, if_neg hz]
        simp
/-- equal numbers for equal labels -/
theorem numb_eq (xs : List α) {i j : Nat} (hi : i < xs.length) (hj : j < xs.length) : (numbF [] xs)[i]? = (numbF [] xs)[j]? ↔ xs[i] = xs[j] := by
  obtain ⟨f, _, h2, h3⟩ := numbF_map xs []
  rw [h3, List.getElem?_map, List.getElem?_map, List.getElem?_eq_getElem hi, List.getElem?_eq_getElem hj]
  constructor
  · intro h
    exact h2 _ _ (.inr (List.getElem_mem hi)) (.inr (List.getElem_mem hj)) (Option.some.inj h)
  · intro h; rw [h]
theorem numb_can (xs : List α) : Can (numbF [] xs) := numbF_can xs []
theorem numb_len (xs ds : List α) : (numbF ds xs).length = xs.length := by
  obtain ⟨f, _, _, h3⟩ := numbF_map xs ds
  rw [h3, List.length_map]
end

end Cs
namespace Cs
open PySem L2
open PyProof.Rows (envOfC)
/-! labels numbered by first occurrence -/
theorem idx_ne {α : Type} [DecidableEq α] {a x : α} {l : List α} (h : a ≠ x) : (a :: l).idxOf x = (l.idxOf x).succ := by
  rw [List.idxOf_cons, beq_false_of_ne h]; rfl
theorem find_idx {κ β : Type} [DecidableEq κ] (R : Nat → β → Prop) (k : κ) : ∀ (xs : List (κ × β)) (o : Nat), (∀ (i : Nat) (p : κ × β), xs[i]? = some p → R (o + i) p.2) →
    (∀ v, (xs.find? fun x => decide (x.1 = k)).map (·.2) = some v → k ∈ xs.map (·.1) ∧ R (o + (xs.map (·.1)).idxOf k) v) ∧ ((xs.find? fun x => decide (x.1 = k)).map (·.2) = none → k ∉ xs.map (·.1))
  | [], o, _ => ⟨fun v h => by simp at h, fun _ => by simp⟩
  | x :: xs, o, h => by
    obtain ⟨h1, h2⟩ := find_idx R k xs (o + 1) fun i p e => by
      have := h (i + 1) p (by simpa using e)
      rw [show o + 1 + i = o + (i + 1) by omega]
      exact this
    by_cases e : x.1 = k
    · have h0 := h 0 x (by simp)
      rw [List.find?_cons_of_pos (by simpa using e)]
      refine ⟨fun v hv => ?_, fun hv => by simp at hv⟩
      have ev : x.2 = v := by simpa using hv
      subst ev
      rw [List.map_cons, e, List.idxOf_cons_self]
      exact ⟨List.mem_cons_self, h0⟩
    · rw [List.find?_cons_of_neg (by simpa using e)]
      refine ⟨fun v hv => ?_, fun hv hm => ?_⟩
      · obtain ⟨m, r⟩ := h1 v hv
        refine ⟨List.mem_cons_of_mem _ m, ?_⟩
        rw [List.map_cons, idx_ne e]
        rw [show o + ((xs.map (·.1)).idxOf k).succ = o + 1 + (xs.map (·.1)).idxOf k by omega]
        exact r
      · rcases List.mem_cons.mp hm with q | q
        · exact e q.symm
        · exact h2 hv q
theorem lfB_inj {a b : Bool} (h : lfB a = lfB b) : a = b := by
  cases a <;> cases b <;> first | rfl | (simp [lfB] at h)
/-- the dict tells the labels ds -/
def KvB (kvs : List (PySem.Leaf × V)) (ds : List Bool) : Prop := kvs.map (·.1) = ds.map lfB ∧ ∀ (i : Nat) (p : PySem.Leaf × V), kvs[i]? = some p → p.2 = .int (i : Nat)
def KvT (xs : List (NestedKey × Addr × Value)) (ds : List NestedKey) : Prop := xs.map (·.1) = ds ∧ ∀ (i : Nat) (p : NestedKey × Addr × Value), xs[i]? = some p → RelV (.int (i : Nat)) p.2.2
theorem idx_map {α β : Type} [DecidableEq α] [DecidableEq β] {f : α → β} (hf : ∀ a b, f a = f b → a = b) (x : α) : ∀ ds : List α, (ds.map f).idxOf (f x) = ds.idxOf x
  | [] => rfl
  | d :: ds => by
    by_cases e : d = x
    · subst e; rw [List.map_cons, List.idxOf_cons_self, List.idxOf_cons_self]
    · rw [List.map_cons, idx_ne (fun q => e (hf _ _ q)), idx_ne e, idx_map hf x ds]
theorem kvB_at {kvs : List (PySem.Leaf × V)} {ds : List Bool} (h : KvB kvs ds) (x : Bool) : (∀ v, valV kvs (lfB x) = some v → x ∈ ds ∧ v = .int (ds.idxOf x : Nat)) ∧ (valV kvs (lfB x) = none → x ∉ ds) := by
  obtain ⟨h1, h2⟩ := h
  obtain ⟨a, b⟩ := find_idx (fun i (v : V) => v = .int (i : Nat)) (lfB x) kvs 0 fun i p e => by rw [Nat.zero_add]; exact h2 i p e
  rw [h1] at a b
  refine ⟨fun v hv => ?_, fun hv hm => b hv (List.mem_map.mpr ⟨x, hm, rfl⟩)⟩
  obtain ⟨m, e⟩ := a v hv
  obtain ⟨y, hy, ey⟩ := List.mem_map.mp m
  obtain rfl := lfB_inj ey
  rw [Nat.zero_add, idx_map (fun _ _ => lfB_inj)] at e
  exact ⟨hy, e⟩
theorem kvB_put {kvs : List (PySem.Leaf × V)} {ds : List Bool} (h : KvB kvs ds) {x : Bool} (hn : valV kvs (lfB x) = none) : KvB (putK kvs (lfB x) (.int (ds.length : Nat))) (ds ++ [x]) := by
  obtain ⟨h1, h2⟩ := h
  have hl : kvs.length = ds.length := by rw [← List.length_map (f := (·.1)), h1, List.length_map]
  have e : putK kvs (lfB x) (.int (ds.length : Nat)) = kvs ++ [(lfB x, .int (ds.length : Nat))] := by
    unfold putK
    rw [if_neg (by rw [valV_any, hn]; simp)]
  rw [e]
  refine ⟨by simp [h1], fun i p q => ?_⟩
  rcases Nat.lt_or_ge i kvs.length with l | l
  · rw [List.getElem?_append_left l] at q; exact h2 i p q
  · have := (List.getElem?_eq_some_iff.mp q).1
    have ei : i = ds.length := by simp at this; omega
    subst ei
    rw [← hl] at q
    simp at q
    rw [← q, hl]
theorem kvT_at {xs : List (NestedKey × Addr × Value)} {ds : List NestedKey} (h : KvT xs ds) (k : NestedKey) : (∀ p, atKey xs k = some p → k ∈ ds ∧ RelV (.int (ds.idxOf k : Nat)) p.2) ∧ (atKey xs k = none → k ∉ ds) := by
  obtain ⟨h1, h2⟩ := h
  obtain ⟨a, b⟩ := find_idx (fun i (p : Addr × Value) => RelV (.int (i : Nat)) p.2) k xs 0 fun i p e => by rw [Nat.zero_add]; exact h2 i p e
  rw [h1] at a b
  exact ⟨fun p hp => by have := a p hp; rw [Nat.zero_add] at this; exact this, b⟩
theorem kvT_put {xs : List (NestedKey × Addr × Value)} {ds : List NestedKey} (h : KvT xs ds) {k : NestedKey} {b : Addr} {u : Value} (hu : RelV (.int (ds.length : Nat)) u) : KvT (xs ++ [(k, b, u)]) (ds ++ [k]) := by
  obtain ⟨h1, h2⟩ := h
  have hl : xs.length = ds.length := by rw [← List.length_map (f := (·.1)), h1]
  refine ⟨by simp [h1], fun i p q => ?_⟩
  rcases Nat.lt_or_ge i xs.length with l | l
  · rw [List.getElem?_append_left l] at q; exact h2 i p q
  · have := (List.getElem?_eq_some_iff.mp q).1
    have ei : i = xs.length := by simp at this; omega
    subst ei
    simp at q
    rw [← q, hl]
    exact hu
theorem drop_at {α : Type} {l : List α} {i : Nat} {x : α} (h : l[i]? = some x) : l.drop i = x :: l.drop (i + 1) := by
  obtain ⟨hi, e⟩ := List.getElem?_eq_some_iff.mp h
  rw [List.drop_eq_getElem_cons hi, e]
abbrev iV (ns : List Nat) : List V := ns.map fun n => V.int (n : Nat)
def sp_numbered : Sp := fun vs H Q _ => ∃ (p : Addr) (xs : List V), vs = [.ref p] ∧ H p = some (.lst xs) ∧ xs.length ≤ 100000 ∧
  ((∃ bs : List Bool, xs = bs.map V.bl ∧ ∀ r H', L2.Same H H' → H r = none → H' r = some (.lst (iV (numbF [] bs))) → Q (.ref r) H') ∨
   ∃ (ks : List NestedKey) (as : List Addr), xs = as.map V.ref ∧ as.length = ks.length ∧ (∀ (i : Nat) (k : NestedKey) (b : Addr), ks[i]? = some k → as[i]? = some b → KeyAt H k b) ∧ ∀ r H', L2.Same H H' → H r = none → H' r = some (.lst (iV (numbF [] ks))) → Q (.ref r) H')
section
variable {P : Program} {w : World} {K : PySem.W.Frag} {mg : Str → Option Value} {base : Heap}
theorem ok_numbered (B : Blt mg) (F : At K mg "_numbered" s__numbered ["labels"]) : Cal P w K mg base 1 "_numbered" ["labels"] sp_numbered := by
  refine F.ok (k := 0) sc__numbered (fun vs H Q E h => ?_) (fun f cdv A outer s H vs Q E hr h => ?_)
  · obtain ⟨p, xs, rfl, _⟩ := h
    rfl
  · obtain ⟨p, xs, rfl, hp, hlen, h⟩ := h
    refine ⟨_, (pss_cons (ps_set (i := 1) sc__numbered.nd rfl (Or.inr rfl) (pe_nd0P (P := P) (w := w) (by rfl) (by rfl)))
    (pss_one (ps_ret (pe_lc (own := [("label", 2)]) rfl sc__numbered.nd (pi_listK (K := K) (by rfl) (pv 0)) (blkOk_by (N := ["labels", "numbers", "label"]) (sc := defScope s__numbered) (by decide +kernel)) (fun _ _ _ _ _ => (pg_name (i := 2) sc__numbered.nd rfl (Or.inl rfl))) (fun _ _ _ _ _ => pts_nil) (fun _ _ _ _ _ => (pe_nsetP (P := P) (w := w) (by rfl) (by rfl) (k := 0) (hr.mono (by first | decide | omega)) (pv 1) (pv 2) (pe_callB (call_lenNP (P := P) (w := w) (by rfl) (by rfl)) (by rfl) B.len PySem.boot_len (pa_cons (pv 1) pa_nil)) ⟨rfl, rfl, rfl, rfl⟩)))))), ?_⟩
    walk_at "go"
    intro a ha
    have pa : p ≠ a := fun z => by rw [z, ha] at hp; cases hp
    rcases h with ⟨bs, rfl, k⟩ | ⟨ks, as, rfl, hl, hk, k⟩
    · refine .inl ?_
      walk_at "go"
      refine ⟨p, rfl, ⟨_, SqL.of (by rw [upd_ne pa]; exact hp)⟩, fun D hD => ?_⟩
      have Da : D ≠ a := fun z => by rw [z, upd_same] at hD; cases hD
      have hD0 : H D = none := by rw [upd_ne Da] at hD; exact hD
      refine lc_list (xs := bs.map V.bl) (fun i H' => ∃ (ds : List Bool) (ms : List Nat) (kvs : List (PySem.Leaf × V)), H' a = some (LB P w a kvs) ∧ KvB kvs ds ∧ H' D = some (.lst (iV ms)) ∧ ms ++ numbF ds (bs.drop i) = numbF [] bs ∧ ds.length ≤ i ∧ ms.length = i ∧ L2.Same H H') ?_ ?_ ?_ ?_
      · refine ⟨[], [], [], by rw [upd_ne Da.symm, upd_same], ⟨rfl, fun i p e => by simp at e⟩, upd_same, rfl, Nat.zero_le _, rfl, fun b o e => ?_⟩
        rw [upd_ne (fun z => by rw [z, hD0] at e; cases e), upd_ne (fun z => by rw [z, ha] at e; cases e)]
        exact e
      · rintro i H' hi ⟨ds, ms, kvs, e1, kv, e2, en, dl, ml, sm⟩
        exact SqL.of (sm p _ hp)
      · rintro i x H' hx ⟨ds, ms, kvs, e1, kv, e2, en, dl, ml, sm⟩
        obtain ⟨b, hb, rfl⟩ : ∃ b, bs[i]? = some b ∧ V.bl b = x := by simpa using hx
        have hi := (List.getElem?_eq_some_iff.mp hb).1
        rw [List.length_map] at hlen
        have hkl : kvs.length = ds.length := by rw [← List.length_map (f := (·.1)), kv.1, List.length_map]
        rw [drop_at hb, numbF] at en
        walk_at "go"
        refine ⟨rfl, ?_⟩
        walk_at "go"
        refine rd_nset ?_
        walk_at "go"
        refine ⟨a, rfl, .inl ⟨kvs, e1⟩, ?_⟩
        walk_at "go"
        refine ⟨a, rfl, .inl ⟨kvs, e1, ?_⟩⟩
        obtain ⟨q1, q2⟩ := kvB_at kv b
        refine .inl ⟨kvs, b, e1, rfl, by rw [hkl, PySem.sizeLine_eq]; omega, fun v hv => ?_, fun hn => ?_⟩
        · obtain ⟨m, rfl⟩ := q1 v hv
          rw [if_pos m] at en
          refine ⟨_, e2, by rw [List.length_map, ml, PySem.sizeLine_eq]; omega, ds, ms ++ [ds.idxOf b], kvs, by rw [upd_ne Da.symm]; exact e1, kv, by rw [upd_same]; simp, by rw [List.append_assoc]; exact en, by omega, by simp [ml], fun b' o e => ?_⟩
          rw [upd_ne (fun z => by rw [z, hD0] at e; cases e)]
          exact sm b' o e
        · rw [if_neg (q2 hn)] at en
          rw [hkl]
          refine ⟨_, by rw [upd_ne Da]; exact e2, by rw [List.length_map, ml, PySem.sizeLine_eq]; omega, ds ++ [b], ms ++ [ds.length], _, by rw [upd_ne Da.symm, upd_same], kvB_put kv hn, by rw [upd_same]; simp, by rw [List.append_assoc]; exact en, by simp; omega, by simp [ml], fun b' o e => ?_⟩
          rw [upd_ne (fun z => by rw [z, hD0] at e; cases e), upd_ne (fun z => by rw [z, ha] at e; cases e)]
          exact sm b' o e
      · rintro H' ⟨ds, ms, kvs, e1, kv, e2, en, dl, ml, sm⟩
        rw [List.length_map, List.drop_length, numbF, List.append_nil] at en
        walk_at "go"
        exact k D H' sm hD0 (by rw [← en]; exact e2)
    · refine .inr ?_
      walk_at "go"
      refine ⟨p, rfl, ⟨_, SqL.of (by rw [upd_ne pa]; exact hp)⟩, fun D hD => ?_⟩
      have Da : D ≠ a := fun z => by rw [z, upd_same] at hD; cases hD
      have hD0 : H D = none := by rw [upd_ne Da] at hD; exact hD
      refine lc_list (xs := as.map V.ref) (fun i H' => ∃ (ds : List NestedKey) (ms : List Nat) (kvs : List (NestedKey × Addr × Value)), H' a = some (MO P w a kvs) ∧ KvT kvs ds ∧ (∀ x ∈ kvs, KeyAt H x.1 x.2.1) ∧ H' D = some (.lst (iV ms)) ∧ ms ++ numbF ds (ks.drop i) = numbF [] ks ∧ ds.length ≤ i ∧ ms.length = i ∧ L2.Same H H') ?_ ?_ ?_ ?_
      · refine ⟨[], [], [], by rw [upd_ne Da.symm, upd_same], ⟨rfl, fun i p e => by simp at e⟩, fun x hx => by simp at hx, upd_same, rfl, Nat.zero_le _, rfl, fun b o e => ?_⟩
        rw [upd_ne (fun z => by rw [z, hD0] at e; cases e), upd_ne (fun z => by rw [z, ha] at e; cases e)]
        exact e
      · rintro i H' hi ⟨ds, ms, kvs, e1, kv, ka, e2, en, dl, ml, sm⟩
        exact SqL.of (sm p _ hp)
      · rintro i x H' hx ⟨ds, ms, kvs, e1, kv, ka, e2, en, dl, ml, sm⟩
        obtain ⟨b, hb, rfl⟩ : ∃ b, as[i]? = some b ∧ V.ref b = x := by simpa using hx
        have hi := (List.getElem?_eq_some_iff.mp hb).1
        rw [List.length_map] at hlen
        have hkl : kvs.length = ds.length := by rw [← List.length_map (f := (·.1)), kv.1]
        have hkk := List.getElem?_eq_getElem (l := ks) (i := i) (by omega)
        obtain ⟨kk, ekk⟩ : ∃ kk, ks[i]? = some kk := ⟨_, hkk⟩
        have hb1 : KeyAt H kk b := hk i kk b ekk hb
        have ts : TS H H' := fun c xs e => sm c _ e
        have hb2 := hb1.ts ts
        have ka2 : KeysAt H' kvs := fun x hx => (ka x hx).ts ts
        rw [drop_at ekk, numbF] at en
        walk_at "go"
        refine ⟨rfl, ?_⟩
        walk_at "go"
        refine rd_nset ?_
        walk_at "go"
        refine ⟨a, rfl, .inr ⟨kvs, e1, ka2⟩, ?_⟩
        walk_at "go"
        refine ⟨a, rfl, .inr ⟨kvs, e1, ka2, ?_⟩⟩
        obtain ⟨q1, q2⟩ := kvT_at kv kk
        refine .inr ⟨kvs, kk, b, e1, ka2, rfl, hb2, by rw [hkl, PySem.sizeLine_eq]; omega, fun v hv => ?_, fun hn u hu => ?_⟩
        · obtain ⟨m, rv⟩ := q1 v hv
          rw [if_pos m] at en
          refine ⟨_, rv, _, e2, by rw [List.length_map, ml, PySem.sizeLine_eq]; omega, ds, ms ++ [ds.idxOf kk], kvs, by rw [upd_ne Da.symm]; exact e1, kv, ka, by rw [upd_same]; simp, by rw [List.append_assoc]; exact en, by omega, by simp [ml], fun b' o e => ?_⟩
          rw [upd_ne (fun z => by rw [z, hD0] at e; cases e)]
          exact sm b' o e
        · rw [if_neg (q2 hn)] at en
          rw [hkl] at hu ⊢
          refine ⟨_, by rw [upd_ne Da]; exact e2, by rw [List.length_map, ml, PySem.sizeLine_eq]; omega, ds ++ [kk], ms ++ [ds.length], _, by rw [upd_ne Da.symm, upd_same], kvT_put kv hu, fun x hx => ?_, by rw [upd_same]; simp, by rw [List.append_assoc]; exact en, by simp; omega, by simp [ml], fun b' o e => ?_⟩
          · rcases List.mem_append.mp hx with hx | hx
            · exact ka x hx
            · rw [List.mem_singleton.mp hx]; exact hb1
          · rw [upd_ne (fun z => by rw [z, hD0] at e; cases e), upd_ne (fun z => by rw [z, ha] at e; cases e)]
            exact sm b' o e
      · rintro H' ⟨ds, ms, kvs, e1, kv, ka, e2, en, dl, ml, sm⟩
        rw [List.length_map, hl, List.drop_length, numbF, List.append_nil] at en
        walk_at "go"
        exact k D H' sm hD0 (by rw [← en]; exact e2)
end

end Cs
namespace Cs
open PySem L2
open PyProof.Rows (envOfC)
/-! list(zip(a, b)) of two lists: the pairs are new tuples -/
namespace ZL
open PySem
abbrev IsZipL (h : Heap) (z TI TO T : Addr) (b : Bool) : Prop :=
  h.get? z = some { cls := .type "zip", dict := none, data := .fields #[rawInt T, .bool b, .bool false, .ref TI, .ref TO], slots := #[] }
section
variable {prog : Program} {w : World} {A : Around} {E : Value → Shared → Prop} {s : Shared}
theorem alive {M : Model} {T : Addr} {o : Obj} {Q : Option Obj → Shared → Prop} (h : s.heap.get? T = some o) (k : Q (some o) s) : wpAny M A (loadIfAlive T) Q E s := by
  intro Γ p _
  unfold loadIfAlive
  rw [Sem.wp]
  rw [h]
  exact k
theorem isFree {z TI TO T : Addr} {b : Bool} {o : Obj} {Q : Bool → Shared → Prop} (hz : IsZipL s.heap z TI TO T b) (hT : s.heap.get? T = some o)
    (k : ∀ h', IsZipL h' z TI TO T true → Heap.SameBut z s.heap h' → Q false { s with heap := h' }) : wpAny (model prog w) A (Builtin.SmallTypes.ownedTupleIsFree (.ref z)) Q E s := by
  unfold Builtin.SmallTypes.ownedTupleIsFree
  refine wpAny_bind (wpAny_field hz rfl (x := rawInt T) rfl ?_)
  show wpAny _ _ (loadIfAlive T >>= _) _ _ _
  refine wpAny_bind (alive hT ?_)
  show wpAny _ _ (field (.ref z) 1 >>= _) _ _ _
  refine wpAny_bind (wpAny_field hz rfl (x := .bool b) rfl ?_)
  cases b with
  | true => exact wpAny_pure (k s.heap hz (Heap.SameBut.refl _ _))
  | false =>
    refine wpAny_bind (wpAny_setField_rec hz (by simp) fun h₁ hz₁ hs₁ => ?_)
    exact wpAny_pure (k h₁ hz₁ hs₁)
theorem next_item {z TI TO i1 i2 l1 l2 T : Addr} {b : Bool} {k1 k2 : Nat} {xs ys : Array Value} {x y : Value} {o : Obj} {Q : Value → Shared → Prop} (D : ZipApart z TI TO i1 i2 l1 l2)
    (hz : IsZipL s.heap z TI TO T b) (hT : s.heap.get? T = some o) (hTI : IsPair s.heap TI (.ref i1) (.ref i2))
    (h1 : s.heap.IsListIter i1 l1 k1) (h2 : s.heap.IsListIter i2 l2 k2) (hl1 : s.heap.IsList l1 xs) (hl2 : s.heap.IsList l2 ys) (hx : xs[k1]? = some x) (hy : ys[k2]? = some y)
    (hQ : ∀ h', IsZipL h' z TI TO T true → h'.IsListIter i1 l1 (k1 + 1) → h'.IsListIter i2 l2 (k2 + 1) → IsPair h' s.heap.objs.size x y → h'.objs.size = s.heap.objs.size + 1 →
      (∀ c o, c ≠ z → c ≠ i1 → c ≠ i2 → s.heap.get? c = some o → h'.get? c = some o) → Q (.ref s.heap.objs.size) { s with heap := h' }) :
    wpAny (model prog w) A (Builtin.«zip.__next__» ⟨[.ref z], []⟩) (fun fin s' => ∃ v, fin = .done (.ret v) ∧ Q v s') E s := by
  show wpAny _ _ (field (.ref z) 2 >>= _) _ _ _
  refine wpAny_bind (wpAny_field hz rfl (x := .bool false) rfl ?_)
  show wpAny _ _ (field (.ref z) 3 >>= _) _ _ _
  refine wpAny_bind (wpAny_field hz rfl (x := .ref TI) rfl ?_)
  refine wpAny_bind (wpAny_seqItems hTI rfl ?_)
  show wpAny _ _ (Builtin.SmallTypes.ownedTupleIsFree (.ref z) >>= _) _ _ _
  refine wpAny_bind (isFree hz hT fun h₁ hz₁ hs₁ => ?_)
  simp only [Bool.false_eq_true, if_false]
  refine wpAny_bind ?_
  simp only [List.forIn_cons, List.forIn_nil, Array.forIn_toList.symm]
  refine wpAny_bind (wpAny_bind (wpAny_holding ?_))
  show wpAny _ _ (Builtin.SmallTypes.nextOf (.ref i1) >>= _) _ _ _
  refine wpAny_bind (wpAny_nextOf_list_item (h1.extBut hs₁.extBut D.i1z) (hl1.extBut hs₁.extBut D.l1z) hx fun h₂ h1₂ hs₂ => wpAny_pure (wpAny_pure ?_))
  refine wpAny_bind (wpAny_bind (wpAny_holding ?_))
  show wpAny _ _ (Builtin.SmallTypes.nextOf (.ref i2) >>= _) _ _ _
  refine wpAny_bind (wpAny_nextOf_list_item ((h2.extBut hs₁.extBut D.i2z).extBut hs₂.extBut D.i12.symm) ((hl2.extBut hs₁.extBut D.l2z).extBut hs₂.extBut D.l2i1) hy fun h₃ h2₃ hs₃ => wpAny_pure (wpAny_pure (wpAny_pure ?_)))
  show wpAny _ _ (newTuple [x, y] >>= _) _ _ _
  refine wpAny_bind (wpAny_newTuple ?_)
  have hsz : h₃.objs.size = s.heap.objs.size := by rw [hs₃.1, hs₂.1, hs₁.1]
  have hz₃ : IsZipL h₃ z TI TO T true := hs₃.extBut _ _ D.i2z.symm (hs₂.extBut _ _ D.i1z.symm hz₁)
  have up : ∀ c o, h₃.get? c = some o → (h₃.push { cls := .type "tuple", data := .seq #[x, y] }).get? c = some o := fun c o e => Heap.get?_push_of_some _ e
  have hk₃ : ∀ c o, c ≠ z → c ≠ i1 → c ≠ i2 → s.heap.get? c = some o → h₃.get? c = some o := fun c o c1 c3 c4 e => hs₃.extBut _ _ c4 (hs₂.extBut _ _ c3 (hs₁.extBut _ _ c1 e))
  have h1₃ : h₃.IsListIter i1 l1 (k1 + 1) := h1₂.extBut hs₃.extBut D.i12
  refine wpAny_pure ⟨_, rfl, ?_⟩
  show Q (.ref h₃.objs.size) _
  have hT8 : IsPair (h₃.push { cls := .type "tuple", data := .seq #[x, y] }) h₃.objs.size x y := Heap.get?_push_size _ rfl
  have hz8 : (h₃.push { cls := .type "tuple", data := .seq #[x, y] }).objs.size = h₃.objs.size + 1 := Heap.size_push ..
  have q := hQ (h₃.push { cls := .type "tuple", data := .seq #[x, y] }) (up _ _ hz₃) (h1₃.at fun o e => up _ o e) (h2₃.at fun o e => up _ o e) (by rw [← hsz]; exact hT8) (by rw [← hsz]; exact hz8) fun c o c1 c3 c4 e => up c o (hk₃ c o c1 c3 c4 e)
  rw [hsz]
  exact q
theorem next_end {z TI TO i1 i2 l1 l2 T : Addr} {b : Bool} {k1 : Nat} {xs : Array Value} {o : Obj} {Q : Fin → Shared → Prop} (hh : A.handled = none) (D : ZipApart z TI TO i1 i2 l1 l2)
    (hz : IsZipL s.heap z TI TO T b) (hT : s.heap.get? T = some o) (hTI : IsPair s.heap TI (.ref i1) (.ref i2))
    (h1 : s.heap.IsListIter i1 l1 k1) (hl1 : s.heap.IsList l1 xs) (hx : xs[k1]? = none)
    (hE : ∀ h' e, (∀ c o, c ≠ z → c ≠ i1 → c ≠ i2 → s.heap.get? c = some o → h'.get? c = some o) → (∃ o, h'.get? e = some o ∧ o.cls = .type "StopIteration") → E (.ref e) { s with heap := h' }) :
    wpAny (model prog w) A (Builtin.«zip.__next__» ⟨[.ref z], []⟩) Q E s := by
  show wpAny _ _ (field (.ref z) 2 >>= _) _ _ _
  refine wpAny_bind (wpAny_field hz rfl (x := .bool false) rfl ?_)
  show wpAny _ _ (field (.ref z) 3 >>= _) _ _ _
  refine wpAny_bind (wpAny_field hz rfl (x := .ref TI) rfl ?_)
  refine wpAny_bind (wpAny_seqItems hTI rfl ?_)
  show wpAny _ _ (Builtin.SmallTypes.ownedTupleIsFree (.ref z) >>= _) _ _ _
  refine wpAny_bind (isFree hz hT fun h₁ hz₁ hs₁ => ?_)
  simp only [Bool.false_eq_true, if_false]
  refine wpAny_bind ?_
  simp only [List.forIn_cons, List.forIn_nil, Array.forIn_toList.symm]
  refine wpAny_bind (wpAny_bind (wpAny_holding ?_))
  show wpAny _ _ (Builtin.SmallTypes.nextOf (.ref i1) >>= _) _ _ _
  refine wpAny_bind (wpAny_nextOf_list_end hh (h1.extBut hs₁.extBut D.i1z) (hl1.extBut hs₁.extBut D.l1z) hx fun h₂ e hs₂ he => ?_)
  exact hE h₂ e (fun c o c1 c3 _ x => hs₂ _ _ c3 (hs₁.extBut _ _ c1 x)) he
theorem py_item {z TI TO i1 i2 l1 l2 T : Addr} {b : Bool} {k1 k2 : Nat} {xs ys : Array Value} {x y : Value} {o : Obj} {Q : Option Value → Shared → Prop} (D : ZipApart z TI TO i1 i2 l1 l2)
    (hz : IsZipL s.heap z TI TO T b) (hT : s.heap.get? T = some o) (hTI : IsPair s.heap TI (.ref i1) (.ref i2))
    (h1 : s.heap.IsListIter i1 l1 k1) (h2 : s.heap.IsListIter i2 l2 k2) (hl1 : s.heap.IsList l1 xs) (hl2 : s.heap.IsList l2 ys) (hx : xs[k1]? = some x) (hy : ys[k2]? = some y)
    (hQ : ∀ h', IsZipL h' z TI TO T true → h'.IsListIter i1 l1 (k1 + 1) → h'.IsListIter i2 l2 (k2 + 1) → IsPair h' s.heap.objs.size x y → h'.objs.size = s.heap.objs.size + 1 →
      (∀ c o, c ≠ z → c ≠ i1 → c ≠ i2 → s.heap.get? c = some o → h'.get? c = some o) → Q (some (.ref s.heap.objs.size)) { s with heap := h' }) :
    wpAny (model prog w) A (pyNext (.ref z)) Q E s := by
  have hy' : s.TypeIs (.ref z) "zip" := ⟨_, hz, rfl⟩
  unfold pyNext
  exact wpAny_bind (wpAny_attempt (wpAny_callSpecial?_slot (name := Str.ofString "__next__") hy' F.slot_zip_next
    (wpAny_call_entry F.slot_zip_next hy' F.entry_zip_next
      (next_item D hz hT hTI h1 h2 hl1 hl2 hx hy fun h' a1 a2 a3 a4 a5 a6 => wpAny_pure (hQ h' a1 a2 a3 a4 a5 a6)) (F.args_zip_next_1 _))))
theorem py_end {z TI TO i1 i2 l1 l2 T : Addr} {b : Bool} {k1 : Nat} {xs : Array Value} {o : Obj} {Q : Option Value → Shared → Prop} (hh : A.handled = none) (D : ZipApart z TI TO i1 i2 l1 l2)
    (hz : IsZipL s.heap z TI TO T b) (hT : s.heap.get? T = some o) (hTI : IsPair s.heap TI (.ref i1) (.ref i2))
    (h1 : s.heap.IsListIter i1 l1 k1) (hl1 : s.heap.IsList l1 xs) (hx : xs[k1]? = none)
    (hQ : ∀ h', (∀ c o, c ≠ z → c ≠ i1 → c ≠ i2 → s.heap.get? c = some o → h'.get? c = some o) → Q none { s with heap := h' }) : wpAny (model prog w) A (pyNext (.ref z)) Q E s := by
  have hy' : s.TypeIs (.ref z) "zip" := ⟨_, hz, rfl⟩
  unfold pyNext
  refine wpAny_bind (wpAny_attempt (wpAny_callSpecial?_slot (name := Str.ofString "__next__") hy' F.slot_zip_next
    (wpAny_call_entry F.slot_zip_next hy' F.entry_zip_next (next_end hh D hz hT hTI h1 hl1 hx fun h' e hk he => ?_) (F.args_zip_next_1 _))))
  obtain ⟨o, ho, hc⟩ := he
  refine wpAny_bind (wpAny_isInstance (T := "StopIteration") (b := true) ⟨o, ho, hc⟩ isSubtype_stop ?_)
  exact wpAny_pure (hQ _ hk)
/-- amid the walk: i pairs are made -/
structure Zs (h : Heap) (z TI TO i1 i2 l1 l2 S n0 : Addr) (xs ys : Array Value) (i : Nat) (ts : List Addr) : Prop where
  pTI : IsPair h TI (.ref i1) (.ref i2)
  h1 : h.IsListIter i1 l1 i
  h2 : h.IsListIter i2 l2 i
  l1 : h.IsList l1 xs
  l2 : h.IsList l2 ys
  zz : (i = 0 ∧ IsZip h z TI TO .none ∧ ∃ a b, IsPair h TO a b) ∨ ∃ T b o, IsZipL h z TI TO T b ∧ h.get? T = some o
  S : ∃ c, h.get? S = some { cls := .type "list", dict := none, data := .seq (ts.map Value.ref).toArray c, slots := #[] }
  len : ts.length = i
  new : ∀ t ∈ ts, n0 ≤ t ∧ t < h.objs.size
  nd : ts.Nodup
  pair : ∀ (j : Nat) (t : Addr) (x y : Value), ts[j]? = some t → xs[j]? = some x → ys[j]? = some y → IsPair h t x y
  sz : n0 ≤ h.objs.size
/-- the places -/
structure Pl (z TI TO i1 i2 l1 l2 S n0 : Addr) : Prop where
  D : ZipApart z TI TO i1 i2 l1 l2
  Sz : S ≠ z
  STI : S ≠ TI
  STO : S ≠ TO
  Si1 : S ≠ i1
  Si2 : S ≠ i2
  Sl1 : S ≠ l1
  Sl2 : S ≠ l2
  z0 : z < n0
  TI0 : TI < n0
  TO0 : TO < n0
  i10 : i1 < n0
  i20 : i2 < n0
  l10 : l1 < n0
  l20 : l2 < n0
  S0 : S < n0
theorem step {z TI TO i1 i2 l1 l2 S n0 : Addr} {xs ys : Array Value} {i : Nat} {ts : List Addr} {x y : Value} {Q : Option Value → Shared → Prop} (L : Pl z TI TO i1 i2 l1 l2 S n0) (Z : Zs s.heap z TI TO i1 i2 l1 l2 S n0 xs ys i ts) (hx : xs[i]? = some x) (hy : ys[i]? = some y)
    (hQ : ∀ h', (∀ b o, b ≠ z → b ≠ TO → b ≠ i1 → b ≠ i2 → s.heap.get? b = some o → h'.get? b = some o) → h'.objs.size = s.heap.objs.size + 1 → IsPair h' s.heap.objs.size x y → h'.IsListIter i1 l1 (i + 1) → h'.IsListIter i2 l2 (i + 1) → (∃ b, IsZipL h' z TI TO s.heap.objs.size b ∨ ∃ T o, IsZipL h' z TI TO T b ∧ h'.get? T = some o) → Q (some (.ref s.heap.objs.size)) { s with heap := h' }) :
    wpAny (model prog w) A (pyNext (.ref z)) Q E s := by
  have D := L.D
  rcases Z.zz with ⟨_, hz, a, b, hTO⟩ | ⟨T, b, o, hz, hT⟩
  · refine wpAny_pyNext_zip_item D hz Z.pTI hTO Z.h1 Z.h2 Z.l1 Z.l2 hx hy fun h' a1 a2 a3 a4 a5 a6 a7 => ?_
    exact hQ h' a7 a6 a5 a3 a4 ⟨false, .inl a1⟩
  · refine py_item D hz hT Z.pTI Z.h1 Z.h2 Z.l1 Z.l2 hx hy fun h' a1 a2 a3 a4 a5 a6 => ?_
    refine hQ h' (fun b o b1 _ b3 b4 e => a6 b o b1 b3 b4 e) a5 a4 a2 a3 ⟨true, .inr ⟨T, ?_⟩⟩
    have hlt := Heap.lt_size hT
    have : ∃ o', h'.get? T = some o' := by
      by_cases e1 : T = z
      · rw [e1]; exact ⟨_, a1⟩
      · by_cases e2 : T = i1
        · rw [e2]; obtain ⟨q, e, _⟩ := a2; exact ⟨_, e⟩
        · by_cases e3 : T = i2
          · rw [e3]; obtain ⟨q, e, _⟩ := a3; exact ⟨_, e⟩
          · exact ⟨_, a6 T o e1 e2 e3 hT⟩
    obtain ⟨o', e⟩ := this
    exact ⟨o', a1, e⟩
theorem loop {z TI TO i1 i2 l1 l2 S n0 : Addr} {xs ys : Array Value} {n : Nat} {R : Result → Shared → Prop} (L : Pl z TI TO i1 i2 l1 l2 S n0) (hh : A.in1.handled = none) (hxs : xs.size = n) (hys : ys.size = n) (hn : n ≤ sizeLine) (res : Value) :
    ∀ (k i : Nat) (s : Shared) (ts : List Addr), n - i = k → i ≤ n → Zs s.heap z TI TO i1 i2 l1 l2 S n0 xs ys i ts →
    (∀ (h' : Heap) (tk : Nat) (ts' : List Addr) (c' : Nat), (∀ b o, b < n0 → b ≠ z → b ≠ TO → b ≠ i1 → b ≠ i2 → b ≠ S → s.heap.get? b = some o → h'.get? b = some o) → h'.get? S = some { cls := .type "list", dict := none, data := .seq (ts'.map Value.ref).toArray c', slots := #[] } → ts'.length = n → (∀ t ∈ ts', n0 ≤ t) → ts'.Nodup →
      (∀ (j : Nat) (t : Addr) (x y : Value), ts'[j]? = some t → xs[j]? = some x → ys[j]? = some y → IsPair h' t x y) → R (.ok (.ret res)) { s with heap := h', toks := tk }) →
    codeAny (model prog w) A (.builtin "list.extend.loop" ⟨[.ref S, .ref z, res], []⟩) R s := by
  have D := L.D
  intro k
  induction k with
  | zero =>
    intro i s ts hk hi Z hR
    obtain ⟨c, zS⟩ := Z.S
    have hin : i = n := by omega
    subst hin
    refine codeAny_builtin F.entry_extend_loop ?_
    rw [Around.under_plainId F.plain_extend_loop _]
    show wpAny _ A.in1 (pyNext (.ref z) >>= _) _ _ s
    have hx : xs[i]? = none := by simp [hxs]
    have fin : ∀ h' : Heap, (∀ c o, c ≠ z → c ≠ TO → c ≠ i1 → c ≠ i2 → s.heap.get? c = some o → h'.get? c = some o) → R (.ok (.ret res)) { s with heap := h' } := fun h' k => by
      refine hR h' s.toks ts c (fun b o _ b1 b2 b3 b4 _ e => k b o b1 b2 b3 b4 e) (k _ _ L.Sz L.STO L.Si1 L.Si2 zS) Z.len (fun t ht => (Z.new t ht).1) Z.nd fun j t x y e1 e2 e3 => ?_
      have hm := (Z.new t (List.mem_of_getElem? e1)).1
      have ne : ∀ u : Addr, u < n0 → t ≠ u := fun u hu e => by
        rw [e] at hm
        exact absurd (Nat.lt_of_lt_of_le hu hm) (Nat.lt_irrefl _)
      exact k t _ (ne _ L.z0) (ne _ L.TO0) (ne _ L.i10) (ne _ L.i20) (Z.pair j t x y e1 e2 e3)
    rcases Z.zz with ⟨e0, hz, a, b, hTO⟩ | ⟨T, b, o, hz, hT⟩
    · refine wpAny_bind (wpAny_pyNext_zip_end hh D hz Z.pTI hTO Z.h1 Z.h2 Z.l1 Z.l2 (.inl hx) fun h' k => ?_)
      exact wpAny_pure (fin h' k)
    · refine wpAny_bind (py_end hh D hz hT Z.pTI Z.h1 Z.l1 hx fun h' k => ?_)
      exact wpAny_pure (fin h' fun c o c1 _ c3 c4 e => k c o c1 c3 c4 e)
  | succ k ih =>
    intro i s ts hk hi Z hR
    obtain ⟨c, zS⟩ := Z.S
    have hlt : i < n := by omega
    refine codeAny_builtin F.entry_extend_loop ?_
    rw [Around.under_plainId F.plain_extend_loop _]
    show wpAny _ A.in1 (pyNext (.ref z) >>= _) _ _ s
    have hx : xs[i]? = some xs[i] := Array.getElem?_eq_getElem (by omega)
    have hy : ys[i]? = some ys[i] := Array.getElem?_eq_getElem (by omega)
    refine wpAny_bind (step L Z hx hy fun h' kp hsz hp g1 g2 hz => ?_)
    have hS' := kp _ _ L.Sz L.STO L.Si1 L.Si2 zS
    show wpAny _ A.in1 (updateSeq S (·.push (.ref s.heap.objs.size)) >>= _) _ _ _
    refine wpAny_bind ?_
    have e1 : (ts.map Value.ref).toArray.size = i := by simp [Z.len]
    have n0s := Z.sz
    have S0 := L.S0; have z0 := L.z0; have TO0 := L.TO0; have i10 := L.i10; have i20 := L.i20; have TI0 := L.TI0; have l10 := L.l10; have l20 := L.l20
    refine wpAny_updateSeq hS' rfl (wpAny_pure ⟨plainId_quiet F.plain_extend_loop _, ih (i + 1) _ (ts ++ [s.heap.objs.size]) (by omega) hlt ?_ fun h2 tk ts' c' k2 a1 a2 a3 a4 a5 => ?_⟩)
      (by rw [e1]; omega) (by show ((ts.map Value.ref).toArray.push _).size ≤ sizeLine + 1; rw [Array.size_push, e1]; omega)
    · have up : ∀ b o, b ≠ S → h'.get? b = some o → (h'.update S (Obj.mapSeq (·.push (Value.ref s.heap.objs.size)))).get? b = some o := fun b o hb e => (Heap.get?_update_other _ _ (Ne.symm hb)).trans e
      have sne : s.heap.objs.size ≠ S := fun e => by
        rw [e] at n0s
        exact absurd (Nat.lt_of_lt_of_le S0 n0s) (Nat.lt_irrefl _)
      have pne : ∀ t ∈ ts, t ≠ S ∧ t ≠ z ∧ t ≠ TO ∧ t ≠ i1 ∧ t ≠ i2 ∧ t < s.heap.objs.size := fun t ht => by
        obtain ⟨q1, q2⟩ := Z.new t ht
        have ne : ∀ u : Addr, u < n0 → t ≠ u := fun u hu e => by
          rw [e] at q1
          exact absurd (Nat.lt_of_lt_of_le hu q1) (Nat.lt_irrefl _)
        exact ⟨ne _ L.S0, ne _ L.z0, ne _ L.TO0, ne _ L.i10, ne _ L.i20, q2⟩
      refine ⟨?_, ?_, ?_, ?_, ?_, .inr ?_, ?_, by simp [Z.len], ?_, ?_, ?_, ?_⟩
      · exact up _ _ L.STI.symm (kp _ _ D.TIz D.TITO D.TIi1 D.TIi2 Z.pTI)
      · exact g1.at fun o q => up _ _ L.Si1.symm q
      · exact g2.at fun o q => up _ _ L.Si2.symm q
      · exact Z.l1.at fun o q => up _ _ L.Sl1.symm (kp _ _ D.l1z D.l1TO D.l1i1 D.l1i2 q)
      · exact Z.l2.at fun o q => up _ _ L.Sl2.symm (kp _ _ D.l2z D.l2TO D.l2i1 D.l2i2 q)
      · obtain ⟨b, hz | ⟨T, o, hz, hT⟩⟩ := hz
        · exact ⟨_, b, _, up _ _ L.Sz.symm hz, up _ _ sne hp⟩
        · by_cases e : T = S
          · rw [e] at hz
            exact ⟨S, b, _, up _ _ L.Sz.symm hz, Heap.get?_update_self _ hS' rfl⟩
          · exact ⟨_, b, _, up _ _ L.Sz.symm hz, up _ _ e hT⟩
      · have e := Heap.get?_update_self (Obj.mapSeq (·.push (Value.ref s.heap.objs.size))) hS' rfl
        have ea : ((ts ++ [s.heap.objs.size]).map Value.ref).toArray = (ts.map Value.ref).toArray.push (Value.ref s.heap.objs.size) := by simp
        rw [ea]
        exact ⟨_, e⟩
      · intro t ht
        show n0 ≤ t ∧ t < (Heap.update _ _ _).objs.size
        rw [Heap.size_update, hsz]
        rcases List.mem_append.mp ht with ht | ht
        · exact ⟨(Z.new t ht).1, Nat.lt_succ_of_lt (Z.new t ht).2⟩
        · rw [List.mem_singleton.mp ht]; exact ⟨n0s, Nat.lt_succ_self _⟩
      · refine List.nodup_append.mpr ⟨Z.nd, by simp, fun a ha b hb => ?_⟩
        rw [List.mem_singleton.mp hb]
        exact Nat.ne_of_lt (Z.new a ha).2
      · intro j t x y e1 e2 e3
        rcases Nat.lt_or_ge j ts.length with l | l
        · rw [List.getElem?_append_left l] at e1
          obtain ⟨p1, p2, p3, p4, p5, p6⟩ := pne t (List.mem_of_getElem? e1)
          exact up _ _ p1 (kp _ _ p2 p3 p4 p5 (Z.pair j t x y e1 e2 e3))
        · rw [List.getElem?_append_right l] at e1
          have ej : j - ts.length = 0 := by
            rcases Nat.eq_zero_or_pos (j - ts.length) with q | q
            · exact q
            · rw [List.getElem?_eq_none (by simp; omega)] at e1; cases e1
          rw [ej] at e1
          have et : t = s.heap.objs.size := by simpa using e1.symm
          have ej2 : j = i := by have := Z.len; omega
          subst et ej2
          rw [hx] at e2
          rw [hy] at e3
          injection e2 with e2
          injection e3 with e3
          subst e2 e3
          exact up _ _ sne hp
      · show n0 ≤ (Heap.update _ _ _).objs.size
        rw [Heap.size_update, hsz]
        exact Nat.le_succ_of_le n0s
    · exact hR h2 tk ts' c' (fun b o b0 b1 b2 b3 b4 b5 e => k2 b o b0 b1 b2 b3 b4 b5 ((Heap.get?_update_other _ _ (Ne.symm b5)).trans (kp b o b1 b2 b3 b4 e))) a1 a2 a3 a4 a5
theorem zip_no_len : typeLookup (.type "zip") "__len__" = pure none := by rw [typeLookup_type, builtinLookup_eq_fast]; kernel_rfl
theorem zip_no_hint : typeLookup (.type "zip") "__length_hint__" = pure none := by rw [typeLookup_type, builtinLookup_eq_fast]; kernel_rfl
/-- what stands after the walk -/
def Zend (h h' : Heap) (z TO i1 i2 S n0 : Addr) (xs ys : Array Value) (n : Nat) (ts : List Addr) : Prop :=
  (∀ b o, b < n0 → b ≠ z → b ≠ TO → b ≠ i1 → b ≠ i2 → b ≠ S → h.get? b = some o → h'.get? b = some o) ∧ (∃ c, h'.get? S = some { cls := .type "list", dict := none, data := .seq (ts.map Value.ref).toArray c, slots := #[] }) ∧ ts.length = n ∧ (∀ t ∈ ts, n0 ≤ t) ∧ ts.Nodup ∧
    ∀ (j : Nat) (t : Addr) (x y : Value), ts[j]? = some t → xs[j]? = some x → ys[j]? = some y → IsPair h' t x y
/-- at the walk's begin -/
structure Zb (h : Heap) (z TI TO i1 i2 l1 l2 n0 : Addr) (xs ys : Array Value) : Prop where
  pTI : IsPair h TI (.ref i1) (.ref i2)
  h1 : h.IsListIter i1 l1 0
  h2 : h.IsListIter i2 l2 0
  l1 : h.IsList l1 xs
  l2 : h.IsList l2 ys
  zz : IsZip h z TI TO .none
  pTO : ∃ a b, IsPair h TO a b
  sz : n0 ≤ h.objs.size
theorem Zb.up {h h' : Heap} {z TI TO i1 i2 l1 l2 S n0 : Addr} {xs ys : Array Value} (L : Pl z TI TO i1 i2 l1 l2 S n0) (Z : Zb h z TI TO i1 i2 l1 l2 n0 xs ys) (k : ∀ b o, b ≠ S → h.get? b = some o → h'.get? b = some o) (hs : h.objs.size ≤ h'.objs.size) : Zb h' z TI TO i1 i2 l1 l2 n0 xs ys where
  pTI := k _ _ L.STI.symm Z.pTI
  h1 := Z.h1.at fun o q => k _ _ L.Si1.symm q
  h2 := Z.h2.at fun o q => k _ _ L.Si2.symm q
  l1 := Z.l1.at fun o q => k _ _ L.Sl1.symm q
  l2 := Z.l2.at fun o q => k _ _ L.Sl2.symm q
  zz := k _ _ L.Sz.symm Z.zz
  pTO := by obtain ⟨a, b, q⟩ := Z.pTO; exact ⟨a, b, k _ _ L.STO.symm q⟩
  sz := Nat.le_trans Z.sz hs
theorem extend {z TI TO i1 i2 l1 l2 S n0 : Addr} {xs ys : Array Value} {n c0 : Nat} {R : Result → Shared → Prop} (L : Pl z TI TO i1 i2 l1 l2 S n0) (hh : A.in1.handled = none) (hxs : xs.size = n) (hys : ys.size = n) (hn : n ≤ sizeLine) (res : Value) (Z : Zb s.heap z TI TO i1 i2 l1 l2 n0 xs ys)
    (hS : s.heap.get? S = some { cls := .type "list", data := .seq #[] c0 }) (hR : ∀ h' tk ts, Zend s.heap h' z TO i1 i2 S n0 xs ys n ts → R (.ok (.ret res)) { s with heap := h', toks := tk }) :
    wpAny (model prog w) A.in1 (Builtin.List.listExtendWith (.ref S) (.ref z) res)
      (fun fin s' => match fin with | .done f => R (.ok f) s' | .again c' => c'.quiet = true ∧ codeAny (model prog w) A c' R s') (fun e s' => R (.error e) s') s := by
  have hT : s.TypeIs (.ref z) "zip" := ⟨_, Z.zz, rfl⟩
  unfold Builtin.List.listExtendWith
  refine wpAny_bind (wpAny_typeOf hT ?_)
  have h1 : Builtin.List.listSameRef (.ref S) (.ref z) = false := by simp [Builtin.List.listSameRef, L.Sz]
  have h2 : (Value.type "zip" == Value.type "list") = false := by decide
  have h3 : (Value.type "zip" == Value.type "tuple") = false := by decide
  simp only [h1, h2, h3, Bool.or_false, Bool.false_eq_true, if_false]
  refine wpAny_bind (wpAny_pyIter_zip Z.zz ?_)
  refine wpAny_bind (wpAny_holding ?_)
  unfold Builtin.List.listLengthHint
  refine wpAny_bind (wpAny_specialOf hT zip_no_len ?_)
  show wpAny _ A.in1 (specialOf (Value.ref z) (Str.ofString "__length_hint__") >>= _) _ _ _
  refine wpAny_bind (wpAny_specialOf hT zip_no_hint ?_)
  refine wpAny_pure ?_
  show wpAny _ A.in1 (rule "list.extend.makes-room" >>= fun _ => Builtin.List.listTouch (.ref S) >>= fun _ =>
    again (.builtin "list.extend.loop" ⟨[.ref S, .ref z, res], []⟩)) _ _ _
  refine wpAny_bind (wpAny_rule ?_)
  refine wpAny_bind ?_
  show wpAny _ A.in1 (updateSeq S (·.push .none) >>= fun _ => updateSeq S (·.pop)) _ _ _
  refine wpAny_bind (wpAny_updateSeq hS rfl ?_)
  have hS₂ := Heap.get?_update_self (Obj.mapSeq (·.push Value.none)) hS rfl
  refine wpAny_updateSeq (hz := by seq_fits) hS₂ rfl ?_
  have hS₃ := Heap.get?_update_self (Obj.mapSeq (·.pop)) hS₂ rfl
  have oth : ∀ b o, b ≠ S → s.heap.get? b = some o → ((s.heap.update S (Obj.mapSeq (·.push Value.none))).update S (Obj.mapSeq (·.pop))).get? b = some o :=
    fun b o hb e => (Heap.get?_update_other _ _ (Ne.symm hb)).trans ((Heap.get?_update_other _ _ (Ne.symm hb)).trans e)
  have Z2 := Z.up L oth (by rw [Heap.size_update, Heap.size_update]; exact Nat.le_refl _)
  refine wpAny_pure ⟨plainId_quiet F.plain_extend_loop _, loop L hh hxs hys hn res n 0 _ [] rfl (Nat.zero_le _) ⟨Z2.pTI, Z2.h1, Z2.h2, Z2.l1, Z2.l2, .inl ⟨rfl, Z2.zz, Z2.pTO⟩, ⟨_, hS₃⟩, rfl, (fun t ht => by cases ht), List.nodup_nil, (fun j t x y e => by simp at e), Z2.sz⟩ fun h' tk ts c' k a1 a2 a3 a4 a5 => ?_⟩
  exact hR h' tk ts ⟨fun b o b0 b1 b2 b3 b4 b5 e => k b o b0 b1 b2 b3 b4 b5 (oth b o b5 e), ⟨c', a1⟩, a2, a3, a4, a5⟩
theorem init {z TI TO i1 i2 l1 l2 S n0 : Addr} {xs ys : Array Value} {n : Nat} {R : Result → Shared → Prop} (L : Pl z TI TO i1 i2 l1 l2 S n0) (hh : A.in1.handled = none) (hxs : xs.size = n) (hys : ys.size = n) (hn : n ≤ sizeLine) (Z : Zb s.heap z TI TO i1 i2 l1 l2 n0 xs ys)
    (hS : s.heap.get? S = some { cls := .type "list", data := .seq #[] }) (hR : ∀ h' tk ts, Zend s.heap h' z TO i1 i2 S n0 xs ys n ts → R (.ok (.ret .none)) { s with heap := h', toks := tk }) :
    wpAny (model prog w) A.in1 (Builtin.«list.__init__» ⟨[.ref S, .ref z], []⟩)
      (fun fin s' => match fin with | .done f => R (.ok f) s' | .again c' => c'.quiet = true ∧ codeAny (model prog w) A c' R s') (fun e s' => R (.error e) s') s := by
  show wpAny _ A.in1 (do let old ← Builtin.List.listItems (.ref S); Builtin.List.listUpdate (.ref S) (fun _ => #[]); letGo old.toList.reverse; Builtin.List.listExtendWith (.ref S) (.ref z) .none) _ _ s
  refine wpAny_bind ?_
  unfold Builtin.List.listItems
  refine wpAny_bind (wpAny_seqItems hS rfl (wpAny_pure ?_))
  show wpAny _ A.in1 (updateSeq S (fun _ => #[]) >>= fun _ => letGo (#[] : Array Value).toList.reverse >>= fun _ => Builtin.List.listExtendWith (.ref S) (.ref z) .none) _ _ s
  refine wpAny_bind (wpAny_updateSeq hS rfl ?_)
  have hS₂ := Heap.get?_update_self (Obj.mapSeq (fun _ => (#[] : Array Value))) hS rfl
  have oth : ∀ b o, b ≠ S → s.heap.get? b = some o → (s.heap.update S (Obj.mapSeq (fun _ => (#[] : Array Value)))).get? b = some o :=
    fun b o hb e => (Heap.get?_update_other _ _ (Ne.symm hb)).trans e
  refine wpAny_bind (wpAny_letGo ?_)
  refine extend L hh hxs hys hn .none (Z.up L oth (by rw [Heap.size_update]; exact Nat.le_refl _)) hS₂ fun h' tk ts ⟨k, a⟩ => ?_
  exact hR h' tk ts ⟨fun b o b0 b1 b2 b3 b4 b5 e => k b o b0 b1 b2 b3 b4 b5 (oth b o b5 e), a⟩
/-- list(z) -/
theorem call_list {z TI TO i1 i2 l1 l2 : Addr} {xs ys : Array Value} {n : Nat} {Q : Value → Shared → Prop} (D : ZipApart z TI TO i1 i2 l1 l2) (hh : A.in1.in1.handled = none) (hxs : xs.size = n) (hys : ys.size = n) (hn : n ≤ sizeLine) (Z : Zb s.heap z TI TO i1 i2 l1 l2 s.heap.objs.size xs ys)
    (lt : z < s.heap.objs.size ∧ TI < s.heap.objs.size ∧ TO < s.heap.objs.size ∧ i1 < s.heap.objs.size ∧ i2 < s.heap.objs.size ∧ l1 < s.heap.objs.size ∧ l2 < s.heap.objs.size)
    (hQ : ∀ h' tk ts, Zend (s.heap.push { cls := .type "list", data := .seq #[] }) h' z TO i1 i2 s.heap.objs.size (s.heap.objs.size + 1) xs ys n ts → Q (.ref s.heap.objs.size) { s with heap := h', toks := tk }) :
    wpAny (model prog w) A (call (.type "list") [.ref z]) Q E s := by
  obtain ⟨t1, t2, t3, t4, t5, t6, t7⟩ := lt
  have L : Pl z TI TO i1 i2 l1 l2 s.heap.objs.size (s.heap.objs.size + 1) := ⟨D, Nat.ne_of_gt t1, Nat.ne_of_gt t2, Nat.ne_of_gt t3, Nat.ne_of_gt t4, Nat.ne_of_gt t5, Nat.ne_of_gt t6, Nat.ne_of_gt t7, Nat.lt_succ_of_lt t1, Nat.lt_succ_of_lt t2, Nat.lt_succ_of_lt t3, Nat.lt_succ_of_lt t4, Nat.lt_succ_of_lt t5, Nat.lt_succ_of_lt t6, Nat.lt_succ_of_lt t7, Nat.lt_succ_self _⟩
  refine callType_codes (Q₁ := fun obj s₁ => obj = .ref s.heap.objs.size ∧ s₁ = { s with heap := s.heap.push { cls := .type "list", data := .seq #[] } }) F.called_list (F.typeCall_list_1 _) F.entry_list_init
    (code_list_new _ ⟨rfl, rfl⟩) fun obj s₁ h₁ => ?_
  obtain ⟨rfl, rfl⟩ := h₁
  have hS : (s.heap.push { cls := .type "list", data := .seq #[] }).get? s.heap.objs.size = some { cls := .type "list", data := .seq #[] } := Heap.get?_push_size _ rfl
  have up : ∀ b o, s.heap.get? b = some o → (s.heap.push { cls := .type "list", data := .seq #[] }).get? b = some o := fun b o e => Heap.get?_push_of_some _ e
  refine ⟨⟨_, hS, rfl⟩, F.args_list_init_2 _ _, init (A := A.in1) L hh hxs hys hn ⟨up _ _ Z.pTI, Z.h1.at fun o q => up _ _ q, Z.h2.at fun o q => up _ _ q, Z.l1.at fun o q => up _ _ q, Z.l2.at fun o q => up _ _ q, up _ _ Z.zz, (by obtain ⟨a, b, q⟩ := Z.pTO; exact ⟨a, b, up _ _ q⟩), (by rw [Heap.size_push]; exact Nat.le_refl _)⟩ hS (fun h' tk ts e => ?_)⟩
  exact ⟨rfl, hQ h' tk ts e⟩
end
end ZL

end Cs
namespace Cs
open PySem L2
open PyProof.Rows (envOfC)
/-! list(zip(e, f)) as a reading -/
/-- a list l of new pairs ts -/
def hZ (H : Hp) (l : Addr) (ts : List Addr) (xs ys : List V) : Hp := fun b => if b = l then some (.lst (ts.map V.ref)) else if b ∈ ts then some (.tup [xs.getD (ts.idxOf b) .non, ys.getD (ts.idxOf b) .non]) else H b
def tListZip (K : PySem.W.Frag) (ta : TA) : TE := fun σ H Q => ta σ H fun vs H1 => ∃ a b xs ys, vs = [.ref a, .ref b] ∧ SqL K H1 a xs ∧ SqL K H1 b ys ∧ xs.length = ys.length ∧
  ∀ (l : Addr) (ts : List Addr) (H' : Hp), L2.Same H1 H' → H1 l = none → H' l = some (.lst (ts.map V.ref)) → ts.length = xs.length → (∀ (j : Nat) (t : Addr) (x y : V), ts[j]? = some t → xs[j]? = some x → ys[j]? = some y → H' t = some (.tup [x, y])) → Q (.ref l) H'
theorem vals_refs : ∀ ts : List Addr, Vals (ts.map V.ref) (ts.map Value.ref)
  | [] => .nil
  | _ :: ts => .cons rfl (vals_refs ts)
theorem idx_nd {ts : List Addr} (nd : ts.Nodup) {j : Nat} {t : Addr} (h : ts[j]? = some t) : ts.idxOf t = j := by
  obtain ⟨hj, e⟩ := List.getElem?_eq_some_iff.mp h
  rw [← e]
  exact nd.idxOf_getElem j hj
theorem inv_pairs {X : Cx} {pins : List (Addr × Obj)} {σ : St} {H : Hp} {s : Shared} {h' : Heap} {tk : Nat} (I : L2.Inv X pins σ H s) {l : Addr} {ts : List Addr} {xs ys : List V} {us ws : List Value} {c : Nat} (k : ∀ b o, s.heap.get? b = some o → h'.get? b = some o) (hl : s.heap.objs.size ≤ l) (ht : ∀ t ∈ ts, s.heap.objs.size ≤ t) (lt : l ∉ ts)
    (nd : ts.Nodup) (e : h'.get? l = some { cls := .type "list", dict := none, data := .seq (ts.map Value.ref).toArray c, slots := #[] }) (hz : ts.length ≤ sizeLine) (rx : Vals xs us) (ry : Vals ys ws) (hx : xs.length = ts.length) (hy : ys.length = ts.length)
    (p : ∀ (j : Nat) (t : Addr) (x y : Value), ts[j]? = some t → us[j]? = some x → ws[j]? = some y → IsPair h' t x y) : L2.Inv X pins σ (hZ H l ts xs ys) { s with heap := h', toks := tk } := by
  have fr : ∀ b, s.heap.objs.size ≤ b → H b = none := fun b hb => I.hok.fresh hb
  have old : ∀ b, b < s.heap.objs.size → hZ H l ts xs ys b = H b := fun b hb => by
    unfold hZ
    rw [if_neg (fun q => by rw [q] at hb; exact absurd (Nat.lt_of_lt_of_le hb hl) (Nat.lt_irrefl _)), if_neg (fun q => absurd (Nat.lt_of_lt_of_le hb (ht b q)) (Nat.lt_irrefl _))]
  have sm : L2.Same H (hZ H l ts xs ys) := fun b o q => by rw [old b (I.hok.lt q)]; exact q
  refine I.un ⟨fun b o q _ _ _ => k b o q, fun b o q _ _ _ => ⟨o.slots, k b o q⟩, fun b o q n _ => ?_, fun b o q _ => ⟨o, k b o q⟩, fun b xs q => sm b _ q, fun b o u q => sm b _ q, fun b ps q => ⟨#[], by rw [sm b _ q]; simp⟩⟩ fun b o q => ?_
  · rw [old b (Heap.lt_size q)]; exact n
  · by_cases e1 : b = l
    · subst e1
      unfold hZ at q
      rw [if_pos rfl] at q
      injection q with q
      subst q
      exact ⟨by rw [List.length_map]; exact hz, ts.map Value.ref, c, vals_refs ts, e⟩
    · by_cases e2 : b ∈ ts
      · obtain ⟨j, ej⟩ := List.mem_iff_getElem?.mp e2
        have ix := idx_nd nd ej
        unfold hZ at q
        rw [if_neg e1, if_pos e2, ix] at q
        injection q with q
        subst q
        have hj := (List.getElem?_eq_some_iff.mp ej).1
        have gx : xs[j]? = some (xs.getD j .non) := by rw [List.getD_eq_getElem?_getD, List.getElem?_eq_getElem (by omega)]; rfl
        have gy : ys[j]? = some (ys.getD j .non) := by rw [List.getD_eq_getElem?_getD, List.getElem?_eq_getElem (by omega)]; rfl
        obtain ⟨u, hu, ru⟩ := rx.get gx
        obtain ⟨v, hv, rv⟩ := ry.get gy
        exact ⟨by show 2 ≤ sizeLine; decide, [u, v], .cons ru (.cons rv .nil), ⟨_, p j b u v ej hu hv, rfl, _, rfl⟩⟩
      · unfold hZ at q
        rw [if_neg e1, if_neg e2] at q
        exact (I.hok b o q).stay (fun b u _ z => k b u z) (fun b z => sm b _ z) fun b xs z => sm b _ z
section
variable {X : Cx}
theorem pe_listZip {e f : Expr} {ta : TA} {p p2 pos pos2 : Pos} (hc : X.calm = true) (hgl : Gl X "list") (hml : X.mg "list" = none) (hgz : Gl X "zip") (hmz : X.mg "zip" = none) (ha : PA X [e, f] ta)
    (hs : starEach [e, f] X.env = (false, eval e X.env) :: starEach [f] X.env := by rfl) (hpl : (backTo pos2 (starEach [f] X.env)).any (·.1) = false := by rfl)
    (h1s : starEach [.Call (.Name "zip" p2) [e, f] [] pos2] X.env = (false, eval (.Call (.Name "zip" p2) [e, f] [] pos2) X.env) :: starEach [] X.env := by rfl) (h1p : (backTo pos (starEach [] X.env)).any (·.1) = false := by rfl)
    (h1t : backTo pos (starEach [.Call (.Name "zip" p2) [e, f] [] pos2] X.env) = [(false, eval (.Call (.Name "zip" p2) [e, f] [] pos2) X.env)] := by rfl) :
    PE X (.Call (.Name "list" p) [.Call (.Name "zip" p2) [e, f] [] pos2] [] pos) (tListZip X.K ta) := by
  refine ⟨fun pins s σ H Q I h => ?_⟩
  refine wpAny_Call_Name_kw (ld_blt I hgl hml PyProof.Rows.boot_list ?_)
  refine PyProof.Rows.callWith_type1 ?_ h1s h1p
  rw [h1t]
  refine Calls.spliced_cons ?_
  refine wpAny_Call_Name_kw (ld_blt I hgz hmz PyProof.Rows.boot_zip (PyProof.Rows.callWith_type1 (thn (ha.run pos2 pins s σ H _ I h) fun us s1 ⟨vs, H1, I1, r1, q1⟩ => ?_) hs hpl))
  obtain ⟨a, b, xs, ys, ex, hqx, hqy, hlen, q⟩ := q1
  subst ex
  obtain ⟨u1, u2, rfl, ra, rb⟩ : ∃ u1 u2, us = [u1, u2] ∧ RelV (.ref a) u1 ∧ RelV (.ref b) u2 := by
    cases r1 with
    | cons r rr =>
      cases rr with
      | cons r' rr =>
        cases rr
        exact ⟨_, _, rfl, r, r'⟩
  obtain rfl : u1 = Value.ref a := ra
  obtain rfl : u2 = Value.ref b := rb
  obtain ⟨its, rv, p1, z1⟩ := I1.list hqx
  obtain ⟨its2, rv2, p2', z2⟩ := I1.list hqy
  have la : a < s1.heap.objs.size := p1.lt
  have lb : b < s1.heap.objs.size := p2'.lt
  refine call_zip_2 p1.isList p2'.isList fun h' hz hTI hTO g1 g2 hsz hk => ?_
  refine Calls.spliced_nil ?_
  have D := PySem.W.ktu_apart s1.heap.objs.size a b la lb
  have ha2 : a < h'.objs.size := by rw [hsz]; exact Nat.lt_of_lt_of_le la (Nat.le_add_right _ _)
  have hb2 : b < h'.objs.size := by rw [hsz]; exact Nat.lt_of_lt_of_le lb (Nat.le_add_right _ _)
  refine ZL.call_list (n := its.length) (s := { s1 with heap := h' }) D (I1.ok.hd hc) (by simp) (by have := rv.length; have := rv2.length; simp; omega) (by have := rv.length; omega)
    ⟨hTI, g1, g2, p1.isList.at fun o q => hk _ _ q, p2'.isList.at fun o q => hk _ _ q, hz, ⟨_, _, hTO⟩, Nat.le_refl _⟩ ⟨?_, ?_, ?_, ?_, ?_, ha2, hb2⟩ fun h2 tk ts ⟨k, ⟨c, eS⟩, el, en, nd, pr⟩ => ?_
  · show s1.heap.objs.size + 4 < h'.objs.size; omega
  · show s1.heap.objs.size + 2 < h'.objs.size; omega
  · show s1.heap.objs.size + 3 < h'.objs.size; omega
  · show s1.heap.objs.size < h'.objs.size; omega
  · show s1.heap.objs.size + 1 < h'.objs.size; omega
  have hl1 := rv.length
  have hl2 := rv2.length
  have kk : ∀ b o, s1.heap.get? b = some o → h2.get? b = some o := fun b o e => by
    have hb := Heap.lt_size e
    have ne : ∀ u : Addr, s1.heap.objs.size ≤ u → b ≠ u := fun u hu z => Nat.lt_irrefl _ (Nat.lt_of_lt_of_le (z ▸ hb) hu)
    exact k b o (Nat.lt_of_lt_of_le hb (by show s1.heap.objs.size ≤ h'.objs.size + 1; omega)) (ne _ (Nat.le_add_right _ _)) (ne _ (Nat.le_add_right _ _)) (ne _ (Nat.le_refl _)) (ne _ (Nat.le_add_right _ _)) (ne _ (by show s1.heap.objs.size ≤ h'.objs.size; omega)) (Heap.get?_push_of_some _ (hk b o e))
  have I2 : L2.Inv X pins σ (hZ H1 h'.objs.size ts xs ys) { s1 with heap := h2, toks := tk } := inv_pairs I1 kk (by omega) (fun t ht => by have : h'.objs.size + 1 ≤ t := en t ht; omega) (fun q => by have : h'.objs.size + 1 ≤ h'.objs.size := en _ q; omega) nd eS (by omega) rv rv2 (by omega) (by omega) (fun j t x y e1 e2 e3 => pr j t x y e1 (by simpa using e2) (by simpa using e3))
  have hfr : H1 h'.objs.size = none := I1.hok.fresh (by omega)
  refine ⟨.ref h'.objs.size, _, I2, rfl, q h'.objs.size ts _ (fun b o e => ?_) hfr (by unfold hZ; rw [if_pos rfl]) (by omega) fun j t x y e1 e2 e3 => ?_⟩
  · have hb := I1.hok.lt e
    unfold hZ
    rw [if_neg (fun q => Nat.lt_irrefl _ (Nat.lt_of_lt_of_le (q ▸ hb) (by omega))), if_neg (fun q => Nat.lt_irrefl _ (Nat.lt_of_lt_of_le hb (Nat.le_trans (show s1.heap.objs.size ≤ h'.objs.size + 1 by omega) (en b q))))]
    exact e
  · have ht := List.mem_of_getElem? e1
    have hge : h'.objs.size + 1 ≤ t := en t ht
    unfold hZ
    rw [if_neg (fun q => Nat.lt_irrefl _ (Nat.lt_of_lt_of_le (Nat.lt_succ_self _) (q ▸ hge))), if_pos ht, idx_nd nd e1, List.getD_eq_getElem?_getD, List.getD_eq_getElem?_getD, e2, e3]
    rfl
theorem pe_listZipK {K : PySem.W.Frag} (hK : X.K = K) {e f : Expr} {ta : TA} {p p2 pos pos2 : Pos} (hc : X.calm = true) (hgl : Gl X "list") (hml : X.mg "list" = none) (hgz : Gl X "zip") (hmz : X.mg "zip" = none) (ha : PA X [e, f] ta)
    (hs : starEach [e, f] X.env = (false, eval e X.env) :: starEach [f] X.env := by rfl) (hpl : (backTo pos2 (starEach [f] X.env)).any (·.1) = false := by rfl)
    (h1s : starEach [.Call (.Name "zip" p2) [e, f] [] pos2] X.env = (false, eval (.Call (.Name "zip" p2) [e, f] [] pos2) X.env) :: starEach [] X.env := by rfl) (h1p : (backTo pos (starEach [] X.env)).any (·.1) = false := by rfl)
    (h1t : backTo pos (starEach [.Call (.Name "zip" p2) [e, f] [] pos2] X.env) = [(false, eval (.Call (.Name "zip" p2) [e, f] [] pos2) X.env)] := by rfl) :
    PE X (.Call (.Name "list" p) [.Call (.Name "zip" p2) [e, f] [] pos2] [] pos) (tListZip K ta) := by
  subst hK
  exact pe_listZip hc hgl hml hgz hmz ha hs hpl h1s h1p h1t
end
theorem rd_listZip {K : PySem.W.Frag} {ta : TA} {σ : St} {H : Hp} {Q : VK} (h : ta σ H fun vs H1 => ∃ a b xs ys, vs = [.ref a, .ref b] ∧ SqL K H1 a xs ∧ SqL K H1 b ys ∧ xs.length = ys.length ∧
  ∀ (l : Addr) (ts : List Addr) (H' : Hp), L2.Same H1 H' → H1 l = none → H' l = some (.lst (ts.map V.ref)) → ts.length = xs.length → (∀ (j : Nat) (t : Addr) (x y : V), ts[j]? = some t → xs[j]? = some x → ys[j]? = some y → H' t = some (.tup [x, y])) → Q (.ref l) H') : tListZip K ta σ H Q := h

end Cs
namespace Cs
open PySem L2
open PyProof.Rows (envOfC)
/-! refinement that stands still tells states apart by what is marked -/
section
variable {α : Type} [DecidableEq α] {k n : Nat} {e : Nat → Nat → Nat} {m : Nat → α}
/-- one round: the classes of the states, by their own class and those of their steps -/
def keyK (k n : Nat) (e : Nat → Nat → Nat) (cl : List Nat) : List (Nat × List Nat) := (List.range n).map fun i => (cl.getD i 0, (List.range k).map fun c => cl.getD (e i c) 0)
def finer (k n : Nat) (e : Nat → Nat → Nat) (cl : List Nat) : List Nat := numbF [] (keyK k n e cl)
/-- what holds of the classes in each round -/
structure Rf (k n : Nat) (e : Nat → Nat → Nat) (m : Nat → α) (cl : List Nat) : Prop where
  len : cl.length = n
  can : Can cl
  mark : ∀ i j, i < n → j < n → cl.getD i 0 = cl.getD j 0 → m i = m j
  coarse : ∀ i j, i < n → j < n → (∀ w, Ov k w → m (w.foldl e i) = m (w.foldl e j)) → cl.getD i 0 = cl.getD j 0
theorem getD_some {l : List Nat} {i : Nat} (h : i < l.length) : l[i]? = some (l.getD i 0) := by
  rw [List.getD_eq_getElem?_getD, List.getElem?_eq_getElem h]; rfl
theorem rf_first : Rf k n e m (numbF [] ((List.range n).map m)) := by
  have hl : ((List.range n).map m).length = n := by simp
  have eq : ∀ i j, i < n → j < n → ((numbF [] ((List.range n).map m)).getD i 0 = (numbF [] ((List.range n).map m)).getD j 0 ↔ m i = m j) := fun i j hi hj => by
    have h := numb_eq ((List.range n).map m) (i := i) (j := j) (by omega) (by omega)
    rw [getD_some (by rw [numb_len]; omega), getD_some (by rw [numb_len]; omega)] at h
    simpa using h
  exact ⟨by rw [numb_len, hl], numb_can _, fun i j hi hj h => (eq i j hi hj).mp h, fun i j hi hj h => (eq i j hi hj).mpr (h [] fun c hc => by cases hc)⟩
theorem finer_eq {cl : List Nat} {i j : Nat} (hi : i < n) (hj : j < n) : (finer k n e cl).getD i 0 = (finer k n e cl).getD j 0 ↔ cl.getD i 0 = cl.getD j 0 ∧ ∀ c, c < k → cl.getD (e i c) 0 = cl.getD (e j c) 0 := by
  have hl : (keyK k n e cl).length = n := by simp [keyK]
  have h := numb_eq (keyK k n e cl) (i := i) (j := j) (by omega) (by omega)
  have g1 := getD_some (l := numbF [] (keyK k n e cl)) (i := i) (by rw [numb_len]; omega)
  have g2 := getD_some (l := numbF [] (keyK k n e cl)) (i := j) (by rw [numb_len]; omega)
  rw [g1, g2] at h
  have h' : (finer k n e cl).getD i 0 = (finer k n e cl).getD j 0 ↔ (keyK k n e cl)[i]'(by omega) = (keyK k n e cl)[j]'(by omega) := ⟨fun q => h.mp (congrArg some q), fun q => Option.some.inj (h.mpr q)⟩
  rw [h']
  simp only [keyK, List.getElem_map, List.getElem_range, Prod.mk.injEq]
  refine and_congr Iff.rfl ⟨fun q c hc => ?_, fun q => List.map_congr_left fun c hc => q c (List.mem_range.mp hc)⟩
  have := congrArg (fun l : List Nat => l[c]?) q
  simpa [hc] using this
theorem rf_next (hlt : ∀ i c, i < n → c < k → e i c < n) {cl : List Nat} (R : Rf k n e m cl) : Rf k n e m (finer k n e cl) where
  len := by rw [finer, numb_len]; simp [keyK]
  can := numb_can _
  mark := fun i j hi hj h => R.mark i j hi hj ((finer_eq hi hj).mp h).1
  coarse := fun i j hi hj h => (finer_eq hi hj).mpr ⟨R.coarse i j hi hj h, fun c hc => R.coarse _ _ (hlt i c hi hc) (hlt j c hj hc) fun w hw => h (c :: w) fun d hd => by
    rcases List.mem_cons.mp hd with rfl | hd
    · exact hc
    · exact hw d hd⟩
/-- standing still -/
theorem rf_kls (hlt : ∀ i c, i < n → c < k → e i c < n) {cl : List Nat} (R : Rf k n e m cl) (st : finer k n e cl = cl) {N : Nat} (hN : ∀ i, i < n → cl.getD i 0 < N) (hN2 : ∃ i, i < n ∧ cl.getD i 0 + 1 = N) :
    Kls k n N e m (fun i => cl.getD i 0) (fun a => cl.idxOf a) := by
  have hlen := R.len
  have occ : ∀ a, a < N → a ∈ cl := fun a ha => by
    obtain ⟨i, hi, ei⟩ := hN2
    have gi := getD_some (l := cl) (i := i) (by omega)
    rcases Nat.lt_or_ge a (cl.getD i 0) with q | q
    · obtain ⟨j, _, hj⟩ := R.can.earlier i _ a gi q
      exact List.mem_of_getElem? hj
    · have : a = cl.getD i 0 := by omega
      rw [this]
      exact List.mem_of_getElem? gi
  have fsl : ∀ a, a < N → cl.idxOf a < n ∧ cl.getD (cl.idxOf a) 0 = a := fun a ha => by
    have h := List.idxOf_lt_length_iff.mpr (occ a ha)
    refine ⟨by omega, ?_⟩
    rw [List.getD_eq_getElem?_getD, List.getElem?_eq_getElem h, List.getElem_idxOf h]; rfl
  have fmin : ∀ i, i < n → cl.idxOf (cl.getD i 0) ≤ i := fun i hi => by
    have gi := getD_some (l := cl) (i := i) (by omega)
    rcases Nat.lt_or_ge i (cl.idxOf (cl.getD i 0)) with q | q
    · have hi2 : i < cl.length := by omega
      have := List.not_of_lt_findIdx (xs := cl) (p := fun y => y == cl.getD i 0) (i := i) q
      rw [List.getElem?_eq_getElem hi2] at gi
      simp [Option.some.inj gi] at this
    · exact q
  refine ⟨hN, fsl, fmin, fun a b hab hb => ?_, R.mark, fun i j c hi hj hc h => ?_, R.coarse⟩
  · obtain ⟨b1, b2⟩ := fsl b hb
    have gb := getD_some (l := cl) (i := cl.idxOf b) (by omega)
    rw [b2] at gb
    obtain ⟨j, hj, ej⟩ := R.can.earlier _ _ a gb hab
    have := fmin j (by omega)
    rw [List.getD_eq_getElem?_getD, ej] at this
    have : cl.idxOf a ≤ j := this
    omega
  · have h' : (finer k n e cl).getD i 0 = (finer k n e cl).getD j 0 := by rw [st]; exact h
    exact ((finer_eq hi hj).mp h').2 c hc
end

end Cs
namespace Cs
open PySem L2
open PyProof.Rows (envOfC)
/-! the breadth-first walk: states in a growing list, rows of their numbers -/
section
variable {α : Type} [DecidableEq α]
def addNew : List α → List α → List α
  | ss, [] => ss
  | ss, a :: as => if a ∈ ss then addNew ss as else addNew (ss ++ [a]) as
theorem addNew_pre : ∀ (as ss : List α), ∃ r, addNew ss as = ss ++ r
  | [], ss => ⟨[], (List.append_nil ss).symm⟩
  | a :: as, ss => by
    rw [addNew]
    split
    · exact addNew_pre as ss
    · obtain ⟨r, h⟩ := addNew_pre as (ss ++ [a])
      exact ⟨a :: r, by rw [h, List.append_assoc]; rfl⟩
theorem addNew_nodup : ∀ (as ss : List α), ss.Nodup → (addNew ss as).Nodup
  | [], _, h => h
  | a :: as, ss, h => by
    rw [addNew]
    split
    · exact addNew_nodup as ss h
    · rename_i q
      exact addNew_nodup as _ (List.nodup_append.mpr ⟨h, by simp, fun x hx y hy => by
        rw [List.mem_singleton.mp hy]
        exact fun z => q (z ▸ hx)⟩)
theorem addNew_mem : ∀ (as ss : List α) (x : α), x ∈ addNew ss as ↔ x ∈ ss ∨ x ∈ as
  | [], ss, x => by simp [addNew]
  | a :: as, ss, x => by
    rw [addNew]
    split
    · rename_i q
      rw [addNew_mem as ss x]
      constructor
      · rintro (h | h)
        · exact .inl h
        · exact .inr (List.mem_cons_of_mem _ h)
      · rintro (h | h)
        · exact .inl h
        · rcases List.mem_cons.mp h with rfl | h
          · exact .inl q
          · exact .inr h
    · rw [addNew_mem as _ x]
      simp [or_assoc]
theorem idx_pre {ss r : List α} {x : α} (h : x ∈ ss) : (ss ++ r).idxOf x = ss.idxOf x := by rw [List.idxOf_append, if_pos h]
theorem numbF_idx : ∀ (as ss : List α), numbF ss as = as.map fun a => (addNew ss as).idxOf a
  | [], _ => rfl
  | a :: as, ss => by
    rw [numbF, addNew]
    split
    · rename_i q
      obtain ⟨r, h⟩ := addNew_pre as ss
      rw [List.map_cons, ← numbF_idx as ss, h, idx_pre q]
    · rename_i q
      obtain ⟨r, h⟩ := addNew_pre as (ss ++ [a])
      rw [List.map_cons, ← numbF_idx as (ss ++ [a]), h, idx_pre (List.mem_append.mpr (.inr List.mem_cons_self)), List.idxOf_append, if_neg q]
      simp
/-- every new number stands in the row -/
theorem numbF_new : ∀ (as ss : List α) (i : Nat), ss.length ≤ i → i < (addNew ss as).length → ∃ c : Nat, c < as.length ∧ (numbF ss as)[c]? = some i
  | [], ss, i, h1, h2 => by rw [addNew] at h2; omega
  | a :: as, ss, i, h1, h2 => by
    rw [addNew] at h2
    rw [numbF]
    split
    · rename_i q
      rw [if_pos q] at h2
      obtain ⟨c, hc, e⟩ := numbF_new as ss i h1 h2
      exact ⟨c + 1, by simp; omega, by simpa using e⟩
    · rename_i q
      rw [if_neg q] at h2
      rcases Nat.lt_or_ge ss.length i with l | l
      · obtain ⟨c, hc, e⟩ := numbF_new as (ss ++ [a]) i (by simp; omega) h2
        exact ⟨c + 1, by simp; omega, by simpa using e⟩
      · have : i = ss.length := by omega
        exact ⟨0, by simp, by simp [this]⟩
/-- what holds of the walk -/
structure Wk (k : Nat) (st : α → List α) (s0 : α) (ss : List α) (rows : List (List Nat)) : Prop where
  nd : ss.Nodup
  zero : ss[0]? = some s0
  le : rows.length ≤ ss.length
  row : ∀ (i : Nat) (x : α), i < rows.length → ss[i]? = some x → rows[i]? = some ((st x).map ss.idxOf) ∧ ∀ y ∈ st x, y ∈ ss
  wid : ∀ r ∈ rows, r.length = k
  fresh : ∀ (i c b v : Nat) (r : List Nat), rows[i]? = some r → r[c]? = some v → (∀ (i' c' v' : Nat) (r' : List Nat), rows[i']? = some r' → r'[c']? = some v' → i' * k + c' < i * k + c → v' ≤ b) → v ≤ b + 1
  met : ∀ i : Nat, 0 < i → i < ss.length → ∃ (j c : Nat) (r : List Nat), j < i ∧ rows[j]? = some r ∧ r[c]? = some i
theorem Wk.first {k : Nat} {st : α → List α} {s0 : α} : Wk k st s0 [s0] [] :=
  ⟨by simp, rfl, by simp, fun i x h _ => by simp at h, fun r h => by simp at h, fun i c b v r h => by simp at h, fun i h1 h2 => by simp at h2; omega⟩
theorem Wk.next {k : Nat} {st : α → List α} {s0 x : α} {ss : List α} {rows : List (List Nat)} (W : Wk k st s0 ss rows) (hx : ss[rows.length]? = some x) (hk : (st x).length = k) :
    Wk k st s0 (addNew ss (st x)) (rows ++ [(st x).map (addNew ss (st x)).idxOf]) := by
  obtain ⟨r, hr⟩ := addNew_pre (st x) ss
  have hlt : rows.length < ss.length := (List.getElem?_eq_some_iff.mp hx).1
  have hle : ss.length ≤ (addNew ss (st x)).length := by rw [hr, List.length_append]; omega
  have old : ∀ (i : Nat) (y : α), i < ss.length → (addNew ss (st x))[i]? = some y → ss[i]? = some y := fun i y hi e => by
    rw [hr, List.getElem?_append_left hi] at e; exact e
  refine ⟨addNew_nodup _ _ W.nd, ?_, ?_, fun i y hi e => ?_, fun r2 h => ?_, fun i c b v r2 h1 h2 h3 => ?_, fun i h1 h2 => ?_⟩
  · rw [hr, List.getElem?_append_left (by omega)]; exact W.zero
  · rw [List.length_append]; simp; omega
  · rw [List.length_append] at hi
    rcases Nat.lt_or_ge i rows.length with l | l
    · obtain ⟨a, b⟩ := W.row i y l (old i y (by omega) e)
      rw [List.getElem?_append_left l, a]
      refine ⟨congrArg some (List.map_congr_left fun z hz => ?_), fun z hz => ?_⟩
      · rw [hr, idx_pre (b z hz)]
      · rw [hr]; exact List.mem_append.mpr (.inl (b z hz))
    · have ei : i = rows.length := by simp at hi; omega
      subst ei
      have := old _ y hlt e
      rw [hx] at this
      obtain rfl := Option.some.inj this
      refine ⟨by simp, fun z hz => (addNew_mem _ _ _).mpr (.inr hz)⟩
  · rcases List.mem_append.mp h with h | h
    · exact W.wid r2 h
    · rw [List.mem_singleton.mp h, List.length_map, hk]
  · rcases Nat.lt_or_ge i rows.length with l | l
    · rw [List.getElem?_append_left l] at h1
      refine W.fresh i c b v r2 h1 h2 fun i' c' v' r' a1 a2 a3 => h3 i' c' v' r' ?_ a2 a3
      rw [List.getElem?_append_left (List.getElem?_eq_some_iff.mp a1).1]; exact a1
    · have hi := (List.getElem?_eq_some_iff.mp h1).1
      have ei : i = rows.length := by rw [List.length_append] at hi; simp at hi; omega
      subst ei
      have e2 : r2 = numbF ss (st x) := by
        simp at h1
        rw [numbF_idx]; exact h1.symm
      subst e2
      have hck : c < k := by have := (List.getElem?_eq_some_iff.mp h2).1; rw [numb_len] at this; omega
      refine numbF_can (st x) ss c v (b + 1) ?_ h2 fun j y hj hy => ?_
      · rcases Nat.lt_or_ge 1 ss.length with q | q
        · obtain ⟨j, d, r3, a1, a2, a3⟩ := W.met (ss.length - 1) (by omega) (by omega)
          have hj := (List.getElem?_eq_some_iff.mp a2).1
          have hd : d < k := by
            have := (List.getElem?_eq_some_iff.mp a3).1
            rw [W.wid r3 (List.mem_of_getElem? a2)] at this
            exact this
          have := h3 j d _ r3 (by rw [List.getElem?_append_left hj]; exact a2) a3 (pos_lt hj hd)
          omega
        · omega
      · have := h3 rows.length j y _ h1 hy (by omega)
        omega
  · rcases Nat.lt_or_ge i ss.length with l | l
    · obtain ⟨j, c, r2, a1, a2, a3⟩ := W.met i h1 l
      exact ⟨j, c, r2, a1, by rw [List.getElem?_append_left (List.getElem?_eq_some_iff.mp a2).1]; exact a2, a3⟩
    · obtain ⟨c, hc, e⟩ := numbF_new (st x) ss i l h2
      refine ⟨rows.length, c, _, by omega, by simp; rfl, ?_⟩
      rw [← numbF_idx]; exact e
/-- the walk at its end -/
theorem Wk.bf {k : Nat} {st : α → List α} {s0 : α} {ss : List α} {rows : List (List Nat)} (W : Wk k st s0 ss rows) (en : rows.length = ss.length) : Bf k ss.length fun i c => (rows.getD i []).getD c 0 := by
  have pos : 0 < ss.length := (List.getElem?_eq_some_iff.mp W.zero).1
  have at_ : ∀ i c, i < ss.length → c < k → ∃ r v, rows[i]? = some r ∧ r[c]? = some v ∧ (rows.getD i []).getD c 0 = v := fun i c hi hc => by
    have h := List.getElem?_eq_getElem (l := rows) (i := i) (by omega)
    have hw := W.wid _ (List.mem_of_getElem? h)
    refine ⟨_, _, h, List.getElem?_eq_getElem (by omega), ?_⟩
    rw [List.getD_eq_getElem?_getD, List.getD_eq_getElem?_getD, h]
    simp only [Option.getD_some]
    rw [List.getElem?_eq_getElem (by omega)]; rfl
  refine ⟨pos, fun i c hi hc => ?_, fun i c b hi hc h => ?_, fun i h1 h2 => ?_⟩
  · obtain ⟨r, v, a1, a2, a3⟩ := at_ i c hi hc
    show (rows.getD i []).getD c 0 < _
    rw [a3]
    obtain ⟨b1, b2⟩ := W.row i _ (by omega) (List.getElem?_eq_getElem hi)
    rw [a1] at b1
    obtain rfl := Option.some.inj b1
    rw [List.getElem?_map] at a2
    cases q : (st ss[i])[c]? with
    | none => rw [q] at a2; cases a2
    | some y =>
      rw [q] at a2
      obtain rfl := Option.some.inj a2
      exact List.idxOf_lt_length_iff.mpr (b2 y (List.mem_of_getElem? q))
  · obtain ⟨r, v, a1, a2, a3⟩ := at_ i c hi hc
    show (rows.getD i []).getD c 0 ≤ _
    rw [a3]
    refine W.fresh i c b v r a1 a2 fun i' c' v' r' e1 e2 e3 => ?_
    have hc' : c' < k := by
      have := (List.getElem?_eq_some_iff.mp e2).1
      rw [W.wid r' (List.mem_of_getElem? e1)] at this
      exact this
    have := h i' c' hc' e3
    rw [List.getD_eq_getElem?_getD, List.getD_eq_getElem?_getD, e1] at this
    simp only [Option.getD_some] at this
    rw [e2] at this
    exact this
  · obtain ⟨j, c, r, a1, a2, a3⟩ := W.met i h1 h2
    refine ⟨j, c, a1, ?_, ?_⟩
    · have := (List.getElem?_eq_some_iff.mp a3).1
      rw [W.wid r (List.mem_of_getElem? a2)] at this
      exact this
    · show (rows.getD j []).getD c 0 = i
      rw [List.getD_eq_getElem?_getD, List.getD_eq_getElem?_getD, a2]
      simp only [Option.getD_some]
      rw [a3]; rfl
end

end Cs
namespace Cs
open PySem L2
open PyProof.Rows (envOfC)
/-! walk, classes, merging: the least automaton in standard order of what is accepted -/
section
variable {α β : Type} [DecidableEq α] [DecidableEq β] {k : Nat} {δ : α → Nat → α} {acc : α → β} {s0 : α} {ss : List α} {rows : List (List Nat)}
abbrev stepsK (k : Nat) (δ : α → Nat → α) (s : α) : List α := (List.range k).map (δ s)
abbrev entR (rows : List (List Nat)) (i c : Nat) : Nat := (rows.getD i []).getD c 0
theorem Wk.to (W : Wk k (stepsK k δ) s0 ss rows) (en : rows.length = ss.length) {i c : Nat} {x : α} (hx : ss[i]? = some x) (hc : c < k) : ss[entR rows i c]? = some (δ x c) := by
  have hi := (List.getElem?_eq_some_iff.mp hx).1
  obtain ⟨b1, b2⟩ := W.row i x (by omega) hx
  have hm : δ x c ∈ stepsK k δ x := List.mem_map.mpr ⟨c, List.mem_range.mpr hc, rfl⟩
  have hl := List.idxOf_lt_length_iff.mpr (b2 _ hm)
  have e : entR rows i c = ss.idxOf (δ x c) := by
    show (rows.getD i []).getD c 0 = _
    rw [List.getD_eq_getElem?_getD, List.getD_eq_getElem?_getD, b1]
    simp [hc]
  rw [e, List.getElem?_eq_getElem hl, List.getElem_idxOf hl]
theorem Wk.run (W : Wk k (stepsK k δ) s0 ss rows) (en : rows.length = ss.length) : ∀ (w : List Nat) (i : Nat) (x : α), Ov k w → ss[i]? = some x → ss[w.foldl (entR rows) i]? = some (w.foldl δ x)
  | [], _, _, _, h => h
  | c :: w, i, x, hw, h => Wk.run W en w _ _ (fun d hd => hw d (List.mem_cons_of_mem _ hd)) (W.to en h (hw c List.mem_cons_self))
abbrev markR (acc : α → β) (s0 : α) (ss : List α) (i : Nat) : β := acc (ss.getD i s0)
theorem markR_map {i : Nat} (h : i < ss.length) : (ss.map acc)[i]? = some (markR acc s0 ss i) := by
  rw [List.getElem?_map, List.getElem?_eq_getElem h]
  show some (acc ss[i]) = some (acc (ss.getD i s0))
  rw [List.getD_eq_getElem?_getD, List.getElem?_eq_getElem h]; rfl
theorem marks_eq : ss.map acc = (List.range ss.length).map (markR acc s0 ss) := by
  refine List.ext_getElem? fun i => ?_
  rcases Nat.lt_or_ge i ss.length with l | l
  · rw [markR_map (s0 := s0) l]; simp [l]
  · rw [List.getElem?_eq_none (by simp; omega), List.getElem?_eq_none (by simp; omega)]
theorem aut_std (W : Wk k (stepsK k δ) s0 ss rows) (en : rows.length = ss.length) {cl : List Nat} (R : Rf k ss.length (entR rows) (markR acc s0 ss) cl) (st : finer k ss.length (entR rows) cl = cl) {N : Nat} (hN : ∀ i, i < ss.length → cl.getD i 0 < N) (hN2 : ∃ i, i < ss.length ∧ cl.getD i 0 + 1 = N) :
    Std k N (fun a c => cl.getD (entR rows (cl.idxOf a) c) 0) (fun a => markR acc s0 ss (cl.idxOf a)) (fun w => acc (w.foldl δ s0)) := by
  have B : Bf k ss.length (entR rows) := W.bf en
  refine merge_std B (fun w hw => ?_) (rf_kls B.lt R st hN hN2)
  have := W.run en w 0 s0 hw W.zero
  show acc (ss.getD (w.foldl (entR rows) 0) s0) = _
  rw [List.getD_eq_getElem?_getD, this]; rfl
/-- a measure of the rounds: how many pairs of states are in one class -/
def pairsC (n : Nat) (cl : List Nat) : Nat := (((List.range n).map fun i => ((List.range n).filter fun j => decide (cl.getD i 0 = cl.getD j 0)).length)).sum
theorem sum_le {l m : List Nat} (h : l.length = m.length) (hle : ∀ i : Nat, l.getD i 0 ≤ m.getD i 0) : l.sum ≤ m.sum := by
  induction l generalizing m with
  | nil => cases m with
    | nil => exact Nat.le_refl _
    | cons _ _ => simp at h
  | cons a l ih => cases m with
    | nil => simp at h
    | cons b m =>
      have h0 := hle 0
      have := ih (m := m) (by simpa using h) fun i => by simpa using hle (i + 1)
      simp at h0
      simp only [List.sum_cons]
      omega
end

end Cs
namespace Cs
open PySem L2
open PyProof.Rows (envOfC)
/-! the rounds of refinement end -/
theorem filt_le {α : Type} {p q : α → Bool} : ∀ {l : List α}, (∀ x ∈ l, p x = true → q x = true) → (l.filter p).length ≤ (l.filter q).length ∧ ((l.filter p).length = (l.filter q).length → ∀ x ∈ l, p x = q x)
  | [], _ => ⟨Nat.le_refl _, fun _ x h => by cases h⟩
  | a :: l, h => by
    obtain ⟨ih1, ih2⟩ := filt_le (p := p) (q := q) (l := l) fun x hx => h x (List.mem_cons_of_mem _ hx)
    have ha := h a List.mem_cons_self
    rw [List.filter_cons, List.filter_cons]
    cases ep : p a with
    | true =>
      rw [ha ep]
      simp only [if_true, List.length_cons]
      refine ⟨by omega, fun e x hx => ?_⟩
      rcases List.mem_cons.mp hx with rfl | hx
      · rw [ep, ha ep]
      · exact ih2 (by omega) x hx
    | false =>
      cases eq : q a with
      | true =>
        simp only [if_true, List.length_cons, Bool.false_eq_true, if_false]
        exact ⟨by omega, fun e => by omega⟩
      | false =>
        simp only [Bool.false_eq_true, if_false]
        refine ⟨ih1, fun e x hx => ?_⟩
        rcases List.mem_cons.mp hx with rfl | hx
        · rw [ep, eq]
        · exact ih2 e x hx
theorem sum_le2 {α : Type} {f g : α → Nat} : ∀ {l : List α}, (∀ x ∈ l, f x ≤ g x) → (l.map f).sum ≤ (l.map g).sum ∧ ((l.map f).sum = (l.map g).sum → ∀ x ∈ l, f x = g x)
  | [], _ => ⟨Nat.le_refl _, fun _ x h => by cases h⟩
  | a :: l, h => by
    obtain ⟨ih1, ih2⟩ := sum_le2 (f := f) (g := g) (l := l) fun x hx => h x (List.mem_cons_of_mem _ hx)
    have ha := h a List.mem_cons_self
    simp only [List.map_cons, List.sum_cons]
    refine ⟨by omega, fun e x hx => ?_⟩
    rcases List.mem_cons.mp hx with rfl | hx
    · omega
    · exact ih2 (by omega) x hx
section
variable {α : Type} [DecidableEq α] {k n : Nat} {e : Nat → Nat → Nat} {m : Nat → α}
theorem finer_less (hlt : ∀ i c, i < n → c < k → e i c < n) {cl : List Nat} (R : Rf k n e m cl) : finer k n e cl = cl ∨ pairsC n (finer k n e cl) < pairsC n cl := by
  have R2 := rf_next hlt R
  have sub : ∀ i ∈ List.range n, ∀ j ∈ List.range n, decide ((finer k n e cl).getD i 0 = (finer k n e cl).getD j 0) = true → decide (cl.getD i 0 = cl.getD j 0) = true := fun i hi j hj h =>
    decide_eq_true ((finer_eq (List.mem_range.mp hi) (List.mem_range.mp hj)).mp (of_decide_eq_true h)).1
  obtain ⟨s1, s2⟩ := sum_le2 (l := List.range n) (f := fun i => ((List.range n).filter fun j => decide ((finer k n e cl).getD i 0 = (finer k n e cl).getD j 0)).length)
    (g := fun i => ((List.range n).filter fun j => decide (cl.getD i 0 = cl.getD j 0)).length) fun i hi => (filt_le (sub i hi)).1
  rcases Nat.lt_or_ge (pairsC n (finer k n e cl)) (pairsC n cl) with l | l
  · exact .inr l
  · left
    have es : pairsC n (finer k n e cl) = pairsC n cl := Nat.le_antisymm s1 l
    have all := s2 es
    refine can_unique R2.can R.can (by rw [R2.len, R.len]) fun i j hi hj => ?_
    rw [R2.len] at hi hj
    have h := (filt_le (sub i (List.mem_range.mpr hi))).2 (all i (List.mem_range.mpr hi)) j (List.mem_range.mpr hj)
    rw [getD_some (l := finer k n e cl) (by rw [R2.len]; exact hi), getD_some (l := finer k n e cl) (by rw [R2.len]; exact hj), getD_some (l := cl) (by rw [R.len]; exact hi), getD_some (l := cl) (by rw [R.len]; exact hj)]
    have h := decide_eq_decide.mp h
    exact ⟨fun q => congrArg some (h.mp (Option.some.inj q)), fun q => congrArg some (h.mpr (Option.some.inj q))⟩
end

end Cs
namespace Cs
open PySem L2
open PyProof.Rows (envOfC)
/-! lists of numbers compared -/
abbrev iD (ns : List Nat) : List PyData := ns.map fun n => PyData.int (n : Nat)
theorem ieqAll : ∀ a b : List Nat, PyData.eqvAll (iD a) (iD b) = decide (a = b)
  | [], [] => by simp [PyData.eqvAll]
  | [], _ :: _ => by simp [PyData.eqvAll]
  | _ :: _, [] => by simp [PyData.eqvAll]
  | x :: a, y :: b => by
    show PyData.eqvAll (PyData.int (x : Nat) :: iD a) (PyData.int (y : Nat) :: iD b) = _
    rw [PyData.eqvAll, ieqAll a b]
    by_cases h : x = y
    · subst h; simp [PyData.eqv]
    · have : ¬ ((x : Int) = (y : Int)) := by omega
      simp [PyData.eqv, h, this]
theorem ieq (a b : List Nat) : PyData.eqv (.list (iD a)) (.list (iD b)) = decide (a = b) := by
  rw [PyData.eqv, ieqAll]
theorem dpI {K : PySem.W.Frag} {H : Hp} : ∀ ns : List Nat, DpAll K H (ns.map fun n => V.int (n : Nat)) (iD ns)
  | [] => .nil
  | n :: ns => .cons (.int _) (dpI ns)
theorem lay0I : ∀ ns : List Nat, PyData.canLayAll0 (iD ns) = true
  | [] => rfl
  | n :: ns => by
    show PyData.canLayAll0 (PyData.int (n : Nat) :: iD ns) = true
    rw [PyData.canLayAll0, lay0I ns]; rfl
theorem depI0 : ∀ ns : List Nat, PyData.depthAll (iD ns) = 0
  | [] => by simp [PyData.depthAll]
  | n :: ns => by
    show PyData.depthAll (PyData.int (n : Nat) :: iD ns) = 0
    rw [PyData.depthAll, depI0 ns]
    simp [PyData.depth]

end Cs
namespace Cs
open PySem L2
open PyProof.Rows (envOfC)
/-! classes of states, refined until nothing is refined -/
theorem rd_whileJ {c : TT} {t : L2.TS} {D : Ends} {σ : St} {H : Hp} {m0 : Nat} (W : Nat → St → Hp → Prop) (w0 : W m0 σ H) (hs : ∀ m σ H, W m σ H → c σ H fun b H1 => if b = true then ∃ N : St → Hp → Prop, (∀ σ' H', N σ' H' → ∃ m', m' < m ∧ W m' σ' H') ∧ t { D with nx := N, bk := D.nx, ct := N } σ H1 else D.nx σ H1) : tWhile c t D σ H := ⟨W, ⟨m0, w0⟩, hs⟩
theorem numb_inj {α β : Type} [DecidableEq α] [DecidableEq β] {f : α → β} (hf : ∀ a b, f a = f b → a = b) : ∀ (xs ds : List α), numbF (ds.map f) (xs.map f) = numbF ds xs
  | [], _ => rfl
  | x :: xs, ds => by
    have hm : f x ∈ ds.map f ↔ x ∈ ds := ⟨fun h => by
      obtain ⟨y, hy, e⟩ := List.mem_map.mp h
      exact hf _ _ e ▸ hy, fun h => List.mem_map.mpr ⟨x, h, rfl⟩⟩
    rw [List.map_cons, numbF, numbF]
    by_cases h : x ∈ ds
    · rw [if_pos h, if_pos (hm.mpr h), numb_inj hf xs ds, idx_map hf]
    · rw [if_neg h, if_neg fun q => h (hm.mp q), List.length_map]
      have := numb_inj hf xs (ds ++ [x])
      rw [List.map_append] at this
      rw [← this]; rfl
def nkP (p : Nat × List Nat) : NestedKey := .tup [.num (p.1 : Nat), .tup (p.2.map fun n => .num (n : Nat))]
theorem nums_inj : ∀ a b : List Nat, (a.map fun n => NestedKey.num (n : Nat)) = (b.map fun n => NestedKey.num (n : Nat)) → a = b
  | [], [], _ => rfl
  | [], _ :: _, h => by simp at h
  | _ :: _, [], h => by simp at h
  | x :: a, y :: b, h => by
    rw [List.map_cons, List.map_cons] at h
    injection h with h1 h2
    injection h1 with h1
    rw [nums_inj a b h2]
    have : x = y := by omega
    rw [this]
theorem nkP_inj (a b : Nat × List Nat) (h : nkP a = nkP b) : a = b := by
  obtain ⟨a1, a2⟩ := a
  obtain ⟨b1, b2⟩ := b
  unfold nkP at h
  injection h with h
  injection h with h1 h2
  injection h2 with h2
  injection h2 with h2
  injection h1 with h1
  rw [nums_inj a2 b2 h2]
  have : a1 = b1 := by omega
  rw [this]
theorem nkI : ∀ ns : List Nat, nkDs (iD ns) = ns.map fun n => NestedKey.num (n : Nat)
  | [] => by rw [List.map_nil]; rfl
  | n :: ns => by
    show nkDs (PyData.int (n : Nat) :: iD ns) = _
    rw [nkDs, nkI ns, nkD]; rfl
theorem nkP_d (p : Nat × List Nat) : nkP p = nkD (.tuple [.int (p.1 : Nat), .tuple (iD p.2)]) := by
  rw [nkD, nkDs, nkDs, nkDs, nkD, nkD, nkI]; rfl
theorem depI : ∀ ns : List Nat, NestedKey.depthAll (ns.map fun n => NestedKey.num (n : Nat)) = 0
  | [] => rfl
  | n :: ns => by
    rw [List.map_cons, NestedKey.depthAll, depI ns]
    simp [NestedKey.depth]
theorem tpI {H : Hp} : ∀ ns : List Nat, TpAll H (iV ns) (iD ns)
  | [] => .nil
  | n :: ns => .cons (.int _) (tpI ns)
theorem keyP {H : Hp} {b t : Addr} {p : Nat × List Nat} (e1 : H b = some (.tup [.int (p.1 : Nat), .ref t])) (e2 : H t = some (.tup (iV p.2))) : KeyAt H (nkP p) b := by
  refine ⟨.tuple [.int (p.1 : Nat), .tuple (iD p.2)], nkP_d p, .tup e1 (.cons (.int _) (.cons (.tup e2 (tpI p.2)) .nil)), ?_⟩
  rw [← nkP_d]
  unfold nkP
  simp [NestedKey.depth, NestedKey.depthAll, depI]
/-- rows of numbers at p -/
def Rws (H : Hp) (p : Addr) (rs : List (List Nat)) : Prop := ∃ as : List Addr, H p = some (.lst (as.map V.ref)) ∧ as.length = rs.length ∧ ∀ (i : Nat) (a : Addr) (r : List Nat), as[i]? = some a → rs[i]? = some r → H a = some (.lst (iV r))
theorem Rws.same {H H' : Hp} {p : Addr} {rs : List (List Nat)} (s : L2.Same H H') (h : Rws H p rs) : Rws H' p rs := by
  obtain ⟨as, e, l, k⟩ := h
  exact ⟨as, s _ _ e, l, fun i a r ha hr => s _ _ (k i a r ha hr)⟩
theorem key_rows {k n : Nat} {rs : List (List Nat)} (hl : rs.length = n) (hk : ∀ r ∈ rs, r.length = k) (cl : List Nat) : keyK k n (entR rs) cl = (List.range n).map fun i => (cl.getD i 0, (rs.getD i []).map fun v => cl.getD v 0) := by
  unfold keyK
  refine List.map_congr_left fun i hi => ?_
  have hi := List.mem_range.mp hi
  have hrr : (rs.getD i []).length = k := by
    have : rs.getD i [] ∈ rs := by
      rw [List.getD_eq_getElem?_getD, List.getElem?_eq_getElem (by omega)]
      exact List.getElem_mem _
    exact hk _ this
  congr 1
  refine List.ext_getElem? fun c => ?_
  rcases Nat.lt_or_ge c k with l | l
  · rw [List.getElem?_map, List.getElem?_map, List.getElem?_range l, List.getElem?_eq_getElem (l := rs.getD i []) (by rw [hrr]; exact l)]
    show some (cl.getD ((rs.getD i []).getD c 0) 0) = some (cl.getD ((rs.getD i [])[c]'(by rw [hrr]; exact l)) 0)
    rw [List.getD_eq_getElem?_getD (l := rs.getD i []), List.getElem?_eq_getElem (l := rs.getD i []) (by rw [hrr]; exact l)]; rfl
  · rw [List.getElem?_eq_none (by rw [List.length_map, List.length_range]; exact l), List.getElem?_eq_none (by rw [List.length_map, hrr]; exact l)]
def sp_classes : Sp := fun vs H Q _ => ∃ (p q : Addr) (rs : List (List Nat)) (ms : List Bool) (k n : Nat), vs = [.ref p, .ref q] ∧ Rws H p rs ∧ H q = some (.lst (ms.map V.bl)) ∧ rs.length = n ∧ ms.length = n ∧ (∀ r ∈ rs, r.length = k) ∧ (∀ i c, i < n → c < k → entR rs i c < n) ∧ n ≤ 100000 ∧ k ≤ 1000 ∧
  ∀ (r : Addr) (cl : List Nat) (H' : Hp), L2.Same H H' → H' r = some (.lst (iV cl)) → Rf k n (entR rs) (fun i => ms.getD i false) cl → finer k n (entR rs) cl = cl → Q (.ref r) H'
theorem use_numB {H : Hp} {Q : VK} {E : XK} {p : Addr} {bs : List Bool} (e : H p = some (.lst (bs.map V.bl))) (hl : bs.length ≤ 100000) (k : ∀ r H', L2.Same H H' → H r = none → H' r = some (.lst (iV (numbF [] bs))) → Q (.ref r) H') : sp_numbered [.ref p] H Q E := ⟨p, _, rfl, e, by rw [List.length_map]; exact hl, .inl ⟨bs, rfl, k⟩⟩
theorem use_numT {H : Hp} {Q : VK} {E : XK} {p : Addr} {ks : List NestedKey} {as : List Addr} (e : H p = some (.lst (as.map V.ref))) (hl : as.length = ks.length) (hn : ks.length ≤ 100000) (hk : ∀ (i : Nat) (k : NestedKey) (b : Addr), ks[i]? = some k → as[i]? = some b → KeyAt H k b) (k : ∀ r H', L2.Same H H' → H r = none → H' r = some (.lst (iV (numbF [] ks))) → Q (.ref r) H') : sp_numbered [.ref p] H Q E :=
  ⟨p, _, rfl, e, by rw [List.length_map]; omega, .inr ⟨ks, as, rfl, hl, hk, k⟩⟩
theorem rd_cutV2 {t1 t2 : L2.TS} {D : Ends} {σ : St} {H : Hp} (C : St → Hp → Prop) (h1 : ∀ nx' : St → Hp → Prop, (∀ σ H, C σ H → nx' σ H) → t1 { D with nx := nx' } σ H) (h2 : ∀ σ H, C σ H → t2 D σ H) : tSeq t1 t2 D σ H := h1 _ h2
section
variable {P : Program} {w : World} {K : PySem.W.Frag} {mg : Str → Option Value} {base : Heap}
theorem ok_classes (B : Blt mg) (G__numbered : Cal P w K mg base 1 "_numbered" ["labels"] sp_numbered) (F : At K mg "_classes" s__classes ["rows", "marks"]) : Cal P w K mg base 2 "_classes" ["rows", "marks"] sp_classes := by
  refine F.ok (k := 1) sc__classes (fun vs H Q E h => ?_) (fun f cdv A outer s H vs Q E hr h => ?_)
  · obtain ⟨p, q, rs, ms, k, n, rfl, _⟩ := h
    rfl
  · obtain ⟨p, q, rs, ms, k, n, rfl, hR, hq, hrl, hml, hrk, hlt, hn, hk1, kk⟩ := h
    refine ⟨_, (pss_cons (ps_set (i := 2) sc__classes.nd rfl (Or.inr rfl) (pe_c G__numbered (hr.mono (by first | decide | omega)) (pa_cons (pv 1) pa_nil)))
    (pss_one (ps_while PassesOwn.never (pt_val pe_bl)
    (pss_cons (ps_setLc (i := 3) (own := [("row", 5)]) rfl sc__classes.nd rfl rfl (sw_true rfl rfl rfl (by decide +kernel)) (pi_listK (K := K) (by rfl) (pv 0)) (blkOk_by (N := ["rows", "marks", "classes", "steps", "finer", "row", "after"]) (sc := defScope s__classes) (by decide +kernel)) (fun _ _ _ _ _ => (pg_name (i := 5) sc__classes.nd rfl (Or.inl rfl))) (fun _ _ _ _ _ => pts_nil) (fun _ _ _ _ _ => (pe_callTy (call_tuple_ofK (K := K) (by rfl)) (by rfl) B.tuple (by decide +kernel) (pa_cons (pe_lc (own := [("after", 6)]) rfl sc__classes.nd (pi_listK (K := K) (by rfl) (pv 5)) (blkOk_by (N := ["rows", "marks", "classes", "steps", "finer", "row", "after"]) (sc := { kind := ScopeKind.function, names := [(".0", NameKind.local), ("row", NameKind.local), ("tuple", NameKind.globalImplicit), ("classes", NameKind.cell)], isGenerator := false, isCoroutine := false }) (by decide +kernel)) (fun _ _ _ _ _ => (pg_name (i := 6) sc__classes.nd rfl (Or.inl rfl))) (fun _ _ _ _ _ => pts_nil) (fun _ _ _ _ _ => (pe_ix (ix_listK (K := K) (by rfl)) (pv 2) (pv 6) (fun _ _ => rfl)))) pa_nil))))
    (pss_cons (ps_set (i := 4) sc__classes.nd rfl (Or.inl rfl) (pe_c G__numbered (hr.mono (by first | decide | omega)) (pa_cons (pe_listZipK (K := K) (by rfl) rfl (by rfl) B.list (by rfl) B.zip (pa_cons (pv 2) (pa_cons (pv 3) pa_nil))) pa_nil)))
    (pss_cons (ps_if (pt_cmpR (op_eqDK (K := K) (by rfl) hr.units) (pv 4) (pv 2) (nomark _))
    (pss_one (ps_ret (pv 2)))
    pss_nil)
    (pss_one (ps_set (i := 2) sc__classes.nd rfl (Or.inr rfl) (pv 4))))))))), ?_⟩
    walk_at "go"
    refine use_numB hq (by omega) fun c0 H1 s1 _ e1 => ?_
    walk_at "go"
    have em : (List.range n).map (fun i => ms.getD i false) = ms := by
      refine List.ext_getElem? fun i => ?_
      rcases Nat.lt_or_ge i n with l | l
      · rw [List.getElem?_map, List.getElem?_range l, List.getElem?_eq_getElem (by omega)]
        show some (ms.getD i false) = _
        rw [List.getD_eq_getElem?_getD, List.getElem?_eq_getElem (by omega)]; rfl
      · rw [List.getElem?_eq_none (by simp; omega), List.getElem?_eq_none (by omega)]
    have R0 : Rf k n (entR rs) (fun i => ms.getD i false) (numbF [] ms) := by
      have := rf_first (k := k) (n := n) (e := entR rs) (m := fun i => ms.getD i false)
      rw [em] at this
      exact this
    refine rd_whileJ (m0 := pairsC n (numbF [] ms)) (fun μ σ H' => ∃ (c : Addr) (cl : List Nat) (x3 x4 x5 x6 : Option V), σ = [some (.ref p), some (.ref q), some (.ref c), x3, x4, x5, x6] ∧ H' c = some (.lst (iV cl)) ∧ Rf k n (entR rs) (fun i => ms.getD i false) cl ∧ μ = pairsC n cl ∧ L2.Same H H') ?_ ?_
    · exact ⟨c0, _, _, _, _, _, rfl, e1, R0, rfl, s1⟩
    · rintro μ σ H2 ⟨c, cl, x3, x4, x5, x6, rfl, ec, R, rfl, s2⟩
      walk_at "go"
      refine ⟨fun σ' H' => ∃ μ', μ' < pairsC n cl ∧ ∃ (c : Addr) (cl : List Nat) (x3 x4 x5 x6 : Option V), σ' = [some (.ref p), some (.ref q), some (.ref c), x3, x4, x5, x6] ∧ H' c = some (.lst (iV cl)) ∧ Rf k n (entR rs) (fun i => ms.getD i false) cl ∧ μ' = pairsC n cl ∧ L2.Same H H', fun σ' H' h => h, ?_⟩
      obtain ⟨as, ep, hal, hrow⟩ := hR
      have clen : cl.length = n := R.len
      refine rd_cutV2 (fun σ' H' => ∃ (d : Addr) (ts : List Addr) (x5 x6 : Option V), σ' = [some (.ref p), some (.ref q), some (.ref c), some (.ref d), x4, x5, x6] ∧ H' d = some (.lst (ts.map V.ref)) ∧ ts.length = n ∧ (∀ (j : Nat) (t : Addr) (r : List Nat), ts[j]? = some t → rs[j]? = some r → H' t = some (.tup (iV (r.map fun v => cl.getD v 0)))) ∧ L2.Same H2 H') (fun nx fin => ?_) ?_
      · walk_at "go"
        refine ⟨p, rfl, ⟨_, SqL.of (s2 p _ ep)⟩, fun D hD => ?_⟩
        refine lc_list (xs := as.map V.ref) (fun i H' => ∃ ts : List Addr, ts.length = i ∧ H' D = some (.lst (ts.map V.ref)) ∧ (∀ (j : Nat) (t : Addr) (r : List Nat), ts[j]? = some t → rs[j]? = some r → H' t = some (.tup (iV (r.map fun v => cl.getD v 0)))) ∧ L2.Same H2 H') ?_ ?_ ?_ ?_
        · refine ⟨[], rfl, upd_same, fun j t r e => by simp at e, fun b o e => ?_⟩
          rw [upd_ne (fun z => by rw [z, hD] at e; cases e)]
          exact e
        · rintro i H' hi ⟨ts, _, _, _, sm⟩
          exact SqL.of (sm p _ (s2 p _ ep))
        · rintro i x H3 hx ⟨ts, tl, eD, ht, sm⟩
          obtain ⟨a, ea, rfl⟩ : ∃ a, as[i]? = some a ∧ V.ref a = x := by simpa using hx
          have hi := (List.getElem?_eq_some_iff.mp ea).1
          obtain ⟨r, er⟩ : ∃ r, rs[i]? = some r := ⟨_, List.getElem?_eq_getElem (by omega)⟩
          have e3 := sm a _ (s2 a _ (hrow i a r ea er))
          have hrk' := hrk r (List.mem_of_getElem? er)
          have hvn : ∀ (j v : Nat), r[j]? = some v → v < n := fun j v ev => by
            have hj := (List.getElem?_eq_some_iff.mp ev).1
            have := hlt i j (by omega) (by omega)
            have e0 : entR rs i j = v := by
              show (rs.getD i []).getD j 0 = v
              rw [List.getD_eq_getElem?_getD, List.getD_eq_getElem?_getD, er]
              show (r[j]?).getD 0 = v
              rw [ev]; rfl
            omega
          walk_at "go"
          refine ⟨rfl, ?_⟩
          walk_at "go"
          refine ⟨a, rfl, ⟨_, SqL.of e3⟩, fun D2 hD2 => ?_⟩
          refine lc_list (xs := iV r) (fun j H' => H' D2 = some (.lst (iV ((r.take j).map fun v => cl.getD v 0))) ∧ L2.Same H3 H') ?_ ?_ ?_ ?_
          · refine ⟨upd_same, fun b o e => ?_⟩
            rw [upd_ne (fun z => by rw [z, hD2] at e; cases e)]
            exact e
          · rintro j H' hj ⟨_, sm2⟩
            exact SqL.of (sm2 a _ e3)
          · rintro j x H' hx ⟨e2, sm2⟩
            obtain ⟨v, ev, rfl⟩ : ∃ v, r[j]? = some v ∧ V.int (v : Nat) = x := by simpa using hx
            have hj := (List.getElem?_eq_some_iff.mp ev).1
            have hv := hvn j v ev
            walk_at "go"
            refine ⟨rfl, ?_⟩
            walk_at "go"
            refine rd_ixl (SqL.of (sm2 c _ (sm c _ ec))) (atI_nat (v := .int (cl.getD v 0 : Nat)) (by rw [List.getElem?_map, List.getD_eq_getElem?_getD, List.getElem?_eq_getElem (by omega)]; rfl)) ?_
            refine ⟨_, e2, by simp; rw [PySem.sizeLine_eq]; omega, by rw [upd_same, List.take_add_one, ev]; simp, fun b o e => ?_⟩
            rw [upd_ne (fun z => by rw [z, hD2] at e; cases e)]
            exact sm2 b o e
          · rintro H' ⟨e2, sm2⟩
            rw [show (iV r).length = r.length by simp, List.take_length] at e2
            walk_at "go"
            refine rd_tupl (SqL.of e2) ?_
            refine fun t hT => ?_
            have tD : t ≠ D := fun z => by rw [z, sm2 D _ eD] at hT; cases hT
            have fr : ∀ b o, H2 b = some o → b ≠ D ∧ b ≠ t := fun b o e => ⟨(fun z => by rw [z, hD] at e; cases e), (fun z => by rw [z] at e; rw [sm2 _ _ (sm _ _ e)] at hT; cases hT)⟩
            refine ⟨_, by rw [upd_ne tD.symm]; exact sm2 D _ eD, by simp; rw [PySem.sizeLine_eq]; omega, ts ++ [t], by simp [tl], by rw [upd_same]; simp, fun j u r' e1 e2' => ?_, fun b o e => ?_⟩
            · rcases Nat.lt_or_ge j ts.length with l | l
              · rw [List.getElem?_append_left l] at e1
                have q := ht j u r' e1 e2'
                rw [upd_ne (fun z => by rw [z, eD] at q; cases q), upd_ne (fun z => by rw [z] at q; rw [sm2 _ _ q] at hT; cases hT)]
                exact sm2 _ _ q
              · rw [List.getElem?_append_right l] at e1
                have ej : j = ts.length := by
                  rcases Nat.lt_or_ge 0 (j - ts.length) with q | q
                  · rw [List.getElem?_eq_none (by simp; omega)] at e1; cases e1
                  · omega
                subst ej
                have eu : u = t := by simpa using e1.symm
                subst eu
                rw [tl, er] at e2'
                injection e2' with e2'
                subst e2'
                rw [upd_ne tD, upd_same]
            · obtain ⟨n1, n2⟩ := fr b o e
              rw [upd_ne n1, upd_ne n2]
              exact sm2 _ _ (sm _ _ e)
        · rintro H' ⟨ts, tl, eD, ht, sm⟩
          walk_at "go"
          exact fin _ _ ⟨D, ts, _, _, rfl, eD, by rw [tl, List.length_map]; omega, ht, sm⟩
      · rintro σ' H3 ⟨d, ts, x5, x6, rfl, ed, tl, ht, s3⟩
        walk_at "go"
        refine rd_listZip ?_
        walk_at "go"
        refine ⟨c, d, iV cl, ts.map V.ref, rfl, SqL.of (s3 c _ ec), SqL.of ed, by rw [List.length_map, List.length_map]; omega, fun l us H4 s4 _ el ul hu => ?_⟩
        walk_at "go"
        have hkey : keyK k n (entR rs) cl = (List.range n).map fun i => (cl.getD i 0, (rs.getD i []).map fun v => cl.getD v 0) := key_rows hrl hrk cl
        refine use_numT (ks := (keyK k n (entR rs) cl).map nkP) el (by rw [ul, List.length_map, List.length_map, hkey, List.length_map, List.length_range]; exact clen) (by rw [List.length_map, hkey, List.length_map, List.length_range]; exact hn) (fun i kk b e1 e2 => ?_) fun f H5 s5 _ ef => ?_
        · rw [hkey, List.map_map, List.getElem?_map] at e1
          have hi : i < n := by
            rcases Nat.lt_or_ge i n with q | q
            · exact q
            · rw [List.getElem?_eq_none (by rw [List.length_range]; exact q)] at e1; cases e1
          rw [List.getElem?_range hi] at e1
          have e1 := (Option.some.inj e1).symm
          subst e1
          obtain ⟨t, et⟩ : ∃ t, ts[i]? = some t := ⟨_, List.getElem?_eq_getElem (by omega)⟩
          obtain ⟨r, er⟩ : ∃ r, rs[i]? = some r := ⟨_, List.getElem?_eq_getElem (by omega)⟩
          have ecl : cl[i]? = some (cl.getD i 0) := getD_some (by omega)
          have erd : rs.getD i [] = r := by rw [List.getD_eq_getElem?_getD, er]; rfl
          have h1 := hu i b (.int (cl.getD i 0 : Nat)) (.ref t) e2 (by rw [List.getElem?_map, ecl]; rfl) (by rw [List.getElem?_map, et]; rfl)
          have h2 := s4 t _ (ht i t r et er)
          show KeyAt H4 (nkP (cl.getD i 0, (rs.getD i []).map fun v => cl.getD v 0)) b
          rw [erd]
          exact keyP h1 h2
        · have en := numb_inj nkP_inj (keyK k n (entR rs) cl) []
          rw [List.map_nil] at en
          rw [en] at ef
          have ef : H5 f = some (.lst (iV (finer k n (entR rs) cl))) := ef
          have sH5 : L2.Same H H5 := s2.trans (s3.trans (s4.trans s5))
          have ec5 := s5 c _ (s4 c _ (s3 c _ ec))
          have shp : ∀ ns : List Nat, SeqAt.shaped (.list (iD ns)) = true := fun ns => by
            unfold SeqAt.shaped
            rw [PyData.canLay0, lay0I, PyData.depth, depI0]; rfl
          walk_at "go"
          refine ⟨_, _, .lst (SqL.of ef) (dpI _), .lst (SqL.of ec5) (dpI _), shp _, shp _, ?_⟩
          rw [ieq]
          walk_at "go"
          refine ite2 (fun z => ?_) (fun z => ?_)
          · have z : finer k n (entR rs) cl = cl := by simpa using z
            walk_at "go"
            exact kk c cl H5 sH5 ec5 R z
          · have z : ¬ finer k n (entR rs) cl = cl := by simpa using z
            walk_at "go"
            refine ⟨_, ?_, f, _, _, _, _, _, rfl, ef, rf_next hlt R, rfl, sH5⟩
            rcases finer_less hlt R with q | q
            · exact absurd q z
            · exact q
end

end Cs
namespace Cs
open PySem L2
open PyProof.Rows (envOfC)
/-! the dict of a walk: states to their numbers -/
abbrev kN (s : Nat) : Key := Sum.inl (s : Int)
theorem kN_inj (a b : Nat) (h : kN a = kN b) : a = b := by
  have h : (a : Int) = (b : Int) := Sum.inl.inj h
  omega
def KvN (kvs : List (Key × V)) (ss : List Nat) : Prop := kvs.map (·.1) = ss.map kN ∧ ∀ (i : Nat) (p : Key × V), kvs[i]? = some p → p.2 = .int (i : Nat)
theorem kvN_len {kvs : List (Key × V)} {ss : List Nat} (h : KvN kvs ss) : kvs.length = ss.length := by
  rw [← List.length_map (f := (·.1)), h.1, List.length_map]
theorem kvN_at {kvs : List (Key × V)} {ss : List Nat} (h : KvN kvs ss) (x : Nat) : valV kvs (kN x) = if x ∈ ss then some (.int (ss.idxOf x : Nat)) else none := by
  obtain ⟨h1, h2⟩ := h
  obtain ⟨a, b⟩ := find_idx (fun i (v : V) => v = .int (i : Nat)) (kN x) kvs 0 fun i p e => by rw [Nat.zero_add]; exact h2 i p e
  rw [h1] at a b
  cases e : valV kvs (kN x) with
  | none =>
    have := b e
    rw [if_neg fun q => this (List.mem_map.mpr ⟨x, q, rfl⟩)]
  | some v =>
    obtain ⟨m, ev⟩ := a v e
    obtain ⟨y, hy, ey⟩ := List.mem_map.mp m
    obtain rfl := kN_inj _ _ ey
    rw [Nat.zero_add, idx_map kN_inj] at ev
    rw [if_pos hy, ev]
theorem kvN_put {kvs : List (Key × V)} {ss : List Nat} (h : KvN kvs ss) {x : Nat} (hn : x ∉ ss) : KvN (putK kvs (kN x) (.int (ss.length : Nat))) (ss ++ [x]) := by
  have hl := kvN_len h
  have hv := kvN_at h x
  rw [if_neg hn] at hv
  obtain ⟨h1, h2⟩ := h
  rw [putK_new _ hv]
  refine ⟨by simp [h1], fun i p q => ?_⟩
  rcases Nat.lt_or_ge i kvs.length with l | l
  · rw [List.getElem?_append_left l] at q; exact h2 i p q
  · have := (List.getElem?_eq_some_iff.mp q).1
    have ei : i = ss.length := by simp at this; omega
    subst ei
    rw [← hl] at q
    simp at q
    rw [← q, hl]
theorem nodup_le : ∀ (l m : List Nat), l.Nodup → (∀ x ∈ l, x ∈ m) → l.length ≤ m.length
  | [], _, _, _ => Nat.zero_le _
  | a :: l, m, h, hm => by
    have ha := hm a List.mem_cons_self
    have := nodup_le l (m.erase a) (List.nodup_cons.mp h).2 fun x hx => by
      have hne : x ≠ a := fun z => (List.nodup_cons.mp h).1 (z ▸ hx)
      exact (List.mem_erase_of_ne hne).mpr (hm x (List.mem_cons_of_mem _ hx))
    rw [List.length_erase_of_mem ha] at this
    have hp := List.length_pos_of_mem ha
    rw [List.length_cons]; omega
theorem nodup_lt {l : List Nat} {n : Nat} (h : l.Nodup) (hl : ∀ x ∈ l, x < n) : l.length ≤ n := by
  have := nodup_le l (List.range n) h fun x hx => List.mem_range.mpr (hl x hx)
  rwa [List.length_range] at this
theorem addNew_len {as ss : List Nat} : (addNew ss as).length ≤ ss.length + as.length := by
  induction as generalizing ss with
  | nil => rw [addNew]; simp
  | cons a as ih =>
    rw [addNew]
    split
    · have := ih (ss := ss); rw [List.length_cons]; omega
    · have := ih (ss := ss ++ [a]); rw [List.length_append] at this; simp at this; rw [List.length_cons]; omega
theorem addNew_snoc {as ss : List Nat} {a : Nat} : addNew ss (as ++ [a]) = if a ∈ addNew ss as then addNew ss as else addNew ss as ++ [a] := by
  induction as generalizing ss with
  | nil => rw [List.nil_append, addNew, addNew, addNew]; rfl
  | cons b as ih =>
    rw [List.cons_append, addNew, addNew]
    split
    · exact ih
    · exact ih
theorem same_new {H H' : Hp} {a : Addr} {o : HO} (h : L2.Same H H') (ha : H a = none) : L2.Same H (upd H' a o) := fun b u e => by
  rw [upd_ne (fun z => by rw [z, ha] at e; cases e)]
  exact h b u e
theorem same_lay {H : Hp} {a : Addr} {o : HO} (ha : H a = none) : L2.Same H (upd H a o) := same_new (fun _ _ h => h) ha
theorem rd_dnotin {ty td : TE} {σ : St} {H : Hp} {Q : VK} (h : ty σ H fun y H1 => td σ H1 fun x H2 => ∃ a o, x = .ref a ∧ DGet H2 a y o ∧ Q (.bl (!o.isSome)) H2) : tDNotIn ty td σ H Q := h
theorem tyl {K : PySem.W.Frag} {p : Addr} {xs : List V} {H : Hp} (e : H p = some (.lst xs)) : tyV K "list" (.ref p) H := .inl ⟨rfl, _, SqL.of e⟩

end Cs
namespace Cs
open PySem L2
open PyProof.Rows (envOfC)
/-! a lambda of one parameter, which its body's comprehension captures -/
namespace L1
open PySem
section
variable {M : Model} {A : Around} {E : Value → Shared → Prop} {s : Shared}
/-- the frame of a call: the one parameter in a cell of its own, the rest captured -/
theorem newEnv1 {scope : Scope} {globals : Addr} {closure : List (Str × Addr)} {x : Str} {v : Value} {qual : Str} {func : Option Addr} {code : Value} {builtins : Addr} {Q : Env → Shared → Prop} (hk : scope.kind = .function) (hx : scope.names.lookup x = some .cell)
    (h1 : ∀ n acc, cellsFrom n scope.names acc = (x, n) :: acc) (hp : ∀ h : Heap, pushCells h scope.names = h.push { cls := .type "cell", data := .cell none })
    (hQ : ∀ (h' : Heap) (tk : Nat), h'.Ns s.heap.objs.size (fun _ => none) → h'.IsCell (s.heap.objs.size + 1) (some v) → (∀ b o, s.heap.get? b = some o → h'.get? b = some o) →
      Q (newEnv scope s.heap.objs.size globals ((x, s.heap.objs.size + 1) :: closure) qual func code none builtins) { s with heap := h', toks := tk }) :
    wpAny M A (newFunctionEnv scope globals closure [(x, v)] qual func code none builtins) Q E s := by
  simp only [newFunctionEnv, Option.isSome_none, Bool.false_eq_true, if_false]
  refine wpAny_bind (wpAny_alloc ?_)
  refine wpAny_bind (wpAny_layCells _ (fun name kind cells => by cases hkc : kind == NameKind.cell <;> simp [hkc]) _ _ _ _ ?_)
  rw [show ({ s with heap := s.heap.push { cls := .type "frame", data := .dict #[] } } : Shared).heap.objs.size = s.heap.objs.size + 1 from Heap.size_push .., h1, hp]
  simp only [List.forIn_cons, List.forIn_nil]
  have hs1 : (s.heap.push { cls := .type "frame", data := .dict #[] }).objs.size = s.heap.objs.size + 1 := Heap.size_push ..
  have c0 : ((s.heap.push { cls := .type "frame", data := .dict #[] }).push { cls := .type "cell", data := .cell none }).IsCell (s.heap.objs.size + 1) none := by
    rw [← hs1]
    exact ⟨_, Heap.get?_push_size _ rfl, rfl⟩
  have n0 := (Heap.Ns.new s.heap (.type "frame")).keeps (h' := (s.heap.push { cls := .type "frame", data := .dict #[] }).push { cls := .type "cell", data := .cell none }) fun b o e => Heap.get?_push_of_some _ e
  refine wpAny_bind (wpAny_bind ?_)
  refine wpAny_bind (wpAny_storeName_cell (env := newEnv scope s.heap.objs.size globals ((x, s.heap.objs.size + 1) :: closure) qual func code none builtins) (c := s.heap.objs.size + 1) hk hx (by show List.lookup x ((x, s.heap.objs.size + 1) :: closure) = _; simp [List.lookup]) c0 fun h' hc' hs' => ?_)
  refine wpAny_pure (wpAny_pure (wpAny_pure ?_))
  exact hQ h' _ (n0.sameBut hs' (Nat.ne_of_lt (Nat.lt_succ_self _))) hc' fun b o e => hs'.extBut b o (Nat.ne_of_lt (Nat.lt_trans (Heap.lt_size e) (Nat.lt_succ_self _))) (Heap.get?_push_of_some _ (Heap.get?_push_of_some _ e))
end
end L1

end Cs
namespace Cs
open PySem L2
open PyProof.Rows (envOfC)
/-! the lambda's context at its entry -/
namespace L1
open PySem PySem.Spec PyProof.Rows L2 LamX NdefX
/-- the lambda's words, the cells that it captured, its code object -/
structure LF where
  qual : Str
  params : Arguments
  body : Expr
  scope : Scope
  cl : List (Str × Addr)
  c : Addr
/-- its names: x in a cell of its own, fr captured -/
structure LScope (N fr : List Str) (x : Str) (sc : Scope) : Prop where
  kind : sc.kind = .function
  co : sc.isCoroutine = false
  gen : sc.isGenerator = false
  pre : N.take (1 + fr.length) = x :: fr
  cx : sc.names.lookup x = some .cell
  only : ∀ y ∈ sc.names, y.2 = .cell → y.1 = x
  free : ∀ y ∈ sc.names, y.2 = .free → y.1 ∈ fr
  frk : ∀ y ∈ fr, sc.names.lookup y = some .free
  cells : ∀ n acc, cellsFrom n sc.names acc = (x, n) :: acc
  push : ∀ h : Heap, pushCells h sc.names = h.push { cls := .type "cell", data := .cell none }
abbrev envL (F : LF) (x : Str) (f L : Addr) : Env := PySem.W.envX F.qual F.scope L f (.ref F.c) ((x, L + 1) :: F.cl)
def lcx (CX : CXT) (P : Program) (w : World) (K : PySem.W.Frag) (mg : Str → Option Value) (base : Heap) (N : List Str) (F : LF) (x : Str) (f : Addr) (A : Around) (outer : List Env) (s : Shared) (H : Hp) (E : XK) : Cx where
  prog := P
  w := w
  K := K
  mg := mg
  base := base
  A := A.deeper (envL F x f s.heap.objs.size)
  N := N
  s_0 := s
  H_0 := H
  env := envL F x f s.heap.objs.size
  outer := outer
  stack := envL F x f s.heap.objs.size :: outer
  ex := []
  calm := true
  fn := fun _ => false
  pn := []
  xe := fun e s' => wpAny (model P w) (A.deeper (envL F x f s.heap.objs.size)) (leaving (envL F x f s.heap.objs.size) e) (fun _ s'' => CX outer H s E e s'') (fun e' s'' => CX outer H s E e' s'') s'
section
variable {CX : CXT} {P : Program} {w : World} {K : PySem.W.Frag} {mg : Str → Option Value} {base : Heap} {N fr : List Str} {F : LF} {x : Str} {f : Addr} {A : Around} {outer : List Env} {s : Shared} {H : Hp} {E : XK} {u : Value} {v : V} {ws : List (Option V)}
theorem inv_startL {h₁ : Heap} {tk : Nat} (S : LScope N fr x F.scope) (hd : A.handled = none) (e0 : Env0 P w K mg base A outer s H) (r : L2.RelV v u) (C : CellsAt F.cl fr ws s.heap H) (hns : h₁.Ns s.heap.objs.size fun _ => none) (hc : h₁.IsCell (s.heap.objs.size + 1) (some u))
    (kp : ∀ b o, s.heap.get? b = some o → h₁.get? b = some o) : Inv (lcx CX P w K mg base N F x f A outer s H E) [] (startF N [v] ws) H { s with heap := h₁, toks := tk } := by
  have hpl : 1 + fr.length ≤ N.length := by
    have q := congrArg List.length S.pre
    rw [List.length_take, List.length_cons] at q
    omega
  have noA : ∀ b : Addr, b ∉ (lcx CX P w K mg base N F x f A outer s H E).ex := fun b z => absurd (show b ∈ ([] : List Addr) from z) (by simp)
  have cellK : ∀ {c : Addr} {v : Option Value}, s.heap.IsCell c v → h₁.IsCell c v := fun {c v} ⟨o, ho, hd⟩ => ⟨o, kp _ _ ho, hd⟩
  have look : ∀ {y : Str} {c : Addr}, ((x, s.heap.objs.size + 1) :: F.cl).lookup y = some c → (y = x ∧ c = s.heap.objs.size + 1) ∨ F.cl.lookup y = some c := fun {y c} e => by
    rw [List.lookup_cons] at e
    cases hb : y == x with
    | true => rw [hb] at e; exact .inl ⟨beq_iff_eq.mp hb, (Option.some.inj e).symm⟩
    | false => rw [hb] at e; exact .inr e
  have oldc : ∀ {y : Str} {c : Addr}, F.cl.lookup y = some c → c < s.heap.objs.size := fun {y c} e => by
    obtain ⟨_, o, ho, _⟩ := (C.all y c e).2
    exact Heap.lt_size ho
  have lookf : ∀ {y : Str} {c : Addr}, F.scope.names.lookup y = some .free → F.cl.lookup y = some c → ((x, s.heap.objs.size + 1) :: F.cl).lookup y = some c := fun {y c} hy e => by
    have ne : (y == x) = false := by
      cases hb : y == x with
      | true =>
        rw [beq_iff_eq.mp hb, S.cx] at hy
        cases hy
      | false => rfl
    rw [List.lookup_cons, ne]
    exact e
  refine ⟨⟨e0.mod, S.kind, rfl, rfl, Nat.le_refl _, fun y z c h1 h2 => ?_, fun y hy => ?_, fun y c z _ => ?_, fun _ => hd, Around.frames_deeper e0.frames, .inr ⟨rfl, rfl⟩, fun b z => absurd z (noA b), e0.bs, e0.bsz, fun b _ _ => noA b,
      fun b z => absurd z (noA b), e0.funs, e0.frf⟩,
    rfl, e0.bare, Un.kept kp, ⟨_, hns, fun i y v' e1 e2 e3 => ?_⟩, fun y c e => ?_, e0.hok.fresh (Nat.le_refl _), fun y c e => ?_, fun q hq => absurd (show q ∈ ([] : List (Addr × Obj)) ++ [] from hq) (by simp), e0.hok.kept kp, ?_⟩
  · rcases look h1 with ⟨a1, a2⟩ | a <;> rcases look h2 with ⟨b1, b2⟩ | b
    · rw [a1, b1]
    · exact absurd (oldc b) (by rw [a2]; exact Nat.not_lt.mpr (Nat.le_succ _))
    · exact absurd (oldc a) (by rw [b2]; exact Nat.not_lt.mpr (Nat.le_succ _))
    · exact C.inj y z c a b
  · have hy : F.scope.names.lookup y = some .cell ∨ F.scope.names.lookup y = some .free := hy
    rcases hy with hy | hy
    · have e := S.only _ (PySem.mem_of_lookup hy) rfl
      have e : y = x := e
      subst e
      exact ⟨_, by show List.lookup y ((y, s.heap.objs.size + 1) :: F.cl) = _; rw [List.lookup_cons, beq_self_eq_true]⟩
    · obtain ⟨i, hi⟩ := List.mem_iff_getElem?.mp (S.free _ (PySem.mem_of_lookup hy) rfl)
      obtain ⟨c, hc, _⟩ := C.has i y hi
      exact ⟨c, lookf hy hc⟩
  · have z : false = true := z
    cases z
  · have e1 : N[i]? = some y := e1
    have clen := C.len
    unfold startF at e2
    by_cases h1 : i < 1
    · have hi : i = 0 := by omega
      subst hi
      have hq : (x :: fr)[0]? = some y := by
        rw [← S.pre, List.getElem?_take_of_lt (by omega)]
        exact e1
      have ey : x = y := by simpa using hq
      subst ey
      have ev : v = v' := by simpa using e2
      subst ev
      exact ⟨u, r, .inr ⟨.inl S.cx, _, by show List.lookup x ((x, s.heap.objs.size + 1) :: F.cl) = _; rw [List.lookup_cons, beq_self_eq_true], hc⟩⟩
    · rw [List.getElem?_append_right (by simp; omega), List.length_map, List.length_singleton] at e2
      by_cases h2 : i < 1 + fr.length
      · have hq : (x :: fr)[i]? = some y := by
          rw [← S.pre, List.getElem?_take_of_lt (by omega)]
          exact e1
        have hq : fr[i - 1]? = some y := by
          obtain ⟨j, rfl⟩ : ∃ j, i = j + 1 := ⟨i - 1, by omega⟩
          simpa using hq
        rw [List.getElem?_append_left (by omega)] at e2
        obtain ⟨c, hc', hv⟩ := C.has (i - 1) y hq
        obtain ⟨u', ru, hu⟩ := hv v' e2
        have hyf := S.frk y (List.mem_of_getElem? hq)
        exact ⟨u', ru, .inr ⟨.inr hyf, c, lookf hyf hc', cellK hu⟩⟩
      · rw [List.getElem?_append_right (by omega), List.getElem?_replicate] at e2
        split at e2 <;> cases e2
  · rcases look e with ⟨_, a2⟩ | a
    · exact ⟨some u, by rw [a2]; exact hc⟩
    · obtain ⟨v', z⟩ := (C.all y c a).2
      exact ⟨v', cellK z⟩
  · rcases look e with ⟨_, a2⟩ | a
    · rw [a2]; exact e0.hok.fresh (Nat.le_succ _)
    · exact (C.all y c a).1
  · have clen := C.len
    unfold startF
    show _ = N.length
    rw [List.length_append, List.length_append, List.length_map, List.length_replicate, List.length_singleton]
    omega
end
end L1

end Cs
namespace Cs
open PySem L2
open PyProof.Rows (envOfC)
/-! the lambda made, and tracked from then on -/
namespace L1
open PySem PySem.Spec PyProof.Rows L2 LamX NdefX
def LamO (f : Addr) (F : LF) : HO := .ext fun h => ∃ (pm ctv : Value), h.get? f = some (PySem.W.kla_obj "<lambda>" F.qual F.params F.body F.scope F.cl pm F.c ctv)
theorem lamO_at {P : Program} {w : World} {H : Hp} {h : Heap} {f : Addr} {F : LF} (hok : HOk P w H h) (e : H f = some (LamO f F)) : ∃ (pm ctv : Value), h.get? f = some (PySem.W.kla_obj "<lambda>" F.qual F.params F.body F.scope F.cl pm F.c ctv) := (hok f _ e).1
section
variable {X : Cx} {pins : List (Addr × Obj)} {σ : L2.St} {H : Hp} {s : Shared}
theorem inv_lam {F : LF} {t' : Nat} {pm ctv : Value} (I : Inv X pins σ H s) :
    Inv X pins σ (upd H s.heap.objs.size (LamO s.heap.objs.size F)) { s with heap := s.heap.push (PySem.W.kla_obj "<lambda>" F.qual F.params F.body F.scope F.cl pm F.c ctv), toks := t' } := by
  refine I.laid (a := s.heap.objs.size) (fun b u e => Heap.get?_push_of_some _ e) (Nat.le_refl _) ?_
  have e : (s.heap.push (PySem.W.kla_obj "<lambda>" F.qual F.params F.body F.scope F.cl pm F.c ctv)).get? s.heap.objs.size = some (PySem.W.kla_obj "<lambda>" F.qual F.params F.body F.scope F.cl pm F.c ctv) := Heap.get?_push_size _ rfl
  exact ⟨⟨_, _, e⟩, ⟨_, e⟩, fun h1 h2 ⟨p, t, z⟩ st => ⟨p, t, st _ z⟩⟩
theorem lam_make1 {T : List (Addr × Str)} {c P : Addr} {params : Arguments} {body : Expr} {scope : Scope} {pos : Pos} {E : Value → Shared → Prop} {Q : Value → Shared → Prop} (I : Inv X pins σ H s) (TB : TabB X.base X.mg c P) (hcode : X.env.code = .ref c)
    (hm : (P, X.env.qual ++ "<lambda>") ∈ T) (hu : ∀ p ∈ T, p.1 = P → p.2 = X.env.qual ++ "<lambda>") (hT : Tabs T H) (hdef : defaultsOf params X.env = ([], [])) (hfree : ∀ y ∈ scope.names, y.2 = .free → ∃ c, X.env.cells.lookup y.1 = some c)
    (h : ∀ (f c' : Addr) (H1 : Hp) (s' : Shared), Inv X pins σ H1 s' → ExtN H H1 → Tabs T H1 → H f = none → H1 f = some (LamO f ⟨X.env.qual ++ "<lambda>", params, body, scope, cloFrom X.env.cells scope.names [], c'⟩) → H1 c' = some (CodeO c' (X.env.qual ++ "<lambda>")) → Q (.ref f) s') :
    wpAny (model X.prog X.w) X.A (eval (.Lambda params body scope pos) X.env) Q E s := by
  obtain ⟨ps, hP, ht, ha⟩ := hT _ hm
  refine PySem.W.kla_eval hdef ?_
  have bP : s.heap.BuiltinsAt X.mg P := TB.bm.keeps I.bk
  have hP' : s.heap.get? P = some { cls := .none, data := .fields ps } := I.hok P _ hP
  cases hc : codeAmong pos ps.toList with
  | none =>
    refine PySem.W.kla_makeFunction (mg := X.mg) (c := c) (P := P) (ps := ps) (closure_ok hfree) I.ok.glob (I.mod.glob.keeps I.bk) hcode (TB.code.keeps I.bk) hP' ht hc TB.gP bP fun c' ctv h' tk hx hge hlt hrec htb => ?_
    obtain ⟨c2, oc, vs, t, e2, hoc, hd, hv⟩ := hrec
    cases e2
    have nC : H c' = none := I.hok.fresh hge
    have I1 := inv_table (t' := tk) (more := #[rawInt pos.line, rawInt pos.col, .ref c']) (h' := h') I hP (fun b o hb e => hx b o hb e) htb hge ⟨oc, vs, t, hoc, hd, hv⟩
    have hE : ExtN H (upd (upd H P (.tbl (ps ++ #[rawInt pos.line, rawInt pos.col, .ref c']))) c' (CodeO c' (X.env.qual ++ "<lambda>"))) := fun b o e n => by
      rw [upd_ne (ne_of_none e nC), upd_ne (fun z => n ps (Option.some.inj (e.symm.trans (by rw [z]; exact hP))))]
      exact e
    have eL : (ps ++ #[rawInt pos.line, rawInt pos.col, .ref c']).toList = ps.toList ++ [rawInt pos.line, rawInt pos.col, .ref c'] := by simp
    have T1 : Tabs T (upd (upd H P (.tbl (ps ++ #[rawInt pos.line, rawInt pos.col, .ref c']))) c' (CodeO c' (X.env.qual ++ "<lambda>"))) := fun p hp => by
      by_cases hb : p.1 = P
      · rw [hu p hp hb, hb]
        refine ⟨_, by rw [upd_ne (ne_of_none hP nC), upd_same], by rw [eL]; exact PySem.TriplesOk_snoc _ _ _ _ ht, fun p' cv hcv => ?_⟩
        rw [eL] at hcv
        rcases among_app _ ht hcv with z | z
        · obtain ⟨c0, e1, e2⟩ := ha p' cv z
          exact ⟨c0, e1, hE _ _ e2 codeO_ne⟩
        · exact ⟨c', z, upd_same⟩
      · obtain ⟨ps', a1, a2, a3⟩ := hT p hp
        refine ⟨ps', by rw [upd_ne (ne_of_none a1 nC), upd_ne hb]; exact a1, a2, fun p' cv hcv => ?_⟩
        obtain ⟨c0, e1, e2⟩ := a3 p' cv hcv
        exact ⟨c0, e1, hE _ _ e2 codeO_ne⟩
    have nF := I1.hok.fresh (Nat.le_refl _)
    have I2 := inv_lam (F := ⟨X.env.qual ++ "<lambda>", params, body, scope, cloFrom X.env.cells scope.names [], c'⟩) (t' := tk) (pm := (X.mg "__name__").getD .none) (ctv := ctv) I1
    refine h h'.objs.size c' _ _ I2 (fun b o e n => ?_) (T1.ext fun b o e => ?_) (I.hok.fresh (Nat.le_trans hge (Nat.le_of_lt hlt))) upd_same ?_
    · have e1 := hE b o e n
      exact (upd_ne (ne_of_none e1 nF)).trans e1
    · exact (upd_ne (ne_of_none e nF)).trans e
    · exact (upd_ne (Nat.ne_of_lt hlt)).trans upd_same
  | some cv =>
    obtain ⟨c', e, hco⟩ := ha pos cv hc
    subst e
    refine PySem.W.kla_makeFunctionHit (mg := X.mg) (c := c) (P := P) (ps := ps) (closure_ok hfree) I.ok.glob (I.mod.glob.keeps I.bk) hcode (TB.code.keeps I.bk) hP' ht hc bP fun ctv h' tk hx hsz => ?_
    have I1 : Inv X pins σ H { s with heap := h', toks := tk } := I.kept hx
    have nF : H h'.objs.size = none := I1.hok.fresh (Nat.le_refl _)
    have I2 := inv_lam (F := ⟨X.env.qual ++ "<lambda>", params, body, scope, cloFrom X.env.cells scope.names [], c'⟩) (t' := tk) (pm := (X.mg "__name__").getD .none) (ctv := ctv) I1
    refine h h'.objs.size c' _ _ I2 (fun b o e n => ?_) (hT.ext fun b o e => ?_) nF upd_same ?_
    · exact (upd_ne (ne_of_none e nF)).trans e
    · exact (upd_ne (ne_of_none e nF)).trans e
    · exact (upd_ne (ne_of_none hco nF)).trans hco
end

section
variable {CX : CXT} {P : Program} {w : World} {K : PySem.W.Frag} {mg : Str → Option Value} {base : Heap} {N fr : List Str} {F : LF} {x : Str} {f : Addr} {A : Around} {outer : List Env} {s : Shared} {H : Hp} {E : XK} {u : Value} {v : V} {ws : List (Option V)} {k : Nat} {tb : TE} {Q : VK}
theorem lam_run (S : LScope N fr x F.scope) (hb : ∀ (pm ctv u : Value), bindArgs (PySem.W.kla_fn "<lambda>" F.qual F.params F.body F.scope F.cl pm (.ref F.c) ctv) ⟨[u], []⟩ = pure [(x, u)]) (hr : Room (k + 1) A) (e0 : Env0 P w K mg base A outer s H) (hf : H f = some (LamO f F)) (hc : H F.c = some (CodeO F.c F.qual))
    (C : CellsAt F.cl fr ws s.heap H) (r : L2.RelV v u) (hbody : Room k (A.deeper (envL F x f s.heap.objs.size)) → PE (lcx CX P w K mg base N F x f A outer s H E) F.body tb) (h : tb (startF N [v] ws) H Q) :
    codeAny (model P w) A (.call (.ref f) ⟨[u], []⟩) (CR CX outer P w H s Q E) s := by
  obtain ⟨pm, ctv, ho⟩ := lamO_at e0.hok hf
  have lim : s.heap.NoLimit := e0.mod.nolimit.keeps fun b o e => (e0.bs b o e).1
  refine PySem.W.kla_callFunE hr.depth ho rfl S.co S.gen rfl (codeO_at e0.hok hc) ?_
  rw [hb pm ctv u]
  refine wpAny_pure (newEnv1 S.kind S.cx S.cells S.push fun h₁ tk hns hcell kp => ⟨?_, ?_⟩)
  · exact lim.keeps kp
  · show codeAny _ _ (.expr F.body (envL F x f s.heap.objs.size)) _ _
    have J : Inv (lcx CX P w K mg base N F x f A outer s H E) [] (startF N [v] ws) H { s with heap := h₁, toks := tk } := inv_startL S hr.hd e0 r C hns hcell kp
    refine PySem.W.kla_codeExpr (wpAny_mono ((hbody (hr.deeper _)).run [] _ _ H Q J h) (fun v s' hq => ?_) fun e s' hq => hq)
    obtain ⟨w', H', J', rv, q⟩ := hq
    exact ⟨w', H', J'.os, J'.bare, J'.base, J'.hok, rv, q⟩
end
end L1

end Cs
namespace Cs
open PySem L2
open PyProof.Rows (envOfC)
/-! the lambda called by a def that got it -/
namespace L1
open PySem PySem.Spec PyProof.Rows L2 LamX NdefX
theorem lamAt_of {X : Cx} {pins : List (Addr × Obj)} {σ : L2.St} {H : Hp} {s : Shared} {f : Addr} {F : LF} (I : Inv X pins σ H s) (e : H f = some (LamO f F)) : PySem.W.FnAt f s.heap := by
  obtain ⟨pm, ctv, ho⟩ := lamO_at I.hok e
  exact ⟨_, _, _, _, ho⟩
theorem cells_un {fs : List Addr} {H H' : Hp} {h h' : Heap} {cl : List (Str × Addr)} {fr : List Str} {ws : List (Option V)} (C : CellsAt cl fr ws h H) (u : Un fs [] H H' h h') : CellsAt cl fr ws h' H' := by
  have key : ∀ {c : Addr} {v : Option Value}, H c = none → h.IsCell c v → h'.IsCell c v := fun {c v} n ⟨o, ho, hd⟩ => by
    obtain ⟨sl, q⟩ := u.any ho n (by simp)
    exact ⟨_, q, hd⟩
  refine ⟨C.len, fun y c e => ?_, C.inj, fun i y hi => ?_⟩
  · obtain ⟨n, v, hv⟩ := C.all y c e
    obtain ⟨o, ho, _⟩ := id hv
    exact ⟨u.free c o ho n (by simp), v, key n hv⟩
  · obtain ⟨c, hc, k⟩ := C.has i y hi
    refine ⟨c, hc, fun v e => ?_⟩
    obtain ⟨w, r, q⟩ := k v e
    exact ⟨w, r, key (C.all y c hc).1 q⟩
def tAct (F : LF) (f : Addr) (i : Nat) (N : List Str) (ws : List (Option V)) (tb : TE) (ta : TA) : TE := fun σ H Q => σ[i]? = some (some (.ref f)) ∧ H f = some (LamO f F) ∧ ta σ H fun vs H1 => ∃ v, vs = [v] ∧ H1 f = some (LamO f F) ∧ H1 F.c = some (CodeO F.c F.qual) ∧ tb (startF N [v] ws) H1 Q
theorem pe_act1 {X : Cx} {CX : CXT} {E : XK} {F : LF} {f : Addr} {fr N : List Str} {x a : Str} {ws : List (Option V)} {k j i : Nat} {tb : TE} {ta : TA} {arg : Expr} {p1 p2 : Pos} (S : LScope N fr x F.scope)
    (hb : ∀ (pm ctv u : Value), bindArgs (PySem.W.kla_fn "<lambda>" F.qual F.params F.body F.scope F.cl pm (.ref F.c) ctv) ⟨[u], []⟩ = pure [(x, u)]) (hex : X.ex = []) (C : CellsAt F.cl fr ws X.s_0.heap X.H_0) (hr : Room j X.A) (hk : k + 1 ≤ j) (hx : Passes CX X E)
    (hbody : ∀ (A : Around) (outer : List Env) (s : Shared) (H : Hp), Room k (A.deeper (envL F x f s.heap.objs.size)) → PE (lcx CX X.prog X.w X.K X.mg X.base N F x f A outer s H E) F.body tb) (hN : X.N[i]? = some a) (hv : Vis X.env.scope a) (ha : PA X [arg] ta)
    (hd : (a == ("__debug__" : Str)) = false := by decide) (hcd : (a == ("__classdict__" : Str)) = false := by decide)
    (he : starEach [arg] X.env = (false, eval arg X.env) :: starEach [] X.env := by rfl) (hpl : (backTo p2 (starEach [] X.env)).any (·.1) = false := by rfl) :
    PE X (.Call (.Name a p1) [arg] [] p2) (tAct F f i N ws tb ta) := by
  refine ⟨fun pins s σ H Q I h => ?_⟩
  obtain ⟨hs, hf, ht⟩ := h
  refine wpAny_Call_Name_kw (thn ((pe_var (pos := p1) hN hv hd hcd).run pins s σ H (fun v H1 => v = .ref f ∧ H1 = H) I ⟨.ref f, hs, rfl, rfl⟩) fun u s1 ⟨v, H1, I1, r1, q1⟩ => ?_)
  obtain ⟨ev, eH⟩ := q1
  subst ev
  rw [eH] at I1
  obtain rfl : u = Value.ref f := r1
  refine PySem.W.callWith_F (first := []) (lamAt_of I1 hf) (thn (ha.run p2 pins s1 σ H _ I1 ht) fun us s2 ⟨vs, H2, I2, r, v, ev, h1, h2, q⟩ => ⟨lamAt_of I2 h1, ?_⟩) he hpl
  subst ev
  obtain ⟨u, rfl, ru⟩ := vals1 r
  show wpAny _ _ (call (.ref f) [u]) _ _ _
  have un := I2.base
  rw [hex] at un
  refine wpAny_call (codeAny_mono (lam_run (Q := Q) S hb (hr.mono hk) I2.env0 h1 h2 (cells_un C un) ru (hbody _ _ _ _) q) fun r s' hq => ?_)
  cases r with
  | error e => exact hx pins σ H2 s2 e s' I2 hq
  | ok fl =>
    cases fl with
    | ret u => exact I2.after hq
    | next => exact False.elim hq
    | brk => exact False.elim hq
    | cont => exact False.elim hq
end L1

end Cs
namespace Cs
open PySem L2
open PyProof.Rows (envOfC)
/-! x(e, lambda: ..): a def called with a lambda behind one argument, a third by its default None -/
namespace L1
open PySem PySem.Spec PyProof.Rows L2 LamX NdefX
abbrev mkF (X : Cx) (params : Arguments) (body : Expr) (scope : Scope) (c' : Addr) : LF := ⟨X.env.qual ++ "<lambda>", params, body, scope, cloFrom X.env.cells scope.names [], c'⟩
/-- TT: what the def makes of it -/
def tLam1 (T : List (Addr × Str)) (js : List Nat) (mk : Addr → LF) (te0 : TE) (TT : Addr → Addr → List (Option V) → V → Hp → VK → Prop) : TE := fun σ H Q => te0 σ H fun v0 H1 => Tabs T H1 ∧ ∀ (f c' : Addr) (H2 : Hp), ExtN H1 H2 → Tabs T H2 → H1 f = none → H2 f = some (LamO f (mk c')) → H2 c' = some (CodeO c' (mk c').qual) → TT f c' (js.map (slotAt σ)) v0 H2 Q
theorem pe_lamcall1 {X : Cx} {T : List (Addr × Str)} {TT : Addr → Addr → List (Option V) → V → Hp → VK → Prop} {x : Str} {g c P : Addr} {k : Nat} {pg : Arguments} {bg : List Stmt} {sg : Scope} {dV kV doc pm cdv ct oc : Value} {an od : Option Addr} {osl : Array (Option Value)} {Ng ps fr : List Str} {js : List Nat}
    {e0 : Expr} {te0 : TE} {params : Arguments} {body : Expr} {scope : Scope} {p lpos pos : Pos} (hg : Gl X x) (hm : X.mg x = some (.ref g)) (hk : PySem.W.keepIn X.K (.ref g) = true)
    (lk : X.K.lookup g = some ⟨oc, od, .func (PySem.W.fnOf x x pg bg sg dV kV doc pm an cdv ct), osl⟩) (hcg : PySem.W.codeIn X.K cdv x = true) (hl3 : ps.length = 3)
    (hb : ∀ (s : Shared) (u0 u1 : Value), X.K.In s.heap → BindsTo s (PySem.W.fnOf x x pg bg sg dV kV doc pm an cdv ct) ⟨[u0, u1], []⟩ (ps.zip [u0, u1, .none])) (Sg : FnScope Ng ps sg)
    (hG : ∀ (f c' : Addr) (s2 : Shared) (H2 : Hp) (Q : VK) (v0 : V) (ws : List (Option V)), CellsAt (cloFrom X.env.cells scope.names []) fr ws s2.heap H2 → Room (k + 1) (X.A.deeper (envOfC x sg s2.heap.objs.size g cdv)) → TT f c' ws v0 H2 Q →
      ∃ t, PSs (cxOf C8.CX0 X.prog X.w X.K X.mg X.base Ng x sg g cdv X.A X.stack s2 H2 C8.E0) bg t ∧ t { nx := fun _ H' => Q .non H', rt := Q } (L2.start Ng [v0, .ref f, .non]) H2)
    (TB : TabB X.base X.mg c P) (hcode : X.env.code = .ref c) (hmT : (P, X.env.qual ++ "<lambda>") ∈ T) (hu : ∀ p ∈ T, p.1 = P → p.2 = X.env.qual ++ "<lambda>") (hr : Room (k + 2) X.A) (hdef : defaultsOf params X.env = ([], []))
    (hfree : ∀ y ∈ scope.names, y.2 = .free → X.env.scope.names.lookup y.1 = some .cell ∨ X.env.scope.names.lookup y.1 = some .free) (hfr : ∀ y ∈ fr, (y, NameKind.free) ∈ scope.names) (hjs : js.map (fun j => X.N[j]?) = fr.map some) (h0 : PE X e0 te0)
    (hdb : (x == ("__debug__" : Str)) = false := by decide)
    (he : starEach [e0, .Lambda params body scope lpos] X.env = (false, eval e0 X.env) :: starEach [.Lambda params body scope lpos] X.env := by rfl) (hpl : (backTo pos (starEach [.Lambda params body scope lpos] X.env)).any (·.1) = false := by rfl)
    (htr : backTo pos (starEach [e0, .Lambda params body scope lpos] X.env) = [(false, eval e0 X.env), (false, eval (.Lambda params body scope lpos) X.env)] := by rfl) :
    PE X (.Call (.Name x p) [e0, .Lambda params body scope lpos] [] pos) (tLam1 T js (mkF X params body scope) te0 TT) := by
  refine ⟨fun pins s σ H Q I h => ?_⟩
  refine wpAny_Call_Name_kw (ld_glob I hg hm ?_ hdb)
  refine PySem.W.callWith_K (h₀ := X.base) I.ok.mod.kin hk ?_ he hpl
  rw [htr]
  have hfc : ∀ y ∈ scope.names, y.2 = .free → ∃ c, X.env.cells.lookup y.1 = some c := fun y hy e => (hfree y hy e).elim (fun z => I.ok.has _ (.inl z)) fun z => I.ok.has _ (.inr z)
  refine Calls.spliced_cons (thn (h0.run pins s σ H _ I h) fun u0 s1 ⟨v0, H1, I1, r0, hT, q1⟩ => ?_)
  refine Calls.spliced_cons (lam_make1 I1 TB hcode hmT hu hT hdef hfc fun f c' H2 s2 I2 eN T2 f0 f1 hco => ?_)
  refine Calls.spliced_nil ⟨I2.kIn, ?_⟩
  have C := cells_of I2 (Caps.made I2.ok hfree hfr hjs)
  have rc : codeAny (model X.prog X.w) X.A (.call (.ref g) ⟨[u0, .ref f], []⟩) (CR C8.CX0 X.stack X.prog X.w H2 s2 Q C8.E0) s2 := by
    refine run_ofS (N := Ng) (ps := ps) (us := [u0, .ref f, .none]) (vs := [v0, .ref f, .non]) lk hcg Sg hr I2.env0 (hb s2 u0 (.ref f) I2.kIn) (.cons r0 (.cons rfl (.cons rfl .nil))) (by rw [hl3]; rfl) fun hr' => ?_
    exact hG f c' s2 H2 Q v0 _ C hr' (q1 f c' H2 eN T2 f0 f1 hco)
  refine wpAny_call (codeAny_mono rc fun r s3 hq => ?_)
  cases r with
  | error e => exact (show False from hq).elim
  | ok fl =>
    cases fl with
    | ret u => exact I2.after hq
    | next => exact False.elim hq
    | brk => exact False.elim hq
    | cont => exact False.elim hq
end L1

end Cs
namespace Cs
open PySem L2
open PyProof.Rows (envOfC)
/-! the walk over the states that a lambda leads to -/
/-- what stands while the walk goes on -/
structure ExI (H : Hp) (Ok : Nat → Prop) (dn p : Addr) (ss : List Nat) (H' : Hp) : Prop where
  same : L2.Same H H'
  d : ∃ kvs, H' dn = some (.dK kvs) ∧ KvN kvs ss
  p : H' p = some (.lst (iV ss))
  ok : ∀ s ∈ ss, Ok s
theorem ExI.lay {H H' : Hp} {Ok : Nat → Prop} {dn p : Addr} {ss : List Nat} (h : ExI H Ok dn p ss H') {H2 : Hp} (s : L2.Same H' H2) : ExI H Ok dn p ss H2 := by
  obtain ⟨kvs, e, kv⟩ := h.d
  exact ⟨h.same.trans s, ⟨kvs, s _ _ e, kv⟩, s _ _ h.p, h.ok⟩
/-- the rows so far, beside two lists that still change -/
structure RwN (H : Hp) (p q : Addr) (as : List Addr) (rs : List (List Nat)) : Prop where
  hq : H q = some (.lst (as.map V.ref))
  len : as.length = rs.length
  at_ : ∀ (i : Nat) (a : Addr) (r : List Nat), as[i]? = some a → rs[i]? = some r → H a = some (.lst (iV r))
  ne : ∀ a ∈ as, a ≠ p ∧ a ≠ q
theorem RwN.same {H H' : Hp} {p q : Addr} {as : List Addr} {rs : List (List Nat)} (s : L2.Same H H') (h : RwN H p q as rs) : RwN H' p q as rs := ⟨s _ _ h.hq, h.len, fun i a r h1 h2 => s _ _ (h.at_ i a r h1 h2), h.ne⟩
theorem RwN.but {H H' : Hp} {p q : Addr} {as : List Addr} {rs : List (List Nat)} (s : ∀ b xs, b ≠ p → H b = some (.lst xs) → H' b = some (.lst xs)) (n : q ≠ p) (h : RwN H p q as rs) : RwN H' p q as rs :=
  ⟨s _ _ n h.hq, h.len, fun i a r h1 h2 => s _ _ (h.ne a (List.mem_of_getElem? h1)).1 (h.at_ i a r h1 h2), h.ne⟩
theorem RwN.rws {H : Hp} {p q : Addr} {as : List Addr} {rs : List (List Nat)} (h : RwN H p q as rs) : Rws H q rs := ⟨as, h.hq, h.len, h.at_⟩
section
variable {P : Program} {w : World} {K : PySem.W.Frag} {mg : Str → Option Value} {base : Heap}
theorem run_explored {F : L1.LF} {f g : Addr} {cdv : Value} {fr N : List Str} {x : Str} {ws : List (Option V)} {k : Nat} {tb : TE} {A : Around} {outer : List Env} {s : Shared} {H : Hp} {Q : VK} {s0 kk nb : Nat} {st : Nat → List Nat} {Ok : Nat → Prop}
    (B : Blt mg) (S : L1.LScope N fr x F.scope) (hbd : ∀ (pm ctv u : Value), bindArgs (PySem.W.kla_fn "<lambda>" F.qual F.params F.body F.scope F.cl pm (.ref F.c) ctv) ⟨[u], []⟩ = pure [(x, u)]) (CA : NdefX.CellsAt F.cl fr ws s.heap H)
    (hr : Room (k + 1) (A.deeper (envOfC "_explored" (defScope s__explored) s.heap.objs.size g cdv)))
    (hbody : ∀ (A : Around) (outer : List Env) (s : Shared) (H : Hp), Room k (A.deeper (L1.envL F x f s.heap.objs.size)) → PE (L1.lcx CX0 P w K mg base N F x f A outer s H E0) F.body tb)
    (hf : H f = some (L1.LamO f F)) (hc : H F.c = some (LamX.CodeO F.c F.qual))
    (ht : ∀ (n : Nat) (H' : Hp) (Q : VK), Ok n → L2.Same H H' → (∀ r H'', L2.Same H' H'' → H' r = none → H'' r = some (.lst (iV (st n))) → Q (.ref r) H'') → tb (NdefX.startF N [vn n] ws) H' Q)
    (hk : ∀ n, Ok n → (st n).length = kk ∧ ∀ y ∈ st n, Ok y) (h0 : Ok s0) (hnb : ∀ ss : List Nat, ss.Nodup → (∀ y ∈ ss, Ok y) → ss.length ≤ nb) (hnb2 : nb ≤ 100000) (hkk : kk ≤ 1000)
    (fin : ∀ (t p q : Addr) (ss : List Nat) (rows : List (List Nat)) (H' : Hp), L2.Same H H' → H' t = some (.tup [.ref p, .ref q]) → H' p = some (.lst (iV ss)) → Rws H' q rows → Wk kk st s0 ss rows → rows.length = ss.length → (∀ y ∈ ss, Ok y) → Q (.ref t) H') :
    ∃ t, PSs (cxOf CX0 P w K mg base ["first", "steps", "most", "numbers", "states", "rows", "following", "after"] "_explored" (defScope s__explored) g cdv A outer s H E0) (defBody s__explored) t ∧
      t { nx := fun _ H' => Q .non H', rt := Q } (start ["first", "steps", "most", "numbers", "states", "rows", "following", "after"] [vn s0, .ref f, .non]) H := by
  refine ⟨_, PSs.nox ((pss_cons (ps_set (i := 3) sc__explored.nd rfl (Or.inr rfl) (pe_disp (pps_cons (pv 0) pe_int pps_nil) (by rfl) (by rfl) (by simp) (by decide)))
    (pss_cons (ps_set (i := 4) sc__explored.nd rfl (Or.inl rfl) (pe_lst (pa_cons (pv 0) pa_nil)))
    (pss_cons (ps_set (i := 5) sc__explored.nd rfl (Or.inl rfl) (pe_lst pa_nil))
    (pss_cons (ps_while PassesOwn.never (PW.pt (pw_and (pt_cmpR op_lt (pe_callB (call_len_seqK (K := K) (by rfl)) (by rfl) B.len PySem.boot_len (pa_cons (pv 5) pa_nil)) (pe_callB (call_len_seqK (K := K) (by rfl)) (by rfl) B.len PySem.boot_len (pa_cons (pv 4) pa_nil)) (nomark _)) (pw_and1 (PW.pt (pw_or (pt_cmpR op_isN (pv 2) pe_non (nomark _)) (pw_or1 (pt_cmpR op_le (pe_callB (call_len_seqK (K := K) (by rfl)) (by rfl) B.len PySem.boot_len (pa_cons (pv 4) pa_nil)) (pv 2) (nomark _))))))))
    (pss_cons (ps_set (i := 6) sc__explored.nd rfl (Or.inl rfl) (L1.pe_act1 S hbd rfl CA hr (by omega) pass0 hbody (i := 1) (by rfl) (Or.inl rfl) (pa_cons (pe_ix (ix_listK (K := K) (by rfl)) (pv 4) (pe_callB (call_len_seqK (K := K) (by rfl)) (by rfl) B.len PySem.boot_len (pa_cons (pv 5) pa_nil)) (fun _ _ => rfl)) pa_nil)))
    (pss_cons (ps_for PassesOwn.never rfl (pi_listK (K := K) (by rfl) (pv 6)) (pg_name (i := 7) sc__explored.nd rfl (Or.inl rfl))
    (pss_one (ps_if (pt_cmp (pc_dnotin (hu1 hr.units) (pv 7) (pv 3)))
    (pss_cons (ps_asg (pe_callB (call_len_seqK (K := K) (by rfl)) (by rfl) B.len PySem.boot_len (pa_cons (pv 4) pa_nil)) (pg_sub (pv 3) (pv 7) (set_dict (hu1 hr.units))))
    (pss_one (ps_expr (pe_bmK (K := K) (by rfl) PySem.F.plainAttrs_list PySem.F.slot_list_append PySem.F.type_list_append mt_append (pv 4) (pa_cons (pv 7) pa_nil)))))
    pss_nil)))
    (pss_one (ps_expr (pe_bmK (K := K) (by rfl) PySem.F.plainAttrs_list PySem.F.slot_list_append PySem.F.type_list_append mt_append (pv 5) (pa_cons (pe_lc (own := [("after", 7)]) rfl sc__explored.nd (pi_listK (K := K) (by rfl) (pv 6)) (blkOk_by (N := ["first", "steps", "most", "numbers", "states", "rows", "following", "after"]) (sc := defScope s__explored) (by decide +kernel)) (fun _ _ _ _ _ => (pg_name (i := 7) sc__explored.nd rfl (Or.inl rfl))) (fun _ _ _ _ _ => pts_nil) (fun _ _ _ _ _ => (pe_dget (hu1 hr.units) (pv 3) (pv 7) (fun _ _ => rfl)))) pa_nil)))))))
    (pss_one (ps_ret (pe_tup (pa_cons (pv 4) (pa_cons (pv 5) pa_nil)))))))))), ?_⟩
  walk_at "go"
  intro dn hdn
  refine rd_var (v := vn s0) rfl ?_
  refine rd_c ?_
  refine ⟨upd_same, [(kN s0, .int (0 : Int))], rfl, Nat.le_of_ble_eq_true rfl, ?_⟩
  rw [show mergeK [] [(kN s0, V.int (0 : Int))] = [(kN s0, V.int (0 : Int))] from rfl]
  walk_at "go"
  refine ⟨by show 1 ≤ sizeLine; decide, fun p hp => ?_⟩
  walk_at "go"
  refine ⟨by show 0 ≤ sizeLine; decide, fun q hq => ?_⟩
  walk_at "go"
  have npd : p ≠ dn := fun z => by rw [z, upd_same] at hp; cases hp
  have nqp : q ≠ p := fun z => by rw [z, upd_same] at hq; cases hq
  have nqd : q ≠ dn := fun z => by rw [z, upd_ne npd.symm, upd_same] at hq; cases hq
  have hp0 : H p = none := by rw [upd_ne npd, upd_ne npd] at hp; exact hp
  have hq0 : H q = none := by rw [upd_ne nqp, upd_ne nqd, upd_ne nqd] at hq; exact hq
  have sm0 : L2.Same H (upd (upd (upd (upd H dn (HO.dK [])) dn (HO.dK [(kN s0, V.int 0)])) p (HO.lst [vn s0])) q (HO.lst [])) :=
    same_new (same_new (same_new (same_lay hdn) hdn) hp0) hq0
  have hx : ∀ ss : List Nat, (∀ y ∈ ss, Ok y) → ss.Nodup → ss.length ≤ nb := fun ss h1 h2 => hnb ss h2 h1
  refine rd_whileJ (m0 := nb + 1) (fun μ σ H' => ∃ (x6 x7 : Option V) (ss : List Nat) (rows : List (List Nat)) (as : List Addr), σ = [some (vn s0), some (.ref f), some .non, some (.ref dn), some (.ref p), some (.ref q), x6, x7] ∧ ExI H Ok dn p ss H' ∧ RwN H' p q as rows ∧ Wk kk st s0 ss rows ∧ μ + rows.length = nb + 1) ?_ ?_
  · refine ⟨_, _, [s0], [], [], rfl, ⟨sm0, ⟨_, by rw [upd_ne nqd.symm, upd_ne npd.symm]; exact upd_same, rfl, fun i p e => ?_⟩, by rw [upd_ne nqp.symm]; exact upd_same, fun s hs => by rw [List.mem_singleton.mp hs]; exact h0⟩, ⟨upd_same, rfl, fun i a r e => by simp at e, fun a e => by simp at e⟩, Wk.first, rfl⟩
    have hi := (List.getElem?_eq_some_iff.mp e).1
    have hi : i = 0 := by simp at hi; omega
    subst hi
    cases e; rfl
  · rintro μ σ H1 ⟨x6, x7, ss, rows, as, rfl, X, R, W, hμ⟩
    have hle := W.le
    have hsl := hx ss X.ok W.nd
    walk_at "go"
    refine rd_len (.inl (SqL.of R.hq)) ?_
    walk_at "go"
    refine rd_len (.inl (SqL.of X.p)) ?_
    walk_at "go"
    rw [List.length_map, List.length_map, R.len]
    refine ite2 (fun z => ?_) (fun z => ?_)
    · have hlt : rows.length < ss.length := by
        have := of_decide_eq_true z
        omega
      walk_at "go"
      refine ⟨rfl, ?_⟩
      walk_at "go"
      refine ite2 (fun _ => ?_) (fun z => absurd rfl z)
      walk_at "go"
      refine ⟨fun σ' H' => ∃ m', m' < μ ∧ ∃ (x6 x7 : Option V) (ss : List Nat) (rows : List (List Nat)) (as : List Addr), σ' = [some (vn s0), some (.ref f), some .non, some (.ref dn), some (.ref p), some (.ref q), x6, x7] ∧ ExI H Ok dn p ss H' ∧ RwN H' p q as rows ∧ Wk kk st s0 ss rows ∧ m' + rows.length = nb + 1, fun _ _ h => h, ?_⟩
      walk_at "go"
      refine ⟨rfl, X.same f _ hf, ?_⟩
      walk_at "go"
      refine rd_len (.inl (SqL.of R.hq)) ?_
      obtain ⟨n, en⟩ : ∃ n, ss[rows.length]? = some n := ⟨_, List.getElem?_eq_getElem hlt⟩
      have okn := X.ok n (List.mem_of_getElem? en)
      obtain ⟨hk1, hk2⟩ := hk n okn
      rw [List.length_map, R.len]
      refine rd_ixl (SqL.of X.p) (atI_nat (v := vn n) (by rw [List.getElem?_map, en]; rfl)) ?_
      walk_at "go"
      refine ⟨_, rfl, X.same f _ hf, X.same F.c _ hc, ?_⟩
      refine ht n H1 _ okn X.same fun r H2 s2 hr2 er => ?_
      walk_at "go"
      refine ⟨r, rfl, ⟨_, SqL.of er⟩, ?_⟩
      have nrp : r ≠ p := fun z => by rw [z, X.p] at hr2; cases hr2
      have nrq : r ≠ q := fun z => by rw [z, R.hq] at hr2; cases hr2
      refine for_list (K := K) (a := r) (xs := iV (st n)) (fun i σ H' => ∃ x7 : Option V, σ = [some (vn s0), some (.ref f), some .non, some (.ref dn), some (.ref p), some (.ref q), some (.ref r), x7] ∧ ExI H Ok dn p (addNew ss ((st n).take i)) H' ∧ RwN H' p q as rows ∧ H' r = some (.lst (iV (st n)))) ?_ ?_ ?_ ?_
      · exact ⟨_, rfl, X.lay s2, R.same s2, er⟩
      · rintro i σ H3 hi ⟨x7, rfl, X3, R3, er3⟩
        exact SqL.of er3
      · rintro i y σ H3 hy ⟨x7, rfl, X3, R3, er3⟩
        obtain ⟨v, ev, rfl⟩ : ∃ v, (st n)[i]? = some v ∧ vn v = y := by simpa using hy
        have ets : (st n).take (i + 1) = (st n).take i ++ [v] := by rw [List.take_add_one, ev]; rfl
        have okv := hk2 v (List.mem_of_getElem? ev)
        obtain ⟨kvs, ed, kv⟩ := X3.d
        have hl3 : (addNew ss ((st n).take i)).length ≤ nb := hx _ X3.ok (addNew_nodup _ _ W.nd)
        walk_at "go"
        refine rd_dnotin ?_
        walk_at "go"
        refine ⟨dn, _, rfl, DGet.k (k := kN v) ed, ?_⟩
        rw [kvN_at kv v]
        walk_at "go"
        refine ite2 (fun z => ?_) (fun z => ?_)
        · have hm : v ∉ addNew ss ((st n).take i) := fun q => by simp [q] at z
          walk_at "go"
          refine rd_len (.inl (SqL.of X3.p)) ?_
          walk_at "go"
          rw [List.length_map]
          refine ⟨dn, _, rfl, DPut.k (k := kN v) ed (by rw [kvN_len kv, PySem.sizeLine_eq]; omega), ?_⟩
          have e4 : upd H3 dn (.dK (putK kvs (kN v) (.int ((addNew ss ((st n).take i)).length : Nat)))) p = some (.lst (iV (addNew ss ((st n).take i)))) := by rw [upd_ne npd]; exact X3.p
          walk_at "go"
          refine ⟨tyl e4, ?_⟩
          walk_at "go"
          refine ⟨p, _, _, rfl, rfl, e4, by rw [List.length_map, PySem.sizeLine_eq]; omega, ?_⟩
          have ea : addNew ss ((st n).take (i + 1)) = addNew ss ((st n).take i) ++ [v] := by rw [ets, addNew_snoc, if_neg hm]
          refine ⟨_, rfl, ⟨same_new (same_new X3.same hdn) hp0, ⟨_, by rw [upd_ne npd.symm]; exact upd_same, by rw [ea]; exact kvN_put kv hm⟩, by rw [ea, upd_same]; simp, fun s hs => ?_⟩, R3.but (fun b xs hb e => ?_) nqp, ?_⟩
          · rw [ea] at hs
            rcases List.mem_append.mp hs with q | q
            · exact X3.ok s q
            · rw [List.mem_singleton.mp q]; exact okv
          · rw [upd_ne hb, upd_ne (fun z => by rw [z, ed] at e; cases e)]; exact e
          · rw [upd_ne nrp, upd_ne (fun z => by rw [z, ed] at er3; cases er3)]; exact er3
        · have hm : v ∈ addNew ss ((st n).take i) := by
            by_cases q : v ∈ addNew ss ((st n).take i)
            · exact q
            · simp [q] at z
          walk_at "go"
          refine ⟨_, rfl, ?_, R3, er3⟩
          rw [ets, addNew_snoc, if_pos hm]
          exact X3
      · rintro σ H3 ⟨x7, rfl, X3, R3, er3⟩
        rw [show (iV (st n)).length = (st n).length by simp, List.take_length] at X3
        obtain ⟨kvs, ed, kv⟩ := X3.d
        have hl3 : (addNew ss (st n)).length ≤ nb := hx _ X3.ok (addNew_nodup _ _ W.nd)
        have W3 := W.next en hk1
        walk_at "go"
        refine ⟨tyl R3.hq, ?_⟩
        walk_at "go"
        refine ⟨r, rfl, ⟨_, SqL.of er3⟩, fun D hD => ?_⟩
        refine lc_list (xs := iV (st n)) (fun i H' => H' D = some (.lst (iV (((st n).take i).map (addNew ss (st n)).idxOf))) ∧ L2.Same H3 H') ?_ ?_ ?_ ?_
        · exact ⟨upd_same, same_lay hD⟩
        · rintro i H' hi ⟨_, sm⟩
          exact SqL.of (sm r _ er3)
        · rintro i y H' hy ⟨e2, sm⟩
          obtain ⟨v, ev, rfl⟩ : ∃ v, (st n)[i]? = some v ∧ vn v = y := by simpa using hy
          have hi := (List.getElem?_eq_some_iff.mp ev).1
          walk_at "go"
          refine ⟨rfl, ?_⟩
          walk_at "go"
          have hm : v ∈ addNew ss (st n) := (addNew_mem _ _ _).mpr (.inr (List.mem_of_getElem? ev))
          have hg : DGet H' dn (vn v) (some (.int ((addNew ss (st n)).idxOf v : Nat))) := by
            have := DGet.k (k := kN v) (sm dn _ ed)
            rw [kvN_at kv v, if_pos hm] at this
            exact this
          refine ⟨dn, _, rfl, hg, ?_⟩
          refine ⟨_, e2, by rw [List.length_map, List.length_map, List.length_take, PySem.sizeLine_eq]; omega, ?_, same_new sm hD⟩
          rw [upd_same, List.take_add_one, ev]; simp
        · rintro H' ⟨e2, sm⟩
          rw [show (iV (st n)).length = (st n).length by simp, List.take_length] at e2
          have nDp : D ≠ p := fun z => by rw [z, X3.p] at hD; cases hD
          have nDq : D ≠ q := fun z => by rw [z, R3.hq] at hD; cases hD
          have R4 := R3.same sm
          walk_at "go"
          refine ⟨q, _, _, rfl, rfl, R4.hq, by rw [List.length_map, R4.len, PySem.sizeLine_eq]; omega, ?_⟩
          refine ⟨μ - 1, by omega, _, _, addNew ss (st n), _, as ++ [D], rfl, ⟨same_new (X3.same.trans sm) hq0, ⟨kvs, by rw [upd_ne nqd.symm]; exact sm _ _ ed, kv⟩, by rw [upd_ne nqp.symm]; exact sm _ _ X3.p, X3.ok⟩, ⟨by rw [upd_same]; simp, by simp [R.len], fun j a ro h1 h2 => ?_, fun a ha => ?_⟩, W3, by rw [List.length_append]; simp; omega⟩
          · rcases Nat.lt_or_ge j as.length with l | l
            · rw [List.getElem?_append_left l] at h1
              rw [List.getElem?_append_left (by rw [← R.len]; exact l)] at h2
              rw [upd_ne (R4.ne a (List.mem_of_getElem? h1)).2]
              exact R4.at_ j a ro h1 h2
            · have hj := (List.getElem?_eq_some_iff.mp h1).1
              have ej : j = as.length := by rw [List.length_append] at hj; simp at hj; omega
              subst ej
              rw [R.len] at h2
              simp at h1 h2
              subst h1
              subst h2
              rw [upd_ne nDq]; exact e2
          · rcases List.mem_append.mp ha with q | q
            · exact R4.ne a q
            · rw [List.mem_singleton.mp q]; exact ⟨nDp, nDq⟩
    · have heq : rows.length = ss.length := by
        have : ¬ ((rows.length : Int) < (ss.length : Int)) := fun q => z (decide_eq_true q)
        omega
      walk_at "go"
      refine ⟨by show 2 ≤ sizeLine; decide, fun t hT => ?_⟩
      walk_at "go"
      have s3 : L2.Same H1 (upd H1 t (.tup [.ref p, .ref q])) := same_lay hT
      exact fin t p q ss rows _ (X.same.trans s3) upd_same (s3 _ _ X.p) (R.same s3).rws W heq X.ok
end

end Cs
namespace Cs
open PySem L2
open PyProof.Rows (envOfC)
/-! max of a list -/
theorem cr_maxK {X : Cx} {K : PySem.W.Frag} (h : X.K = K) (hc : X.calm = true) : CallR X (.builtin "max") (rMax K) := by subst h; exact cr_max hc

end Cs
namespace Cs
open PySem L2
open PyProof.Rows (envOfC)
/-! states merged by classes -/
def mgRow (rs : List (List Nat)) (cl : List Nat) (a : Nat) : List Nat := (rs.getD (cl.idxOf a) []).map fun v => cl.getD v 0
def dM (rs : List (List Nat)) (ms : List Bool) (cl : List Nat) (N : Nat) : PyData := .tuple [.tuple ((List.range N).map fun a => .tuple (iD (mgRow rs cl a))), .tuple ((List.range N).map fun a => .bool (ms.getD (cl.idxOf a) false))]
theorem rd_idx {K : PySem.W.Frag} {p : Addr} {ns : List Nat} {i : Nat} {H : Hp} {Q : VK} (e : H p = some (.lst (iV ns))) (hi : i ∈ ns) (q : Q (.int (ns.idxOf i : Nat)) H) : rIndex K (.ref p) [.int (i : Nat)] H Q := by
  have hl := List.idxOf_lt_length_iff.mpr hi
  refine ⟨p, iV ns, .int (i : Nat), ns.idxOf i, .int (i : Nat), rfl, rfl, SqL.of e, rfl, by rw [List.all_map]; exact List.all_eq_true.mpr fun _ _ => rfl, by rw [List.getElem?_map, List.getElem?_eq_getElem hl, List.getElem_idxOf hl]; rfl, ?_, fun m z' hm hz => ?_, q⟩
  · show ((i : Int) == (i : Int)) = true
    simp
  · rw [List.getElem?_map] at hz
    cases e : ns[m]? with
    | none => rw [e] at hz; cases hz
    | some u =>
      rw [e] at hz
      cases hz
      have hne : u ≠ i := fun z => by
        have := List.not_of_lt_findIdx (xs := ns) (p := fun y => y == i) (i := m) hm
        rw [List.getElem?_eq_getElem (List.getElem?_eq_some_iff.mp e).1] at e
        simp at e
        rw [e, z] at this
        simp at this
      show ((u : Int) == (i : Int)) = false
      simp; omega
theorem tpR {H : Hp} (f : Nat → List Nat) : ∀ (as : List Nat) (ts : List Addr), ts.length = as.length → (∀ (j : Nat) (t : Addr) (a : Nat), ts[j]? = some t → as[j]? = some a → H t = some (.tup (iV (f a)))) → TpAll H (ts.map V.ref) (as.map fun a => .tuple (iD (f a)))
  | [], [], _, _ => .nil
  | [], _ :: _, h, _ => by simp at h
  | _ :: _, [], h, _ => by simp at h
  | a :: as, t :: ts, h, k => .cons (.tup (k 0 t a rfl rfl) (tpI _)) (tpR f as ts (by simpa using h) fun j u b e1 e2 => k (j + 1) u b (by simpa using e1) (by simpa using e2))
theorem tpB {H : Hp} : ∀ bs : List Bool, TpAll H (bs.map V.bl) (bs.map PyData.bool)
  | [] => .nil
  | b :: bs => .cons (.bl b) (tpB bs)
def sp_merged : Sp := fun vs H Q _ => ∃ (p q c : Addr) (rs : List (List Nat)) (ms : List Bool) (cl : List Nat) (n N : Nat), vs = [.ref p, .ref q, .ref c] ∧ Rws H p rs ∧ H q = some (.lst (ms.map V.bl)) ∧ H c = some (.lst (iV cl)) ∧ cl.length = n ∧ rs.length = n ∧ ms.length = n ∧ (∀ r ∈ rs, r.length ≤ 1000 ∧ ∀ v ∈ r, v < n) ∧ n ≤ 100000 ∧ (∀ v ∈ cl, v < N) ∧ (∀ a, a < N → a ∈ cl) ∧ 0 < N ∧ N ≤ 100000 ∧
  ∀ (t : Addr) (H' : Hp), L2.Same H H' → Tp H' (.ref t) (dM rs ms cl N) → Q (.ref t) H'
section
variable {P : Program} {w : World} {K : PySem.W.Frag} {mg : Str → Option Value} {base : Heap}
theorem ok_merged (B : Blt mg) (F : At K mg "_merged" s__merged ["rows", "marks", "classes"]) : Cal P w K mg base 1 "_merged" ["rows", "marks", "classes"] sp_merged := by
  refine F.ok (k := 0) sc__merged (fun vs H Q E h => ?_) (fun f cdv A outer s H vs Q E hr h => ?_)
  · obtain ⟨p, q, c, rs, ms, cl, n, N, rfl, _⟩ := h
    rfl
  · obtain ⟨p, q, c, rs, ms, cl, n, N, rfl, hR, hq, hc, hcl, hrl, hml, hrk, hn, hN, hN2, hN0, hN1, k⟩ := h
    obtain ⟨as, ep, hal, hrow⟩ := hR
    refine ⟨_, (pss_cons (ps_setLc (i := 3) (own := [("number", 5)]) rfl sc__merged.nd rfl rfl (sw_true rfl rfl rfl (by decide +kernel)) (pi_range1 (by rfl) B.range (pa_cons (pe_op op_add (pe_callB (cr_maxK (K := K) (by rfl) rfl) (by rfl) B.max (by decide +kernel) (pa_cons (pv 2) pa_nil)) pe_int) pa_nil)) (blkOk_by (N := ["rows", "marks", "classes", "firsts", "small_rows", "number", "state", "after"]) (sc := defScope s__merged) (by decide +kernel)) (fun _ _ _ _ _ => (pg_name (i := 5) sc__merged.nd rfl (Or.inl rfl))) (fun _ _ _ _ _ => pts_nil) (fun _ _ _ _ _ => (pe_bmK (K := K) (by rfl) PySem.F.plainAttrs_list PySem.F.slot_list_index PySem.F.type_list_index (mt_indexK (K := K) (by rfl)) (pv 2) (pa_cons (pv 5) pa_nil))))
    (pss_cons (ps_setLc (i := 4) (own := [("state", 6)]) rfl sc__merged.nd rfl rfl (sw_true rfl rfl rfl (by decide +kernel)) (pi_listK (K := K) (by rfl) (pv 3)) (blkOk_by (N := ["rows", "marks", "classes", "firsts", "small_rows", "number", "state", "after"]) (sc := defScope s__merged) (by decide +kernel)) (fun _ _ _ _ _ => (pg_name (i := 6) sc__merged.nd rfl (Or.inl rfl))) (fun _ _ _ _ _ => pts_nil) (fun _ _ _ _ _ => (pe_callTy (call_tuple_ofK (K := K) (by rfl)) (by rfl) B.tuple (by decide +kernel) (pa_cons (pe_lc (own := [("after", 7)]) rfl sc__merged.nd (pi_listK (K := K) (by rfl) (pe_ix (ix_listK (K := K) (by rfl)) (pv 0) (pv 6) (fun _ _ => rfl))) (blkOk_by (N := ["rows", "marks", "classes", "firsts", "small_rows", "number", "state", "after"]) (sc := { kind := ScopeKind.function, names := [(".0", NameKind.local), ("state", NameKind.local), ("tuple", NameKind.globalImplicit), ("classes", NameKind.cell), ("rows", NameKind.cell)], isGenerator := false, isCoroutine := false }) (by decide +kernel)) (fun _ _ _ _ _ => (pg_name (i := 7) sc__merged.nd rfl (Or.inl rfl))) (fun _ _ _ _ _ => pts_nil) (fun _ _ _ _ _ => (pe_ix (ix_listK (K := K) (by rfl)) (pv 2) (pv 7) (fun _ _ => rfl)))) pa_nil))))
    (pss_one (ps_ret (pe_tup (pa_cons (pe_callTy (call_tuple_ofK (K := K) (by rfl)) (by rfl) B.tuple (by decide +kernel) (pa_cons (pv 4) pa_nil)) (pa_cons (pe_callTy (call_tuple_ofK (K := K) (by rfl)) (by rfl) B.tuple (by decide +kernel) (pa_cons (pe_lc (own := [("state", 6)]) rfl sc__merged.nd (pi_listK (K := K) (by rfl) (pv 3)) (blkOk_by (N := ["rows", "marks", "classes", "firsts", "small_rows", "number", "state", "after"]) (sc := defScope s__merged) (by decide +kernel)) (fun _ _ _ _ _ => (pg_name (i := 6) sc__merged.nd rfl (Or.inl rfl))) (fun _ _ _ _ _ => pts_nil) (fun _ _ _ _ _ => (pe_ix (ix_listK (K := K) (by rfl)) (pv 1) (pv 6) (fun _ _ => rfl)))) pa_nil)) pa_nil))))))), ?_⟩
    refine rd_cutV2 (fun σ' H' => ∃ (d : Addr) (x4 x5 x6 x7 : Option V), σ' = [some (.ref p), some (.ref q), some (.ref c), some (.ref d), x4, x5, x6, x7] ∧ H' d = some (.lst (iV ((List.range N).map cl.idxOf))) ∧ L2.Same H H') (fun nx fin => ?_) ?_
    · walk_at "go"
      refine ⟨c, cl.map fun v => ((v : Nat) : Int), rfl, ?_, ?_, fun m hm hall => ?_⟩
      · rw [List.map_map]; exact SqL.of hc
      · rw [List.length_map]
        have := List.length_pos_of_mem (hN2 0 hN0)
        omega
      · have em : m + 1 = (N : Int) := by
          obtain ⟨v, hv, rfl⟩ := List.mem_map.mp hm
          have h1 := hN v hv
          have h2 := hall ((N - 1 : Nat) : Int) (List.mem_map.mpr ⟨N - 1, hN2 (N - 1) (by omega), rfl⟩)
          omega
        walk_at "go"
        rw [em]
        refine rd_rng1j (by omega) (by omega) ?_
        intro D hD
        refine lc_range (lo := 0) (n := N) (fun i H' => H' D = some (.lst (iV ((List.range i).map cl.idxOf))) ∧ i ≤ N ∧ L2.Same H H') ?_ ?_ ?_
        · refine ⟨upd_same, Nat.zero_le _, fun b o e => ?_⟩
          rw [upd_ne (fun z => by rw [z, hD] at e; cases e)]
          exact e
        · rintro i H' hi ⟨e2, _, sm⟩
          walk_at "go"
          refine ⟨rfl, ?_⟩
          walk_at "go"
          rw [show (0 : Int) + (i : Int) = ((i : Nat) : Int) by omega]
          refine ⟨.inl ⟨rfl, _, SqL.of (sm c _ hc)⟩, ?_⟩
          walk_at "go"
          refine rd_idx (sm c _ hc) (hN2 i (by omega)) ?_
          refine ⟨_, e2, by simp; rw [PySem.sizeLine_eq]; omega, by rw [upd_same, List.range_succ]; simp, by omega, fun b o e => ?_⟩
          rw [upd_ne (fun z => by rw [z, hD] at e; cases e)]
          exact sm b o e
        · rintro H' ⟨e2, _, sm⟩
          walk_at "go"
          exact fin _ _ ⟨D, _, _, _, _, rfl, by simpa using e2, sm⟩
    · rintro σ1 H1 ⟨d, x4, x5, x6, x7, rfl, ed, s1⟩
      have hix : ∀ a, a < N → cl.idxOf a < n := fun a ha => by
        have := List.idxOf_lt_length_iff.mpr (hN2 a ha)
        omega
      refine rd_cutV2 (fun σ' H' => ∃ (g : Addr) (ts : List Addr) (x5 x6 x7 : Option V), σ' = [some (.ref p), some (.ref q), some (.ref c), some (.ref d), some (.ref g), x5, x6, x7] ∧ H' g = some (.lst (ts.map V.ref)) ∧ ts.length = N ∧ (∀ (j : Nat) (t : Addr), ts[j]? = some t → H' t = some (.tup (iV (mgRow rs cl j)))) ∧ L2.Same H1 H') (fun nx fin => ?_) ?_
      · walk_at "go"
        refine ⟨d, rfl, ⟨_, SqL.of ed⟩, fun D hD => ?_⟩
        refine lc_list (xs := iV ((List.range N).map cl.idxOf)) (fun i H' => ∃ ts : List Addr, ts.length = i ∧ H' D = some (.lst (ts.map V.ref)) ∧ (∀ (j : Nat) (t : Addr), ts[j]? = some t → H' t = some (.tup (iV (mgRow rs cl j)))) ∧ L2.Same H1 H') ?_ ?_ ?_ ?_
        · refine ⟨[], rfl, upd_same, fun j t e => by simp at e, fun b o e => ?_⟩
          rw [upd_ne (fun z => by rw [z, hD] at e; cases e)]
          exact e
        · rintro i H' hi ⟨ts, _, _, _, sm⟩
          exact SqL.of (sm d _ ed)
        · rintro i x H3 hx ⟨ts, tl, eD, ht, sm⟩
          have hi : i < N := by
            have := (List.getElem?_eq_some_iff.mp hx).1
            simpa using this
          have ex : x = .int (cl.idxOf i : Nat) := by
            rw [List.getElem?_map, List.getElem?_map, List.getElem?_range hi] at hx
            exact (Option.some.inj hx).symm
          subst ex
          have hj := hix i hi
          obtain ⟨a, ea⟩ : ∃ a, as[cl.idxOf i]? = some a := ⟨_, List.getElem?_eq_getElem (by omega)⟩
          obtain ⟨r, er⟩ : ∃ r, rs[cl.idxOf i]? = some r := ⟨_, List.getElem?_eq_getElem (by omega)⟩
          have e3 := sm a _ (s1 a _ (hrow _ a r ea er))
          obtain ⟨r1, r2⟩ := hrk r (List.mem_of_getElem? er)
          have edr : mgRow rs cl i = r.map fun v => cl.getD v 0 := by
            unfold mgRow
            rw [List.getD_eq_getElem?_getD, er]; rfl
          walk_at "go"
          refine ⟨rfl, ?_⟩
          walk_at "go"
          refine rd_ixl (SqL.of (sm p _ (s1 p _ ep))) (atI_nat (v := .ref a) (by rw [List.getElem?_map, ea]; rfl)) ?_
          refine ⟨a, rfl, ⟨_, SqL.of e3⟩, fun D2 hD2 => ?_⟩
          refine lc_list (xs := iV r) (fun j H' => H' D2 = some (.lst (iV ((r.take j).map fun v => cl.getD v 0))) ∧ L2.Same H3 H') ?_ ?_ ?_ ?_
          · refine ⟨upd_same, fun b o e => ?_⟩
            rw [upd_ne (fun z => by rw [z, hD2] at e; cases e)]
            exact e
          · rintro j H' hj ⟨_, sm2⟩
            exact SqL.of (sm2 a _ e3)
          · rintro j x H' hx ⟨e2, sm2⟩
            obtain ⟨v, ev, rfl⟩ : ∃ v, r[j]? = some v ∧ V.int (v : Nat) = x := by simpa using hx
            have hj := (List.getElem?_eq_some_iff.mp ev).1
            have hv := r2 v (List.mem_of_getElem? ev)
            walk_at "go"
            refine ⟨rfl, ?_⟩
            walk_at "go"
            refine rd_ixl (SqL.of (sm2 c _ (sm c _ (s1 c _ hc)))) (atI_nat (v := .int (cl.getD v 0 : Nat)) (by rw [List.getElem?_map, List.getD_eq_getElem?_getD, List.getElem?_eq_getElem (by omega)]; rfl)) ?_
            refine ⟨_, e2, by simp; rw [PySem.sizeLine_eq]; omega, by rw [upd_same, List.take_add_one, ev]; simp, fun b o e => ?_⟩
            rw [upd_ne (fun z => by rw [z, hD2] at e; cases e)]
            exact sm2 b o e
          · rintro H' ⟨e2, sm2⟩
            rw [show (iV r).length = r.length by simp, List.take_length, ← edr] at e2
            walk_at "go"
            refine rd_tupl (SqL.of e2) ?_
            refine fun t hT => ?_
            have tD : t ≠ D := fun z => by rw [z, sm2 D _ eD] at hT; cases hT
            refine ⟨_, by rw [upd_ne tD.symm]; exact sm2 D _ eD, by simp; rw [PySem.sizeLine_eq]; omega, ts ++ [t], by simp [tl], by rw [upd_same]; simp, fun j u e1 => ?_, fun b o e => ?_⟩
            · rcases Nat.lt_or_ge j ts.length with l | l
              · rw [List.getElem?_append_left l] at e1
                have q := ht j u e1
                rw [upd_ne (fun z => by rw [z, eD] at q; cases q), upd_ne (fun z => by rw [z] at q; rw [sm2 _ _ q] at hT; cases hT)]
                exact sm2 _ _ q
              · rw [List.getElem?_append_right l] at e1
                have ej : j = ts.length := by
                  rcases Nat.lt_or_ge 0 (j - ts.length) with q | q
                  · rw [List.getElem?_eq_none (by simp; omega)] at e1; cases e1
                  · omega
                subst ej
                have eu : u = t := by simpa using e1.symm
                subst eu
                rw [tl, upd_ne tD, upd_same]
            · rw [upd_ne (fun z => by rw [z, hD] at e; cases e), upd_ne (fun z => by rw [z] at e; rw [sm2 _ _ (sm _ _ e)] at hT; cases hT)]
              exact sm2 _ _ (sm _ _ e)
        · rintro H' ⟨ts, tl, eD, ht, sm⟩
          walk_at "go"
          exact fin _ _ ⟨D, ts, _, _, _, rfl, eD, by simpa using tl, ht, sm⟩
      · rintro σ2 H2 ⟨g, ts, x5, x6, x7, rfl, eg, tl, ht, s2⟩
        walk_at "go"
        refine rd_tupl (SqL.of eg) ?_
        refine fun t1 hT1 => ?_
        walk_at "go"
        have s3 : L2.Same H2 (upd H2 t1 (.tup (ts.map V.ref))) := fun b o e => by
          rw [upd_ne (fun z => by rw [z, hT1] at e; cases e)]
          exact e
        have s03 := s1.trans (s2.trans s3)
        refine ⟨d, rfl, ⟨_, SqL.of (s3 d _ (s2 d _ ed))⟩, fun D hD => ?_⟩
        refine lc_list (xs := iV ((List.range N).map cl.idxOf)) (fun i H' => H' D = some (.lst (((List.range i).map fun a => ms.getD (cl.idxOf a) false).map V.bl)) ∧ i ≤ N ∧ L2.Same (upd H2 t1 (.tup (ts.map V.ref))) H') ?_ ?_ ?_ ?_
        · refine ⟨upd_same, Nat.zero_le _, fun b o e => ?_⟩
          rw [upd_ne (fun z => by rw [z, hD] at e; cases e)]
          exact e
        · rintro i H' hi ⟨_, _, sm⟩
          exact SqL.of (sm d _ (s3 d _ (s2 d _ ed)))
        · rintro i x H3 hx ⟨eD, _, sm⟩
          have hi : i < N := by
            have := (List.getElem?_eq_some_iff.mp hx).1
            simpa using this
          have ex : x = .int (cl.idxOf i : Nat) := by
            rw [List.getElem?_map, List.getElem?_map, List.getElem?_range hi] at hx
            exact (Option.some.inj hx).symm
          subst ex
          have hj := hix i hi
          walk_at "go"
          refine ⟨rfl, ?_⟩
          walk_at "go"
          refine rd_ixl (SqL.of (sm q _ (s03 q _ hq))) (atI_nat (v := .bl (ms.getD (cl.idxOf i) false)) (by rw [List.getElem?_map, List.getD_eq_getElem?_getD, List.getElem?_eq_getElem (by omega)]; rfl)) ?_
          refine ⟨_, eD, by simp; rw [PySem.sizeLine_eq]; omega, by rw [upd_same, List.range_succ]; simp, by omega, fun b o e => ?_⟩
          rw [upd_ne (fun z => by rw [z, hD] at e; cases e)]
          exact sm b o e
        · rintro H3 ⟨eD, _, sm⟩
          have eD : H3 D = some (.lst (((List.range N).map fun a => ms.getD (cl.idxOf a) false).map V.bl)) := by simpa using eD
          walk_at "go"
          refine rd_tupl (SqL.of eD) ?_
          refine fun t2 hT2 => ?_
          walk_at "go"
          have s4 : L2.Same H3 (upd H3 t2 (.tup (((List.range N).map fun a => ms.getD (cl.idxOf a) false).map V.bl))) := fun b o e => by
            rw [upd_ne (fun z => by rw [z, hT2] at e; cases e)]
            exact e
          refine ⟨by show 2 ≤ sizeLine; decide, fun t3 hT3 => ?_⟩
          walk_at "go"
          have s5 : ∀ {o3 : HO} (b : Addr) (o : HO), upd H3 t2 (.tup (((List.range N).map fun a => ms.getD (cl.idxOf a) false).map V.bl)) b = some o → upd (upd H3 t2 (.tup (((List.range N).map fun a => ms.getD (cl.idxOf a) false).map V.bl))) t3 o3 b = some o := fun b o e => by
            rw [upd_ne (fun z => by rw [z, hT3] at e; cases e)]
            exact e
          have g1 : H3 t1 = some (.tup (ts.map V.ref)) := sm t1 _ upd_same
          refine k t3 _ (fun b o e => s5 b o (s4 b o (sm b o (s03 b o e)))) (.tup upd_same (.cons (.tup (s5 _ _ (s4 _ _ g1)) ?_) (.cons (.tup (s5 _ _ upd_same) ?_) .nil)))
          · refine tpR (mgRow rs cl) (List.range N) ts (by rw [List.length_range]; exact tl) fun j t a e1 e2 => ?_
            have ej : a = j := by
              have hj := (List.getElem?_eq_some_iff.mp e2).1
              rw [List.length_range] at hj
              rw [List.getElem?_range hj] at e2
              exact (Option.some.inj e2).symm
            subst ej
            exact s5 _ _ (s4 _ _ (sm _ _ (s3 _ _ (ht _ t e1))))
          · have := tpB (H := upd (upd H3 t2 (.tup (((List.range N).map fun a => ms.getD (cl.idxOf a) false).map V.bl))) t3 (.tup [.ref t1, .ref t2])) ((List.range N).map fun a => ms.getD (cl.idxOf a) false)
            rw [List.map_map (g := PyData.bool)] at this
            exact this
end

end Cs
namespace Cs
open PySem L2
open PyProof.Rows (envOfC)
/-- what __init__ leaves, with a bound of the places -/
structure MD2 (C m : Addr) (al : List Nat) (H : Hp) (j wd : Nat) (A : Lg) (H' : Hp) : Prop where
  ex : ∃ (d l : Addr) (f : List Nat) (r : Nat → Nat) (v : Vd), MV C m d l al f r v H' ∧ Mach f r ∧ VOk f r f.length v A ∧ v.Dp j ∧ f.length ≤ 1 + wd
  kp : ∀ b o, b ≠ m → H b = some o → H' b = some o
def sp_minit2 (C : Addr) (n j : Nat) : Sp := fun vs H Q _ => ∃ (m dx : Addr) (al : List Nat) (v : V) (p : Pt), vs = [.ref m, .str (S al), v] ∧ H m = some (.ins C dx []) ∧ al.Nodup ∧ al.length ≤ 60 ∧ p.Jd al n j ∧ Tp H v p.d ∧ p.wd ≤ 790 ∧ ∀ H', MD2 C m al H j p.wd p.L H' → Q .non H'
section
variable {P : Program} {w : World} {K : PySem.W.Frag} {mg : Str → Option Value} {base : Heap}
theorem ok_minit2 {C : Addr} {n j k : Nat} (T : MTxt K mg C) (G__judge : Mtd P w K mg base (k + 1) C "_judge" ["self", "pattern"] (sp_judge C n j)) (F : AtM K C "__init__" "Machine.__init__" s_Machine___init__ ["self", "alphabet", "pattern"]) :
    Mtd P w K mg base (k + 2) C "__init__" ["self", "alphabet", "pattern"] (sp_minit2 C n j) := by
  refine F.ok (k := k + 1) sc_Machine___init__ (fun vs H Q E h => ?_) (fun f cdv A outer s H vs Q E hr h => ?_)
  · obtain ⟨m, dx, al, v, p, rfl, _⟩ := h
    rfl
  · obtain ⟨m, dx, al, v, p, rfl, em, hnd, hL, hj, hv, hw, kq⟩ := h
    refine ⟨_, (pss_cons (ps_fldK (K := K) (by rfl) (pv 0) (pe_dc (own := [("character", 3)]) rfl sc_Machine___init__.nd (pi_str (pv 1)) (blkOk_by (N := ["self", "alphabet", "pattern", "character"]) (sc := defScope s_Machine___init__) (by decide +kernel)) (fun _ _ _ _ _ => (pg_name (i := 3) sc_Machine___init__.nd rfl (Or.inl rfl))) (fun _ _ _ _ _ => pts_nil) (fun _ _ _ _ _ => (pv 3)) (fun _ _ _ _ _ => pe_int)) rfl)
    (pss_cons (ps_fldK (K := K) (by rfl) (pv 0) (pe_lst (pa_cons pe_int pa_nil)) rfl)
    (pss_one (ps_fldK (K := K) (by rfl) (pv 0) (pe_md T.cl G__judge (hr.mono (by first | decide | omega)) (pv 0) (pa_cons (pv 2) pa_nil)) rfl)))), ?_⟩
    walk_at "go"
    intro D hD
    have nDm : D ≠ m := fun z => by rw [z, em] at hD; cases hD
    refine dc_str (x := al) (fun i H' => H' D = some (.dK (rK (al.take i) fun _ => 0)) ∧ Same H H') ?_ ?_ ?_
    · exact ⟨upd_same, Same.lay hD⟩
    · rintro i c H' hi ⟨eD, sm⟩
      walk_at "go"
      refine ⟨rfl, ?_⟩
      walk_at "go"
      refine ⟨_, Sum.inr (S [c]), rfl, eD, by rw [rK_len, List.length_take, PySem.sizeLine_eq]; omega, ?_, Same.lay2 sm hD⟩
      rw [← rK_snoc hi hnd]; exact upd_same
    · rintro H1 ⟨eD, sm⟩
      rw [List.take_length] at eD
      walk_at "go"
      refine ⟨m, C, dx, [], rfl, sm _ _ em, T.cl, T.nR, by show 0 < 1000; decide, ?_⟩
      rw [pf1]
      walk_at "go"
      refine ⟨by show 1 ≤ sizeLine; decide, fun l hl => ?_⟩
      have nlm : l ≠ m := fun z => by rw [z, upd_same] at hl; cases hl
      have nlD : l ≠ D := fun z => by rw [z, upd_ne nDm, eD] at hl; cases hl
      have hl0 : H1 l = none := by rw [upd_ne nlm] at hl; exact hl
      walk_at "go"
      refine ⟨m, C, dx, _, rfl, by rw [upd_ne nlm.symm]; exact upd_same, T.cl, T.nF, by show 1 < 1000; decide, ?_⟩
      rw [pf2]
      have M0 : MS C m D l al [0] (fun _ => 0) (upd (upd (upd H1 m (.ins C dx [("_reading", V.ref D)])) l (.lst [.int 0])) m (.ins C dx (mF D l))) :=
        ⟨⟨dx, upd_same⟩, by rw [upd_ne nDm, upd_ne nlD.symm, upd_ne nDm]; exact eD, by rw [upd_ne nlm]; exact upd_same⟩
      have keep : ∀ b o, b ≠ m → H b = some o → upd (upd (upd H1 m (.ins C dx [("_reading", V.ref D)])) l (.lst [.int 0])) m (.ins C dx (mF D l)) b = some o := fun b o nb e => by
        have e1 := sm b o e
        have nl : b ≠ l := fun z => by rw [z, hl0] at e1; cases e1
        rw [upd_ne nb, upd_ne nl, upd_ne nb]; exact e1
      have hv1 : Tp (upd (upd (upd H1 m (.ins C dx [("_reading", V.ref D)])) l (.lst [.int 0])) m (.ins C dx (mF D l))) v p.d := hv.ts fun b xs e => keep b _ (ne_of e em (by intro z; cases z)) e
      walk_at "go"
      refine M0.me ?_
      walk_at "go"
      refine use_judge M0 mach0 (by omega) hj hv1 (by show 1 + p.wd ≤ 800; omega) fun x H2 q => ?_
      obtain ⟨f1, r1, vd, M1, k1, g1, Mc1, vk, tv, dp, l1⟩ := q.ex
      walk_at "go"
      obtain ⟨dx', em1⟩ := M1.m
      refine ⟨m, C, dx', _, rfl, em1, T.cl, T.nV, by show 2 < 1000; decide, ?_⟩
      rw [pf3]
      have k2 : KV' (fun _ => True) H2 (upd H2 m (.ins C dx' (mFv D l x))) := ⟨fun b xs e => by rw [upd_ne (ne_of e em1 (by intro z; cases z))]; exact e, fun b xs _ e => by rw [upd_ne (ne_of e em1 (by intro z; cases z))]; exact e⟩
      refine kq _ ⟨⟨D, l, f1, r1, vd, ⟨⟨dx', x, upd_same, (tv.imp fun _ _ => trivial).kp k2⟩, by rw [upd_ne nDm]; exact M1.d, by rw [upd_ne nlm]; exact M1.l⟩, Mc1, vk, dp, l1⟩, fun b o nb e => ?_⟩
      rw [upd_ne nb]
      refine k1 b o ?_ ?_ (keep b o nb e)
      · intro z; rw [z, hD] at e; cases e
      · intro z; rw [z] at e; have := sm _ _ e; rw [hl0] at this; cases this
end

end Cs
namespace Cs
open PySem L2
open PyProof.Rows (envOfC)
/-! the automaton of a pattern: what is promised of it -/
noncomputable def LgB (al : List Nat) (L : Lg) (w : List Nat) : Bool := @decide (L (w.map fun c => al.getD c 0)) (Classical.propDecidable _)
theorem LgB_iff {al : List Nat} {L : Lg} {w : List Nat} : LgB al L w = true ↔ L (w.map fun c => al.getD c 0) := by
  unfold LgB; simp
abbrev δA (f : List Nat) (r : Nat → Nat) (al : List Nat) (s c : Nat) : Nat := stepF f r s (al.getD c 0)
theorem map_cols {α : Type} (g : Nat → α) (al : List Nat) : al.map g = (List.range al.length).map fun c => g (al.getD c 0) := by
  refine List.ext_getElem? fun i => ?_
  rcases Nat.lt_or_ge i al.length with l | l
  · rw [List.getElem?_map, List.getElem?_map, List.getElem?_range l, List.getElem?_eq_getElem l]
    show some (g al[i]) = some (g (al.getD i 0))
    rw [List.getD_eq_getElem?_getD, List.getElem?_eq_getElem l]; rfl
  · rw [List.getElem?_eq_none (by simp; omega), List.getElem?_eq_none (by simp; omega)]
theorem lb_run {f : List Nat} {r : Nat → Nat} {al : List Nat} {v : Vd} {A : Lg} (M : Mach f r) (h : VOk f r f.length v A) : (fun w : List Nat => v.h (w.foldl (δA f r al) 1)) = LgB al A := by
  funext w
  have e : w.foldl (δA f r al) 1 = runF f r (w.map fun c => al.getD c 0) := by
    unfold runF
    rw [List.foldl_map]
  show v.h (w.foldl (δA f r al) 1) = LgB al A w
  rw [e, Bool.eq_iff_iff, LgB_iff]
  exact h.run M _
/-- the states that a machine comes to -/
def OkS (n s : Nat) : Prop := s = 1 ∨ (s < 2 ^ n ∧ s % 2 = 0)
theorem step_ok {f : List Nat} {r : Nat → Nat} (M : Mach f r) (s c : Nat) : OkS f.length (stepF f r s c) := by
  refine .inr ⟨Nat.lt_pow_two_of_testBit _ fun i hi => ?_, ?_⟩
  · cases e : (stepF f r s c).testBit i with
    | false => rfl
    | true =>
      have := M.r c i (stepF_bit.mp e).1
      omega
  · cases e : (stepF f r s c).testBit 0 with
    | false =>
      rw [Nat.testBit_zero] at e
      have := of_decide_eq_false e
      omega
    | true =>
      obtain ⟨_, k, _, h⟩ := stepF_bit.mp e
      have := (M.e k 0 h).1
      omega
theorem oks_len {n : Nat} (hn : 1 ≤ n) {ss : List Nat} (h : ss.Nodup) (hs : ∀ y ∈ ss, OkS n y) : ss.length ≤ 1 + 2 ^ (n - 1) := by
  have := nodup_le ss (1 :: (List.range (2 ^ (n - 1))).map (2 * ·)) h fun x hx => by
    rcases hs x hx with e | ⟨e1, e2⟩
    · rw [e]; exact List.mem_cons_self
    · refine List.mem_cons_of_mem _ (List.mem_map.mpr ⟨x / 2, List.mem_range.mpr ?_, by show 2 * (x / 2) = x; omega⟩)
      have : 2 ^ n = 2 * 2 ^ (n - 1) := by
        rw [← Nat.pow_succ', Nat.succ_eq_add_one]
        congr 1; omega
      omega
  rw [List.length_cons, List.length_map, List.length_range] at this
  omega
theorem Rf.congr {α : Type} {k n : Nat} {e : Nat → Nat → Nat} {m m' : Nat → α} {cl : List Nat} (hlt : ∀ i c, i < n → c < k → e i c < n) (h : ∀ i, i < n → m i = m' i) (R : Rf k n e m cl) : Rf k n e m' cl where
  len := R.len
  can := R.can
  mark := fun i j hi hj e => by rw [← h i hi, ← h j hj]; exact R.mark i j hi hj e
  coarse := fun i j hi hj q => R.coarse i j hi hj fun w hw => by
    have run : ∀ (w : List Nat) (i : Nat), Ov k w → i < n → w.foldl e i < n := fun w => by
      induction w with
      | nil => exact fun i _ hi => hi
      | cons c w ih => exact fun i hw hi => ih _ (fun d hd => hw d (List.mem_cons_of_mem _ hd)) (hlt i c hi (hw c List.mem_cons_self))
    rw [h _ (run w i hw hi), h _ (run w j hw hj)]
    exact q w hw
/-- the automaton as a value -/
def dA (k N : Nat) (e : Nat → Nat → Nat) (m : Nat → Bool) : PyData := .tuple [.tuple ((List.range N).map fun a => .tuple (iD ((List.range k).map (e a)))), .tuple ((List.range N).map fun a => .bool (m a))]
theorem can_all {l : List Nat} (h : Can l) {x g : Nat} (hx : x ∈ l) (hg : g ≤ x) : g ∈ l := by
  obtain ⟨i, hi⟩ := List.mem_iff_getElem?.mp hx
  rcases Nat.lt_or_ge g x with q | q
  · obtain ⟨j, _, hj⟩ := Can.earlier h i x g hi q
    exact List.mem_of_getElem? hj
  · have : g = x := by omega
    rw [this]; exact hx

end Cs
namespace Cs
open PySem L2
open PyProof.Rows (envOfC)
/-! callees that may raise -/
structure CalX (P : Program) (w : World) (K : PySem.W.Frag) (mg : Str → Option Value) (base : Heap) (k : Nat) (x : Str) (ps : List Str) (sp : Sp) : Prop where
  ex : ∃ f fd, mg x = some (.ref f) ∧ PySem.W.keepIn K (.ref f) = true ∧ Binds K fd ps [] ∧ FnOk P w K mg base (L2.CX P w) k f fd ps sp
theorem At.okX {P : Program} {w : World} {K : PySem.W.Frag} {mg : Str → Option Value} {base : Heap} {x : Str} {st : Stmt} {N ps : List Str} {k : Nat} {sp : Sp} (F : At K mg x st ps) (S : FnScope N ps (defScope st)) (len : ∀ vs H Q E, sp vs H Q E → vs.length = ps.length)
    (hbody : ∀ (f : Addr) (cdv : Value) (A : Around) (outer : List Env) (s : Shared) (H : Hp) (vs : List V) (Q : VK) (E : XK), Room k (A.deeper (envOfC x (defScope st) s.heap.objs.size f cdv)) → sp vs H Q E →
      ∃ t, PSs (cxOf (L2.CX P w) P w K mg base N x (defScope st) f cdv A outer s H E) (defBody st) t ∧ t { nx := fun _ H' => Q .non H', rt := Q } (start N vs) H) : CalX P w K mg base (k + 1) x ps sp := by
  obtain ⟨f, fd, F, m, b⟩ := F.ex
  exact ⟨f, fd, m, F.kp, b, F.okX S len (hbody f)⟩
theorem pe_cX {X : Cx} {k : Nat} {x : Str} {ps : List Str} {sp : Sp} {p pos : Pos} {e : Expr} {es : List Expr} {t : TA} {W : WX} (C : CalX X.prog X.w X.K X.mg X.base k x ps sp) (hr : Room k X.A) (tk : Takes X W) (ha : PA X (e :: es) t) (hg : Gl X x := by rfl) (hdb : (x == ("__debug__" : Str)) = false := by decide)
    (he : starEach (e :: es) X.env = (false, eval e X.env) :: starEach es X.env := by rfl) (hpl : (backTo pos (starEach es X.env)).any (·.1) = false := by rfl) : PE X (.Call (.Name x p) (e :: es) [] pos) (tCallS sp (WE W) t) := by
  obtain ⟨f, fd, hm, hk, hb, F⟩ := C.ex
  exact pe_callS F hr hg hm hk hb (fun σ => passAt tk σ) ha hdb he hpl
theorem rd_callS {sp : Sp} {E : St → XK} {t : TA} {σ : St} {H : Hp} {Q : VK} (h : t σ H fun vs H1 => sp vs H1 Q (E σ)) : tCallS sp E t σ H Q := h
theorem monoE1 {ta : TE} (h : ∀ σ H R R', (∀ x H1, R x H1 → R' x H1) → ta σ H R → ta σ H R') : ∀ σ H (R R' : List V → Hp → Prop), (∀ ys H1, R ys H1 → R' ys H1) → tCons ta tNil σ H R → tCons ta tNil σ H R' := fun σ H R R' k q => h σ H _ _ (fun x H1 r => k _ _ r) q
theorem mono1 {i : Nat} : ∀ σ H (R R' : List V → Hp → Prop), (∀ ys H1, R ys H1 → R' ys H1) → tCons (tVar i) tNil σ H R → tCons (tVar i) tNil σ H R' := fun σ H R R' k q => by
  obtain ⟨v, e, q⟩ := q
  exact ⟨v, e, k _ _ q⟩

end Cs
namespace Cs
open PySem L2
open PyProof.Rows (envOfC)
/-! automaton: the machine, the walk, the classes, all merged -/
/-- the lambda in a text -/
def lamOf (st : Stmt) : Expr := match st with
  | .Assign _ (.Call _ args _ _) _ => args.getD 1 (.Name "" ⟨0, 0, 0, 0⟩)
  | _ => .Name "" ⟨0, 0, 0, 0⟩
def lparE : Expr → Arguments
  | .Lambda p _ _ _ => p
  | _ => defArgs (.Pass ⟨0, 0, 0, 0⟩)
def lbodyE : Expr → Expr
  | .Lambda _ b _ _ => b
  | e => e
def lscopeE : Expr → Scope
  | .Lambda _ _ sc _ => sc
  | _ => defScope (.Pass ⟨0, 0, 0, 0⟩)
abbrev lamE : Expr := lamOf ((defBody s_automaton).getD 1 (.Pass ⟨0, 0, 0, 0⟩))
abbrev qA : Str := ("automaton" : Str) ++ ".<locals>." ++ "<lambda>"
def TbA (Pa : Addr) : List (Addr × Str) := [(Pa, qA)]
abbrev FA (cells : List (Str × Addr)) (c' : Addr) : L1.LF := ⟨qA, lparE lamE, lbodyE lamE, lscopeE lamE, cloFrom cells (lscopeE lamE).names [], c'⟩
def TTA (C : Addr) (F : Addr → L1.LF) : Addr → Addr → List (Option V) → V → Hp → VK → Prop := fun fL c' ws v0 H2 Q => ∃ (m d l : Addr) (al f : List Nat) (r : Nat → Nat) (v : Vd), v0 = vn 1 ∧ ws = [some (.str (S al)), some (.ref m)] ∧ MV C m d l al f r v H2 ∧ Mach f r ∧ f.length ≤ 16 ∧ al.length ≤ 60 ∧
  H2 fL = some (L1.LamO fL (F c')) ∧ H2 (F c').c = some (LamX.CodeO (F c').c (F c').qual) ∧
  ∀ (t p q : Addr) (ss : List Nat) (rows : List (List Nat)) (H' : Hp), L2.Same H2 H' → H' t = some (.tup [.ref p, .ref q]) → H' p = some (.lst (iV ss)) → Rws H' q rows → Wk al.length (fun n => al.map (stepF f r n)) 1 ss rows → rows.length = ss.length → (∀ y ∈ ss, OkS f.length y) → Q (.ref t) H'
theorem ndL : (["here", "alphabet", "machine", "character"] : List Str).Nodup := by decide +kernel
theorem hfA : ∀ y ∈ (lscopeE lamE).names, y.2 = .free → (defScope s_automaton).names.lookup y.1 = some .cell ∨ (defScope s_automaton).names.lookup y.1 = some .free := by decide +kernel
theorem hfrA : ∀ y ∈ (["alphabet", "machine"] : List Str), (y, NameKind.free) ∈ (lscopeE lamE).names := by decide +kernel
theorem scA : L1.LScope ["here", "alphabet", "machine", "character"] ["alphabet", "machine"] "here" (lscopeE lamE) := ⟨rfl, rfl, rfl, rfl, rfl, by decide +kernel, by decide +kernel, by decide +kernel, fun _ _ => rfl, fun _ => rfl⟩
/-- a def with its code object -/
structure AtT (K : PySem.W.Frag) (mg : Str → Option Value) (x : Str) (st : Stmt) (ps : List Str) (c : Addr) : Prop where
  ex : ∃ (f : Addr) (oc : Value) (od : Option Addr) (kV doc pm : Value) (an : Option Addr) (ct : Value) (osl : Array (Option Value)), mg x = some (.ref f) ∧ PySem.W.keepIn K (.ref f) = true ∧
    K.lookup f = some ⟨oc, od, .func (PySem.W.fnOf x x (defArgs st) (defBody st) (defScope st) .none kV doc pm an (.ref c) ct), osl⟩ ∧ PySem.W.codeIn K (.ref c) x = true ∧ Binds K (PySem.W.fnOf x x (defArgs st) (defBody st) (defScope st) .none kV doc pm an (.ref c) ct) ps []
/-- _explored with its default -/
structure ExAt (K : PySem.W.Frag) (mg : Str → Option Value) : Prop where
  ex : ∃ (g : Addr) (oc : Value) (od : Option Addr) (dV kV doc pm : Value) (an : Option Addr) (cdv ct : Value) (osl : Array (Option Value)), mg "_explored" = some (.ref g) ∧ PySem.W.keepIn K (.ref g) = true ∧
    K.lookup g = some ⟨oc, od, .func (PySem.W.fnOf "_explored" "_explored" (defArgs s__explored) (defBody s__explored) (defScope s__explored) dV kV doc pm an cdv ct), osl⟩ ∧ PySem.W.codeIn K cdv "_explored" = true ∧
    ∀ (s : Shared) (u0 u1 : Value), K.In s.heap → BindsTo s (PySem.W.fnOf "_explored" "_explored" (defArgs s__explored) (defBody s__explored) (defScope s__explored) dV kV doc pm an cdv ct) ⟨[u0, u1], []⟩ ((["first", "steps", "most"] : List Str).zip [u0, u1, .none])
section
variable {P : Program} {w : World} {K : PySem.W.Frag} {mg : Str → Option Value} {base : Heap}
theorem run_auto {C g fL c' : Addr} {cells : List (Str × Addr)} {cdv : Value} {ws : List (Option V)} {v0 : V} {A : Around} {outer : List Env} {s : Shared} {H : Hp} {Q : VK} (B : Blt mg) (T : MTxt K mg C) (G_step : Mtd P w K mg base 1 C "step" ["self", "state", "character"] (sp_step C))
    (CA : NdefX.CellsAt (cloFrom cells (lscopeE lamE).names []) ["alphabet", "machine"] ws s.heap H) (hr : Room (15 + 1) (A.deeper (envOfC "_explored" (defScope s__explored) s.heap.objs.size g cdv))) (h : TTA C (FA cells) fL c' ws v0 H Q) :
    ∃ t, PSs (cxOf CX0 P w K mg base ["first", "steps", "most", "numbers", "states", "rows", "following", "after"] "_explored" (defScope s__explored) g cdv A outer s H E0) (defBody s__explored) t ∧
      t { nx := fun _ H' => Q .non H', rt := Q } (start ["first", "steps", "most", "numbers", "states", "rows", "following", "after"] [v0, .ref fL, .non]) H := by
  obtain ⟨m, d, l, al, f, r, v, rfl, rfl, M, Mc, hfl, hal, hf, hc, fin⟩ := h
  have hb : ∃ tb, (∀ (A : Around) (outer : List Env) (s : Shared) (H : Hp), Room 15 (A.deeper (L1.envL (FA cells c') "here" fL s.heap.objs.size)) → PE (L1.lcx CX0 P w K mg base ["here", "alphabet", "machine", "character"] (FA cells c') "here" fL A outer s H E0) (FA cells c').body tb) ∧
      ∀ (n : Nat) (H' : Hp) (Q : VK), L2.Same H H' → (∀ r' H'', L2.Same H' H'' → H' r' = none → H'' r' = some (.lst (iV (al.map (stepF f r n)))) → Q (.ref r') H'') → tb (NdefX.startF ["here", "alphabet", "machine", "character"] [vn n] [some (.str (S al)), some (.ref m)]) H' Q := by
    refine ⟨_, fun A outer s H hr => pe_lc (own := [("character", 3)]) rfl ndL (pi_str (pv 1)) (blkOk_by (N := ["here", "alphabet", "machine", "character"]) (sc := lscopeE lamE) (by decide +kernel)) (fun _ _ _ _ _ => pg_name (i := 3) ndL rfl (Or.inl rfl)) (fun _ _ _ _ _ => pts_nil)
      (fun _ _ _ _ _ => pe_md T.cl G_step (hr.mono (by decide)) (pv 2) (pa_cons (pv 0) (pa_cons (pv 3) pa_nil))), fun n H' Q sm k => ?_⟩
    walk_at "go"
    intro D hD
    refine lc_text (x := al) (fun i H2 => H2 D = some (.lst (iV ((al.take i).map (stepF f r n)))) ∧ L2.Same H' H2) ?_ ?_ ?_
    · exact ⟨upd_same, same_lay hD⟩
    · rintro i c H2 hi ⟨e2, s2⟩
      walk_at "go"
      refine ⟨rfl, ?_⟩
      walk_at "go"
      refine (M.same (sm.trans s2)).me ?_
      walk_at "go"
      refine use_step (M.same (sm.trans s2)) (List.mem_of_getElem? hi) fun H3 s3 => ?_
      refine ⟨_, s3 _ _ e2, by rw [List.length_map, List.length_map, List.length_take, PySem.sizeLine_eq]; omega, ?_, same_new (s2.trans s3) hD⟩
      rw [upd_same, List.take_add_one, hi]; simp
    · rintro H2 ⟨e2, s2⟩
      rw [List.take_length] at e2
      exact k D H2 s2 hD e2
  obtain ⟨tb, hb1, hb2⟩ := hb
  have one := Mc.one
  refine run_explored (F := FA cells c') (nb := 65536) (Ok := OkS f.length) B scA (fun _ _ _ => rfl) CA hr hb1 hf hc (fun n H' Q _ sm k => hb2 n H' Q sm k) (fun n _ => ⟨by rw [List.length_map], fun y hy => ?_⟩) (.inl rfl) (fun ss h1 h2 => ?_) (by decide) (by omega) fin
  · obtain ⟨c, _, rfl⟩ := List.mem_map.mp hy
    exact step_ok Mc n c
  · have := oks_len one h1 h2
    have h2 : 2 ^ (f.length - 1) ≤ 2 ^ 15 := Nat.pow_le_pow_right (by decide) (by omega)
    omega
theorem rd_lam1 {T : List (Addr × Str)} {js : List Nat} {mk : Addr → L1.LF} {te0 : TE} {TT : Addr → Addr → List (Option V) → V → Hp → VK → Prop} {σ : St} {H : Hp} {Q : VK}
    (h : te0 σ H fun v0 H1 => LamX.Tabs T H1 ∧ ∀ (f c' : Addr) (H2 : Hp), LamX.ExtN H1 H2 → LamX.Tabs T H2 → H1 f = none → H2 f = some (L1.LamO f (mk c')) → H2 c' = some (LamX.CodeO c' (mk c').qual) → TT f c' (js.map (NdefX.slotAt σ)) v0 H2 Q) : L1.tLam1 T js mk te0 TT σ H Q := h
theorem MV.ext {C m d l : Addr} {al f : List Nat} {r : Nat → Nat} {v : Vd} {H H' : Hp} (M : MV C m d l al f r v H) (s : LamX.ExtN H H') : MV C m d l al f r v H' := by
  obtain ⟨dx, x, e, t⟩ := M.m
  exact ⟨⟨dx, x, s _ _ e (by intro ps z; cases z), t.kp ⟨fun b xs e => s b _ e (by intro ps z; cases z), fun b xs _ e => s b _ e (by intro ps z; cases z)⟩⟩, s _ _ M.d (by intro ps z; cases z), s _ _ M.l (by intro ps z; cases z)⟩
theorem dM_eq {k N : Nat} {rows : List (List Nat)} {ms : List Bool} {cl : List Nat} {mk : Nat → Bool} (hw : ∀ a, a < N → (rows.getD (cl.idxOf a) []).length = k) (hm : ∀ a, a < N → ms.getD (cl.idxOf a) false = mk a) :
    dM rows ms cl N = dA k N (fun a c => cl.getD (entR rows (cl.idxOf a) c) 0) mk := by
  unfold dM dA
  have e1 : (List.range N).map (fun a => PyData.tuple (iD (mgRow rows cl a))) = (List.range N).map fun a => PyData.tuple (iD ((List.range k).map fun c => cl.getD (entR rows (cl.idxOf a) c) 0)) := List.map_congr_left fun a ha => by
    have ha := List.mem_range.mp ha
    congr 2
    unfold mgRow
    rw [map_cols (fun v => cl.getD v 0), hw a ha]
  have e2 : (List.range N).map (fun a => PyData.bool (ms.getD (cl.idxOf a) false)) = (List.range N).map fun a => PyData.bool (mk a) := List.map_congr_left fun a ha => by rw [hm a (List.mem_range.mp ha)]
  rw [e1, e2]
/-- al.length columns; the least automaton in standard order, or TooLarge -/
def sp_automaton (CT Pa : Addr) (j : Nat) : Sp := fun vs H Q E => ∃ (al : List Nat) (v : V) (p : Pt), vs = [.str (S al), v] ∧ al.Nodup ∧ al.length ≤ 60 ∧ p.Jd al 4 j ∧ Tp H v p.d ∧ p.wd ≤ 15 ∧ LamX.Tabs (TbA Pa) H ∧
  ∀ (N : Nat) (e : Nat → Nat → Nat) (m : Nat → Bool), Std al.length N e m (LgB al p.L) → N ≤ 1 + 2 ^ p.wd →
    (N ≤ 40 → ∀ (t : Addr) (H' : Hp), LamX.ExtN H H' → LamX.Tabs (TbA Pa) H' → Tp H' (.ref t) (dA al.length N e m) → Q (.ref t) H') ∧
    (40 < N → ∀ (d : Addr) (H' : Hp), LamX.ExtN H H' → LamX.Tabs (TbA Pa) H' → H' d = some (.xd [("what", .str (kS "pattern"))]) → E (.ref CT) (some d) H')
theorem ok_automaton (B : Blt mg) {C CT Pa c : Addr} {j : Nat} (T : MTxt K mg C) (TB : LamX.TabB base mg c Pa) (G_Machine : Mkr P w K mg base (j + 18) "Machine" C ["self", "alphabet", "pattern"] (sp_minit2 C 4 j)) (G_step : Mtd P w K mg base 1 C "step" ["self", "state", "character"] (sp_step C))
    (G_accepts : Mtd P w K mg base (j + 17) C "accepts" ["self", "state"] (sp_accepts C j)) (G__classes : Cal P w K mg base 2 "_classes" ["rows", "marks"] sp_classes) (G__merged : Cal P w K mg base 1 "_merged" ["rows", "marks", "classes"] sp_merged) (Fe : ExAt K mg)
    (c_MOST_STATES : ∃ u, mg "MOST_STATES" = some u ∧ RelV (.int 40) u) (N_TooLarge : NewAt P w K mg base "TooLarge" CT ["what"]) (F : AtT K mg "automaton" s_automaton ["alphabet", "pattern"] c) : CalX P w K mg base (j + 21) "automaton" ["alphabet", "pattern"] (sp_automaton CT Pa j) := by
  obtain ⟨f, oc, od, kV, doc, pm, an, ct, osl, hm, hk, lk, hcd, hbn⟩ := F.ex
  refine ⟨f, _, hm, hk, hbn, fn_of (k := j + 20) lk hcd sc_automaton (fun vs H Q E h => ?_) fun A outer s H vs Q E hr h => ?_⟩
  · obtain ⟨al, v, p, rfl, _⟩ := h
    rfl
  · obtain ⟨al, v, p, rfl, hnd, hal, hj, hv, hw, hT, kq⟩ := h
    obtain ⟨g, oc', od', dV', kV', doc', pm', an', cdv', ct', osl', gM, gK, gL, gC, gB⟩ := Fe.ex
    refine ⟨_, (pss_cons (ps_set (i := 2) sc_automaton.nd rfl (Or.inr rfl) (pe_mk G_Machine (hr.mono (by first | decide | omega)) (pa_cons (pv 0) (pa_cons (pv 1) pa_nil))))
    (pss_cons (ps_asg (L1.pe_lamcall1 (x := "_explored") (T := TbA Pa) (js := [0, 2]) (fr := ["alphabet", "machine"]) (ps := ["first", "steps", "most"]) (Ng := ["first", "steps", "most", "numbers", "states", "rows", "following", "after"]) (TT := TTA C (FA (cellsFrom (s.heap.objs.size + 1) (defScope s_automaton).names []))) (params := lparE lamE) (body := lbodyE lamE) (scope := lscopeE lamE) (by rfl) gM gK gL gC rfl gB sc__explored (fun fL c' s2 H2 Q v0 ws CA hr' h => run_auto B T G_step CA hr' h) TB rfl (List.mem_singleton.mpr rfl) (fun p hp _ => by rw [List.mem_singleton.mp hp]; rfl) (hr.mono (by omega)) rfl hfA hfrA rfl (pe_k T.c_START)) (pg_tupK (n := 2) (K := K) (by rfl) (by rfl) (pgs_cons (pg_name (i := 3) sc_automaton.nd rfl (Or.inl rfl)) (pgs_cons (pg_name (i := 4) sc_automaton.nd rfl (Or.inl rfl)) pgs_nil))))
    (pss_cons (ps_setLc (i := 5) (own := [("state", 7)]) rfl sc_automaton.nd rfl rfl (sw_true rfl rfl rfl (by decide +kernel)) (pi_listK (K := K) (by rfl) (pv 3)) (blkOk_by (N := ["alphabet", "pattern", "machine", "states", "rows", "marks", "classes", "state"]) (sc := defScope s_automaton) (by decide +kernel)) (fun _ _ _ _ _ => (pg_name (i := 7) sc_automaton.nd rfl (Or.inl rfl))) (fun _ _ _ _ _ => pts_nil) (fun _ _ _ _ _ => (pe_md T.cl G_accepts (hr.mono (by first | decide | omega)) (pv 2) (pa_cons (pv 7) pa_nil))))
    (pss_cons (ps_set (i := 6) sc_automaton.nd rfl (Or.inl rfl) (pe_c G__classes (hr.mono (by first | decide | omega)) (pa_cons (pv 4) (pa_cons (pv 5) pa_nil))))
    (pss_cons (ps_if (pt_cmpR op_ge (pe_callB (cr_maxK (K := K) (by rfl) rfl) (by rfl) B.max (by decide +kernel) (pa_cons (pv 6) pa_nil)) (pe_k c_MOST_STATES) (nomark _))
    (pss_one (ps_raiseN rfl (takes_of rfl rfl rfl rfl) N_TooLarge (hr.mono (by first | decide | omega)) (pa_cons pe_str pa_nil) (monoE1 (fun σ H R R' k q => k _ _ q))))
    pss_nil)
    (pss_one (ps_ret (pe_c G__merged (hr.mono (by first | decide | omega)) (pa_cons (pv 4) (pa_cons (pv 5) (pa_cons (pv 6) pa_nil))))))))))), ?_⟩
    walk_at "go"
    intro x dx nx ndx nex
    have s2 : L2.Same H (upd (upd H dx (.own x)) x (.ins C dx [])) := same_new (same_lay ndx) nx
    refine ⟨x, dx, al, v, p, rfl, upd_same, hnd, hal, hj, hv.ts (TS.same s2), by omega, fun H2 md => ⟨rfl, ?_⟩⟩
    obtain ⟨d, l, fo, r, vd, mv, Mc, vok, dp, hfl⟩ := md.ex
    have s3 : L2.Same H H2 := fun b o e => md.kp b o (ne_of_none e nx) (s2 b o e)
    walk_at "go"
    refine rd_lam1 ?_
    walk_at "go"
    refine ⟨hT.ext s3, fun fL c' H3 eN T3 f0 f1 hco => ?_⟩
    unfold TTA
    refine ⟨x, d, l, al, fo, r, vd, rfl, rfl, mv.ext eN, Mc, by omega, hal, f1, hco, fun t pS qS ss rows H4 s4 et ep Rq W en ok => ?_⟩
    have mv4 := (mv.ext eN).same s4
    have e04 : LamX.ExtN H H4 := (LamX.ExtN.of s3).trans (eN.trans (.of s4))
    have T4 := T3.ext s4
    have one := Mc.one
    have hss : ss.length ≤ 1 + 2 ^ p.wd := by
      have h1 := oks_len one W.nd ok
      have h2 : 2 ^ (fo.length - 1) ≤ 2 ^ p.wd := Nat.pow_le_pow_right (by decide) (by omega)
      omega
    have hss2 : ss.length ≤ 100000 := by
      have h2 : 2 ^ p.wd ≤ 2 ^ 15 := Nat.pow_le_pow_right (by decide) hw
      omega
    rw [show (fun n => al.map (stepF fo r n)) = stepsK al.length (δA fo r al) from funext fun n => map_cols _ al] at W
    have hpos : 0 < ss.length := (List.getElem?_eq_some_iff.mp W.zero).1
    have Bw := W.bf en
    refine rd_gtup (SqT.of et) rfl ?_
    walk_at "go"
    refine ⟨pS, rfl, ⟨_, SqL.of ep⟩, fun D hD => ?_⟩
    refine lc_list (xs := iV ss) (fun i H' => H' D = some (.lst (((ss.take i).map vd.h).map V.bl)) ∧ L2.Same H4 H') ?_ ?_ ?_ ?_
    · exact ⟨upd_same, same_lay hD⟩
    · rintro i H' hi ⟨_, sm⟩
      exact SqL.of (sm pS _ ep)
    · rintro i y H' hy ⟨e2, sm⟩
      obtain ⟨n, en', rfl⟩ : ∃ n, ss[i]? = some n ∧ vn n = y := by simpa using hy
      have hi := (List.getElem?_eq_some_iff.mp en').1
      walk_at "go"
      refine ⟨rfl, ?_⟩
      walk_at "go"
      refine (mv4.same sm).me ?_
      walk_at "go"
      refine use_accepts (mv4.same sm) dp fun H6 s6 => ?_
      refine ⟨_, s6 _ _ e2, by rw [List.length_map, List.length_map, List.length_take, PySem.sizeLine_eq]; omega, ?_, same_new (sm.trans s6) hD⟩
      rw [upd_same, List.take_add_one, en']; simp
    · rintro H5 ⟨eD, s5⟩
      rw [show (iV ss).length = ss.length by simp, List.take_length] at eD
      walk_at "go"
      refine ⟨qS, D, rows, ss.map vd.h, al.length, ss.length, rfl, Rq.same s5, eD, en, by rw [List.length_map], W.wid, Bw.lt, hss2, by omega, fun cA cl H6 s6 ec R st => ?_⟩
      have R' : Rf al.length ss.length (entR rows) (markR vd.h 1 ss) cl := R.congr Bw.lt fun i hi => by
        have := markR_map (acc := vd.h) (s0 := 1) hi
        rw [List.getD_eq_getElem?_getD, this]; rfl
      have clen := R.len
      walk_at "go"
      refine ⟨cA, cl.map fun v => ((v : Nat) : Int), rfl, by rw [List.map_map]; exact SqL.of ec, by rw [List.length_map]; omega, fun mx hm hall => ?_⟩
      obtain ⟨v0, hv0, rfl⟩ := List.mem_map.mp hm
      have hlt : ∀ y ∈ cl, y < v0 + 1 := fun y hy => by
        have := hall (y : Int) (List.mem_map.mpr ⟨y, hy, rfl⟩)
        omega
      have hin : ∀ a, a < v0 + 1 → a ∈ cl := fun a ha => can_all R.can hv0 (by omega)
      have hidx : ∀ a, a < v0 + 1 → cl.idxOf a < ss.length := fun a ha => by
        rw [← clen]; exact List.idxOf_lt_length_iff.mpr (hin a ha)
      have Sd := aut_std W en R' st (N := v0 + 1) (fun i hi => by
        have := List.getElem?_eq_getElem (l := cl) (i := i) (by omega)
        rw [List.getD_eq_getElem?_getD, this]
        exact hlt _ (List.getElem_mem _)) ⟨cl.idxOf v0, hidx v0 (by omega), by
        have hl := hidx v0 (by omega)
        rw [List.getD_eq_getElem?_getD, List.getElem?_eq_getElem (by omega), List.getElem_idxOf (by omega)]; rfl⟩
      have Sd2 : Std al.length (v0 + 1) (fun a c => cl.getD (entR rows (cl.idxOf a) c) 0) (fun a => markR vd.h 1 ss (cl.idxOf a)) (LgB al p.L) := by
        rw [← lb_run Mc vok]; exact Sd
      have hle : v0 + 1 ≤ ss.length := by
        have := nodup_le (List.range (v0 + 1)) cl List.nodup_range fun a ha => hin a (List.mem_range.mp ha)
        rw [List.length_range] at this
        omega
      obtain ⟨k1, k2⟩ := kq (v0 + 1) _ _ Sd2 (by omega)
      have e06 : LamX.ExtN H H6 := e04.trans (.of (s5.trans s6))
      have T6 := T4.ext (s5.trans s6)
      walk_at "go"
      refine ite2 (fun z => ?_) (fun z => ?_)
      · have z := of_decide_eq_true z
        with_reducible refine rd_raiseN ?_
        walk_at "go"
        refine ⟨rfl, by show 1 ≤ 1000; decide, fun d H7 n7 s7 ed => ?_⟩
        exact k2 (by omega) d H7 (e06.trans (.of s7)) (T6.ext s7) ed
      · have z : ¬ (40 : Int) ≤ (v0 : Int) := fun q => z (decide_eq_true q)
        walk_at "go"
        refine ⟨qS, D, cA, rows, ss.map vd.h, cl, ss.length, v0 + 1, rfl, Rq.same (s5.trans s6), s6 _ _ eD, ec, clen, en, by rw [List.length_map], fun ro hro => ⟨by rw [W.wid ro hro]; omega, fun v hv => ?_⟩, hss2, hlt, hin, by omega, by omega, fun t2 H7 s7 ht => ?_⟩
        · obtain ⟨i, hi⟩ := List.mem_iff_getElem?.mp hro
          obtain ⟨c, hc⟩ := List.mem_iff_getElem?.mp hv
          have i1 := (List.getElem?_eq_some_iff.mp hi).1
          have c1 := (List.getElem?_eq_some_iff.mp hc).1
          rw [W.wid ro hro] at c1
          have := Bw.lt i c (by omega) c1
          have e0 : entR rows i c = v := by
            show (rows.getD i []).getD c 0 = v
            rw [List.getD_eq_getElem?_getD, List.getD_eq_getElem?_getD, hi]
            show (ro[c]?).getD 0 = v
            rw [hc]; rfl
          rw [← e0]; exact this
        · refine k1 (by omega) t2 H7 (e06.trans (.of s7)) (T6.ext s7) ?_
          rw [← dM_eq (ms := ss.map vd.h) (fun a ha => ?_) (fun a ha => ?_)]
          · exact ht
          · have hl := hidx a ha
            rw [List.getD_eq_getElem?_getD, List.getElem?_eq_getElem (by omega)]
            exact W.wid _ (List.getElem_mem _)
          · rw [List.getD_eq_getElem?_getD, markR_map (s0 := 1) (hidx a ha)]; rfl
end

end Cs
namespace Cs
open PySem L2
open PyProof.Rows (envOfC)
/-! the end of a law whose program makes a lambda -/
def spLawT (K : PySem.W.Frag) (Pa : Addr) : Sp := fun vs H Q _ => ∃ (a : Addr) (ns : List Int), vs = [.ref a] ∧ SqL K H a (ns.map V.int) ∧ ns.length ≤ 63 ∧ LamX.Tabs (TbA Pa) H ∧ ∀ H', Q (.bl true) H'
theorem walk_cT {l : PySem.W.OpenLaw} {q : Program} {loose : List Str} {XP : (Str → Option Value) → Heap → Prop} {YP : World → Heap → Prop} {d : DefRec} {K : Params → PySem.W.Frag} {st : Stmt} (hn : l.most = some 63) (hdf : d.params.defaults = []) (hnm : d.name = "law")
    (hY : ∀ (w : World) (h : Heap), YP w h → (K w.params).In h)
    (F : ∀ (w : World) (mg : Str → Option Value) (h : Heap), YP w h → (K w.params).In h → h.Ns mainGlobals mg →
      ∃ (c Pa : Addr), h.get? Pa = some { cls := .none, data := .fields #[] } ∧ (K w.params).lookup Pa = none ∧ PySem.W.CodeHd h c Pa ∧
      ∃ (f : Addr) (oc : Value) (od an : Option Addr) (osl : Array (Option Value)) (kV dc pm cd ct : Value), PySem.W.nsIn (K w.params) mainGlobals "law" = some (some (.ref f)) ∧ (K w.params).lookup f = some ⟨oc, od, .func (PySem.W.fnOf "law" "law" (defArgs st) (defBody st) (defScope st) .none kV dc pm an cd ct), osl⟩ ∧
        PySem.W.codeIn (K w.params) cd "law" = true ∧ PySem.W.keepIn (K w.params) (.ref f) = true ∧
        (∀ (kV dc pm : Value) (an : Option Addr) (cd ct u : Value), bindArgs (PySem.W.fnOf "law" "law" (defArgs st) (defBody st) (defScope st) .none kV dc pm an cd ct) ⟨[u], []⟩ = pure [(("_law_script" : Str), u)]) ∧
        ∀ (base : Heap) (f : Addr) (fd : FuncData), LamX.TabB base mg c Pa → Fun (K w.params) "law" "law" st f fd → FnOk l.prog w (K w.params) mg base CX0 230 f fd ["_law_script"] (spLawT (K w.params) Pa)) :
    PySem.W.WalkO q loose XP YP l.row.toRowW d [] (fun f vs => PySem.call f vs) := by
  refine LamX.walk_ofTs (n := 63) (k := 230) (x := "_law_script") (CX := fun _ => CX0) hn (by decide) hdf ⟨rfl, by decide, by decide⟩ hY (fun w mg fa h Y X G hfa => ?_) fun _ _ _ _ _ z => z
  obtain ⟨c, Pa, t1, t2, t3, f, oc, od, an, osl, kV, dc, pm, cd, ct, a, lk, hc, k, hb, G2⟩ := F w mg h Y X G
  rw [hnm] at hfa
  have e := hfa.symm.trans (PySem.W.mg_of X G a)
  cases e
  refine ⟨_, [(c, Pa)], spLawT (K w.params) Pa, ?_, ?_, ?_, fun s v => .of_eq (hb _ _ _ _ _ _ _), ?_, fun base _ _ TB => G2 base _ _ (TB _ List.mem_cons_self) (fun_mk lk hc k)⟩
  · rintro p hp; rw [List.mem_singleton.mp hp]; exact t1
  · rintro p hp; rw [List.mem_singleton.mp hp]; exact t2
  · rintro p hp; rw [List.mem_singleton.mp hp]; exact t3
  · intro H a ns hl _ hT hS
    exact ⟨a, ns, rfl, hS, hl, fun p hp => by
      have e : p = (Pa, qA) := List.mem_singleton.mp hp
      rw [e]; exact LamX.TabS.nil (hT _ List.mem_cons_self), fun _ => rfl⟩
theorem lawT_mk {P : Program} {w : World} {K : PySem.W.Frag} {mg : Str → Option Value} {h : Heap} {st : Stmt} {f c Pa : Addr} {oc : Value} {od an : Option Addr} {osl : Array (Option Value)} {kV dc pm cd ct : Value} (X : K.In h)
    (t1 : h.get? Pa = some { cls := .none, data := .fields #[] }) (t2 : K.lookup Pa = none) (t3 : PySem.W.CodeHd h c Pa)
    (a : PySem.W.nsIn K mainGlobals "law" = some (some (.ref f))) (l : K.lookup f = some ⟨oc, od, .func (PySem.W.fnOf "law" "law" (defArgs st) (defBody st) (defScope st) .none kV dc pm an cd ct), osl⟩) (hc : PySem.W.codeIn K cd "law" = true) (k : PySem.W.keepIn K (.ref f) = true)
    (b : ∀ (kV dc pm : Value) (an : Option Addr) (cd ct u : Value), bindArgs (PySem.W.fnOf "law" "law" (defArgs st) (defBody st) (defScope st) .none kV dc pm an cd ct) ⟨[u], []⟩ = pure [(("_law_script" : Str), u)])
    (G2 : ∀ (base : Heap) (f : Addr) (fd : FuncData), LamX.TabB base mg c Pa → Fun K "law" "law" st f fd → FnOk P w K mg base CX0 230 f fd ["_law_script"] (spLawT K Pa)) :
    ∃ (c Pa : Addr), h.get? Pa = some { cls := .none, data := .fields #[] } ∧ K.lookup Pa = none ∧ PySem.W.CodeHd h c Pa ∧
      ∃ (f : Addr) (oc : Value) (od an : Option Addr) (osl : Array (Option Value)) (kV dc pm cd ct : Value), PySem.W.nsIn K mainGlobals "law" = some (some (.ref f)) ∧ K.lookup f = some ⟨oc, od, .func (PySem.W.fnOf "law" "law" (defArgs st) (defBody st) (defScope st) .none kV dc pm an cd ct), osl⟩ ∧
      PySem.W.codeIn K cd "law" = true ∧ PySem.W.keepIn K (.ref f) = true ∧
      (∀ (kV dc pm : Value) (an : Option Addr) (cd ct u : Value), bindArgs (PySem.W.fnOf "law" "law" (defArgs st) (defBody st) (defScope st) .none kV dc pm an cd ct) ⟨[u], []⟩ = pure [(("_law_script" : Str), u)]) ∧
      ∀ (base : Heap) (f : Addr) (fd : FuncData), LamX.TabB base mg c Pa → Fun K "law" "law" st f fd → FnOk P w K mg base CX0 230 f fd ["_law_script"] (spLawT K Pa) :=
  ⟨c, Pa, t1, t2, t3, f, oc, od, an, osl, kV, dc, pm, cd, ct, a, l, hc, k, b, G2⟩
theorem att_mk {K : PySem.W.Frag} {h : Heap} {mg : Str → Option Value} (X : K.In h) (G : h.Ns mainGlobals mg) {x : Str} {st : Stmt} {ps : List Str} {f c : Addr} {oc : Value} {od an : Option Addr} {osl : Array (Option Value)} {kV dc pm ct : Value}
    (a : PySem.W.nsIn K mainGlobals x = some (some (.ref f))) (l : K.lookup f = some ⟨oc, od, .func (PySem.W.fnOf x x (defArgs st) (defBody st) (defScope st) .none kV dc pm an (.ref c) ct), osl⟩) (hc : PySem.W.codeIn K (.ref c) x = true) (k : PySem.W.keepIn K (.ref f) = true)
    (b : ∀ (kV dc pm : Value) (an : Option Addr) (cd ct : Value) (us : List Value), us.length = ps.length → bindArgs (PySem.W.fnOf x x (defArgs st) (defBody st) (defScope st) .none kV dc pm an cd ct) ⟨us, []⟩ = pure (ps.zip us)) : AtT K mg x st ps c :=
  ⟨⟨f, oc, od, kV, dc, pm, an, ct, osl, PySem.W.mg_of X G a, k, l, hc, .all (b kV dc pm an (.ref c) ct)⟩⟩
theorem autoT_mk {K : PySem.W.Frag} {h : Heap} {mg : Str → Option Value} (X : K.In h) (G : h.Ns mainGlobals mg) {f c Pa : Addr} {oc : Value} {od an : Option Addr} {osl : Array (Option Value)} {kV dc pm ct : Value} (t1 : h.get? Pa = some { cls := .none, data := .fields #[] })
    (a : PySem.W.nsIn K mainGlobals "automaton" = some (some (.ref f))) (l : K.lookup f = some ⟨oc, od, .func (PySem.W.fnOf "automaton" "automaton" (defArgs s_automaton) (defBody s_automaton) (defScope s_automaton) .none kV dc pm an (.ref c) ct), osl⟩) (hc : PySem.W.codeIn K (.ref c) "automaton" = true) (k : PySem.W.keepIn K (.ref f) = true)
    (b : ∀ (kV dc pm : Value) (an : Option Addr) (cd ct : Value) (us : List Value), us.length = 2 → bindArgs (PySem.W.fnOf "automaton" "automaton" (defArgs s_automaton) (defBody s_automaton) (defScope s_automaton) .none kV dc pm an cd ct) ⟨us, []⟩ = pure ((["alphabet", "pattern"] : List Str).zip us))
    (t2 : K.lookup Pa = none) (t3 : PySem.W.codeHdIn K c Pa = true) : ∃ c Pa, h.get? Pa = some { cls := .none, data := .fields #[] } ∧ K.lookup Pa = none ∧ PySem.W.CodeHd h c Pa ∧ AtT K mg "automaton" s_automaton ["alphabet", "pattern"] c :=
  ⟨c, Pa, t1, t2, PySem.W.codeHd_of_K X t3, att_mk X G a l hc k b⟩
theorem exat_mk {K : PySem.W.Frag} {h : Heap} {mg : Str → Option Value} (X : K.In h) (G : h.Ns mainGlobals mg) {f Td : Addr} {oc cd : Value} {od an : Option Addr} {osl : Array (Option Value)} {kV dc pm ct : Value} {o : Obj} {its : Array Value} {n : Nat}
    (a : PySem.W.nsIn K mainGlobals "_explored" = some (some (.ref f)))
    (l : K.lookup f = some ⟨oc, od, .func (PySem.W.fnOf "_explored" "_explored" (defArgs s__explored) (defBody s__explored) (defScope s__explored) (.ref Td) kV dc pm an cd ct), osl⟩) (hc : PySem.W.codeIn K cd "_explored" = true) (k : PySem.W.keepIn K (.ref f) = true)
    (lT : K.lookup Td = some o) (oT : o.data = .seq its n) (hi : its = #[.none])
    (b : ∀ (T : Addr) (kV doc pm : Value) (an : Option Addr) (cdv ct u0 u1 : Value), ∃ kk : Option (Array Value) → Sem (List (Str × Value)), bindArgs (PySem.W.fnOf "_explored" "_explored" (defArgs s__explored) (defBody s__explored) (defScope s__explored) (.ref T) kV doc pm an cdv ct) ⟨[u0, u1], []⟩ = seqItems? (.ref T) >>= kk ∧
      kk (some #[.none]) = pure ((["first", "steps", "most"] : List Str).zip [u0, u1, .none])) : ExAt K mg := by
  subst hi
  refine ⟨⟨f, oc, od, _, kV, dc, pm, an, cd, ct, osl, PySem.W.mg_of X G a, k, l, hc, fun s u0 u1 Xs => ?_⟩⟩
  obtain ⟨kk, e1, e2⟩ := b Td kV dc pm an cd ct u0 u1
  refine BindsTo.of_looks fun M => ?_
  rw [e1]
  exact looks_items Xs lT oT (.of_pure e2)

end Cs
namespace Cs
open PySem L2
open PyProof.Rows (envOfC)
/-! TooLarge; automaton, all together -/
abbrev s_i_TooLarge : Stmt := inClass (topS 2) 0
theorem sc_i_TooLarge : FnScope ["self", "what"] ["self", "what"] (defScope s_i_TooLarge) := ⟨rfl, rfl, rfl, by decide +kernel, rfl, by decide +kernel, by decide +kernel⟩
section
variable {P : Program} {w : World} {K : PySem.W.Frag} {mg : Str → Option Value} {base : Heap}
theorem ok_i_TooLarge {C : Addr} (hO : OexC K C) (h0 : PySem.W.findIn K (.ref C) "what" = some none) {f : Addr} {fd : FuncData} (F : Fun K "__init__" "TooLarge.__init__" s_i_TooLarge f fd) : FnOk P w K mg base CX0 1 f fd ["self", "what"] (sp_init C ["what"]) := by
  refine F.ok (k := 0) sc_i_TooLarge (fun vs H Q E h => ?_) (fun cdv A outer s H vs Q E hr h => ?_)
  · obtain ⟨a, ys, rfl, hl, _⟩ := h
    obtain ⟨y, rfl⟩ := ys1 hl
    rfl
  · obtain ⟨a, ys, rfl, hl, ea, k⟩ := h
    obtain ⟨y, rfl⟩ := ys1 hl
    refine ⟨_, pss_one (ps_ost (pv 0) (pv 1)), ?_⟩
    walk_at "go"
    with_reducible refine rd_ost ?_
    walk_at "go"
    refine ⟨a, C, rfl, hO, h0, .inl ⟨ea, fun dx n1 n2 => ?_⟩⟩
    exact k dx _ n1 n2 upd_same (by rw [upd_ne n2, upd_same]; rfl) fun b b1 b2 => by rw [upd_ne b1, upd_ne b2]
end
section
variable {P : Program} {w : World} {K : PySem.W.Frag} {mg : Str → Option Value} {base : Heap}
theorem automaton_all (B : Blt mg) {C CT Pa c : Addr} {j : Nat} (M : MachAt K mg C) (TB : LamX.TabB base mg c Pa) (Fc : At K mg "_choice" s__choice ["pieces"]) (Fh : At K mg "_holds" s__holds ["verdict", "state"]) (Fn : At K mg "_numbered" s__numbered ["labels"]) (Fk : At K mg "_classes" s__classes ["rows", "marks"])
    (Fm : At K mg "_merged" s__merged ["rows", "marks", "classes"]) (Fe : ExAt K mg) (cM : ∃ u, mg "MOST_STATES" = some u ∧ RelV (.int 40) u) (N : NewAt P w K mg base "TooLarge" CT ["what"]) (F : AtT K mg "automaton" s_automaton ["alphabet", "pattern"] c) :
    CalX P w K mg base (j + 21) "automaton" ["alphabet", "pattern"] (sp_automaton CT Pa j) := by
  have Gi := ok_minit2 (n := 4) (j := j) (k := j + 16) M.T (judge_tower (P := P) (w := w) (base := base) B M Fc j) M.m0
  have Ga := ok_accepts (n := j) (k := j + 1) M.T (holds_tower (P := P) (w := w) (base := base) B Fh (j + 1)) M.m2
  have Gn := ok_numbered (P := P) (w := w) (base := base) B Fn
  exact ok_automaton B M.T TB (Gi.mkr M.mks M.kc M.g) (ok_step B M.T M.m1) (Ga.mono (by omega)) (ok_classes B Gn Fk) (ok_merged B Fm) Fe cM N F
end

end Cs
namespace Cs
open PySem L2
open PyProof.Rows (envOfC)
/-! the caught error: isinstance, a field -/
/-- isinstance of the caught error, with fields -/
def rIsX (K : PySem.W.Frag) (a : Addr) (cls : Value) (d : Option Addr) : List V → Hp → VK → Prop := fun xs H Q => ∃ (D dd : Addr) (fs : List (Str × V)) (c : V) (cv : Value) (b : Bool), xs = [.ref a, c] ∧ cls = .ref D ∧ d = some dd ∧ H dd = some (.xd fs) ∧ ExcC K D ∧ (∀ u, RelV c u → u = cv) ∧ PySem.W.kitOne K (.ref D) cv = some b ∧ Q (.bl b) H
theorem call_isX {X : Cx} {a : Addr} {oe : Obj} {cls : Value} {d : Option Addr} {pn : List (Addr × Obj)} (hz : Zc cls d oe) (hf : ∃ vs, oe.data = .fields vs) : CallR (X.suite a ((a, oe) :: pn)) (.builtin "isinstance") (rIsX X.K a cls d) := by
  intro pins s σ H xs us Q I r h
  obtain ⟨D, dd, fs, c, cv, b, rfl, rfl, rfl, ed, C, hcv, e, q⟩ := h
  cases r with
  | cons rx rr =>
    cases rr with
    | cons rt rr =>
      cases rr
      cases rx
      have ec := hcv _ rt
      subst ec
      obtain ⟨hget, _⟩ := I.pin (a, oe) (List.mem_append.mpr (.inl List.mem_cons_self))
      obtain ⟨vs, hd⟩ := hf
      have hx : ObjOk X.prog X.w H s.heap dd (.xd fs) := I.hok dd _ ed
      obtain ⟨mA, hns, hr⟩ := hx
      obtain ⟨od, ho, hl⟩ := lookIn_ns hns
      have J : PySem.W.InstAt s.heap a oe D (some od) := ⟨hget, hz.1, by unfold PySem.W.notCls; rw [hd] <;> rfl, by rw [hz.2]; exact ho⟩
      have cls : (PySem.W.clsIn X.K D).isSome = true := by
        obtain ⟨cd, hc, _⟩ := PySem.W.any_some C.hd
        rw [hc]; rfl
      exact PySem.W.kia_one (PySem.W.kitx_exc cls C.hg C.hk C.hs C.ha C.hn C.ht C.hm) I.kIn J e (fun z => nomatch z) fun tk => ⟨.bl b, H, I.kept (t' := tk) fun _ _ z => z, rfl, q⟩
theorem rd_xf {a : Addr} {cls : Value} {d : Option Addr} {C : Addr} {f : Str} {te : TE} {σ : St} {H : Hp} {Q : VK} (h : te σ H fun x H1 => x = .ref a ∧ cls = .ref C ∧ ∃ (dd : Addr) (fs : List (Str × V)) (v : V), d = some dd ∧ H1 dd = some (.xd fs) ∧ fs.lookup f = some v ∧ Q v H1) : tXf a cls d C f te σ H Q := h

end Cs
namespace Cs
open PySem L2
open PyProof.Rows (envOfC)
/-! an automaton as a value: its rows and marks -/
structure AutAt (H : Hp) (tr tm : Addr) (rs : List Addr) (k N : Nat) (e : Nat → Nat → Nat) (m : Nat → Bool) : Prop where
  r : H tr = some (.tup (rs.map V.ref))
  len : rs.length = N
  row : ∀ (a : Nat) (x : Addr), rs[a]? = some x → H x = some (.tup (iV ((List.range k).map (e a))))
  m : H tm = some (.tup ((List.range N).map fun a => V.bl (m a)))
theorem AutAt.ts {H H' : Hp} {tr tm : Addr} {rs : List Addr} {k N : Nat} {e : Nat → Nat → Nat} {m : Nat → Bool} (s : TS H H') (h : AutAt H tr tm rs k N e m) : AutAt H' tr tm rs k N e m := ⟨s _ _ h.r, h.len, fun a x q => s _ _ (h.row a x q), s _ _ h.m⟩
theorem tpI_inv {H : Hp} : ∀ {ns : List Nat} {vs : List V}, TpAll H vs (iD ns) → vs = iV ns
  | [], _, h => h.nilE
  | n :: ns, _, h => by
    obtain ⟨x, ys, rfl, h1, h2⟩ := h.consE
    rw [h1.intE, tpI_inv h2]; rfl
theorem tpB_inv {H : Hp} : ∀ {bs : List Bool} {vs : List V}, TpAll H vs (bs.map PyData.bool) → vs = bs.map V.bl
  | [], _, h => h.nilE
  | b :: bs, _, h => by
    obtain ⟨x, ys, rfl, h1, h2⟩ := h.consE
    have e : x = .bl b := by cases h1; rfl
    rw [e, tpB_inv h2]; rfl
theorem tpR_inv {H : Hp} (f : Nat → List Nat) : ∀ {as : List Nat} {vs : List V}, TpAll H vs (as.map fun a => .tuple (iD (f a))) → ∃ rs : List Addr, vs = rs.map V.ref ∧ rs.length = as.length ∧ ∀ (j : Nat) (t : Addr) (a : Nat), rs[j]? = some t → as[j]? = some a → H t = some (.tup (iV (f a)))
  | [], _, h => ⟨[], h.nilE, rfl, fun j t a e => by simp at e⟩
  | a :: as, _, h => by
    obtain ⟨x, ys, rfl, h1, h2⟩ := h.consE
    obtain ⟨p, xs, rfl, e1, t1⟩ := h1.tupE
    obtain ⟨rs, rfl, l, k⟩ := tpR_inv f h2
    rw [tpI_inv t1] at e1
    refine ⟨p :: rs, rfl, by simp [l], fun j t b q1 q2 => ?_⟩
    cases j with
    | zero =>
      simp at q1 q2
      subst q1 q2
      exact e1
    | succ j => exact k j t b (by simpa using q1) (by simpa using q2)
theorem dA_open {H : Hp} {t : Addr} {k N : Nat} {e : Nat → Nat → Nat} {m : Nat → Bool} (h : Tp H (.ref t) (dA k N e m)) : ∃ (tr tm : Addr) (rs : List Addr), H t = some (.tup [.ref tr, .ref tm]) ∧ AutAt H tr tm rs k N e m := by
  unfold dA at h
  obtain ⟨a, xs, ea, e0, tx⟩ := h.tupE
  cases ea
  obtain ⟨x, ys, rfl, h1, tx⟩ := tx.consE
  obtain ⟨y, zs, rfl, h2, tx⟩ := tx.consE
  rw [tx.nilE] at e0
  obtain ⟨tr, xs, rfl, e1, t1⟩ := h1.tupE
  obtain ⟨tm, ys, rfl, e2, t2⟩ := h2.tupE
  obtain ⟨rs, rfl, l, kr⟩ := tpR_inv (fun a => (List.range k).map (e a)) t1
  have t2 : TpAll H ys (((List.range N).map m).map PyData.bool) := by rw [List.map_map]; exact t2
  rw [tpB_inv t2, List.map_map] at e2
  refine ⟨tr, tm, rs, e0, e1, by simpa using l, fun a x q => ?_, e2⟩
  have ha := (List.getElem?_eq_some_iff.mp q).1
  rw [l, List.length_range] at ha
  exact kr a x a q (by rw [List.getElem?_range ha])
theorem AutAt.rowR {H : Hp} {tr tm : Addr} {rs : List Addr} {k N : Nat} {e : Nat → Nat → Nat} {m : Nat → Bool} (h : AutAt H tr tm rs k N e m) {a : Nat} (ha : a < N) : ∃ x, rs[a]? = some x ∧ (rs.map V.ref)[a]? = some (.ref x) ∧ H x = some (.tup (iV ((List.range k).map (e a)))) := by
  have hl := h.len
  have q := List.getElem?_eq_getElem (l := rs) (i := a) (by omega)
  exact ⟨_, q, by rw [List.getElem?_map, q]; rfl, h.row a _ q⟩

end Cs
namespace Cs
open PySem L2
open PyProof.Rows (envOfC)
/-! a walk over states that texts tell apart is least and in standard order -/
section
variable {α β : Type} [DecidableEq α] {k : Nat} {δ : α → Nat → α} {acc : α → β} {s0 : α} {ss : List α} {rows : List (List Nat)}
theorem markR_at {i : Nat} {x : α} (h : ss[i]? = some x) : markR acc s0 ss i = acc x := by
  show acc (ss.getD i s0) = _
  rw [List.getD_eq_getElem?_getD, h]; rfl
theorem walk_std (W : Wk k (stepsK k δ) s0 ss rows) (en : rows.length = ss.length) (apart : ∀ x ∈ ss, ∀ y ∈ ss, (∀ w, Ov k w → acc (w.foldl δ x) = acc (w.foldl δ y)) → x = y) :
    Std k ss.length (entR rows) (markR acc s0 ss) (fun w => acc (w.foldl δ s0)) := by
  have B : Bf k ss.length (entR rows) := W.bf en
  refine ⟨B.pos, B.lt, fun w hw => ?_, fun i j hi hj h => ?_, B.fresh, B.met⟩
  · exact markR_at (W.run en w 0 s0 hw W.zero)
  · have ei := List.getElem?_eq_getElem hi
    have ej := List.getElem?_eq_getElem hj
    have e := apart _ (List.getElem_mem hi) _ (List.getElem_mem hj) fun w hw => by
      have q := h w hw
      rw [markR_at (W.run en w i _ hw ei), markR_at (W.run en w j _ hw ej)] at q
      exact q
    have pw := List.pairwise_iff_getElem.mp W.nd
    rcases Nat.lt_trichotomy i j with l | l | l
    · exact absurd e (pw i j hi hj l)
    · exact l
    · exact absurd e.symm (pw j i hj hi l)
end
/-! classes named by the first state of each (what `index` gives) -/
section
variable {α : Type} [DecidableEq α] {k n : Nat} {e : Nat → Nat → Nat} {m : Nat → α}
def firstF {γ : Type} [DecidableEq γ] (l : List γ) : List Nat := l.map fun x => l.idxOf x
theorem firstF_eq {γ : Type} [DecidableEq γ] {l : List γ} {i j : Nat} (hi : i < l.length) (hj : j < l.length) : (firstF l).getD i 0 = (firstF l).getD j 0 ↔ l[i] = l[j] := by
  have g : ∀ i (h : i < l.length), (firstF l).getD i 0 = l.idxOf l[i] := fun i h => by
    rw [List.getD_eq_getElem?_getD, firstF, List.getElem?_map, List.getElem?_eq_getElem h]; rfl
  rw [g i hi, g j hj]
  constructor
  · intro q
    have h1 := List.getElem_idxOf (List.idxOf_lt_length_iff.mpr (List.getElem_mem hi))
    have h2 := List.getElem_idxOf (List.idxOf_lt_length_iff.mpr (List.getElem_mem hj))
    rw [← h1, ← h2]
    simp only [q]
  · intro q; rw [q]
theorem firstF_lt {γ : Type} [DecidableEq γ] {l : List γ} {i : Nat} (hi : i < l.length) : (firstF l).getD i 0 < l.length ∧ l[(firstF l).getD i 0]? = some l[i] := by
  have g : (firstF l).getD i 0 = l.idxOf l[i] := by
    rw [List.getD_eq_getElem?_getD, firstF, List.getElem?_map, List.getElem?_eq_getElem hi]; rfl
  have h := List.idxOf_lt_length_iff.mpr (List.getElem_mem hi)
  rw [g]
  exact ⟨h, by rw [List.getElem?_eq_getElem h, List.getElem_idxOf h]⟩
end

end Cs
namespace Cs
open PySem L2
open PyProof.Rows (envOfC)
/-! automata whose size is reckoned: a walk that is run -/
section
variable {α : Type} [DecidableEq α]
def bfsF (st : α → List α) : Nat → List α → List (List Nat) → List α × List (List Nat)
  | 0, ss, rows => (ss, rows)
  | f + 1, ss, rows => match ss[rows.length]? with
    | none => (ss, rows)
    | some x => bfsF st f (addNew ss (st x)) (rows ++ [(st x).map (addNew ss (st x)).idxOf])
theorem bfs_wk {k : Nat} {st : α → List α} {s0 : α} (hk : ∀ x, (st x).length = k) : ∀ (f : Nat) (ss : List α) (rows : List (List Nat)), Wk k st s0 ss rows → Wk k st s0 (bfsF st f ss rows).1 (bfsF st f ss rows).2
  | 0, ss, rows, W => W
  | f + 1, ss, rows, W => by
    rw [bfsF]
    cases e : ss[rows.length]? with
    | none => exact W
    | some x => exact bfs_wk hk f _ _ (W.next e (hk x))
/-- a walk that ends, and whose states are told apart by some words -/
theorem bfs_std {k : Nat} {δ : α → Nat → α} {acc : α → Bool} {s0 : α} {f N : Nat} {ws : List (List Nat)} (hw : ∀ w ∈ ws, Ov k w) (h1 : (bfsF (stepsK k δ) f [s0] []).1.length = N) (h2 : (bfsF (stepsK k δ) f [s0] []).2.length = N)
    {sig : α → Nat} (hs : ∀ x y, (∀ w ∈ ws, acc (w.foldl δ x) = acc (w.foldl δ y)) → sig x = sig y) (h3 : ((bfsF (stepsK k δ) f [s0] []).1.map sig).Nodup) : ∃ e m, Std k N e m (fun w => acc (w.foldl δ s0)) := by
  have W := bfs_wk (k := k) (st := stepsK k δ) (s0 := s0) (fun x => by simp) f [s0] [] Wk.first
  have S := walk_std (acc := acc) W (by rw [h1, h2]) fun x hx y hy h => by
    obtain ⟨i, hi⟩ := List.mem_iff_getElem?.mp hx
    obtain ⟨j, hj⟩ := List.mem_iff_getElem?.mp hy
    have il := (List.getElem?_eq_some_iff.mp hi).1
    have jl := (List.getElem?_eq_some_iff.mp hj).1
    have es : sig x = sig y := hs x y fun w hw' => h w (hw w hw')
    have pw := List.pairwise_iff_getElem.mp h3
    have ex : ∀ (i : Nat) (x : α) (hi : i < (bfsF (stepsK k δ) f [s0] []).1.length) (hl : i < ((bfsF (stepsK k δ) f [s0] []).1.map sig).length), (bfsF (stepsK k δ) f [s0] []).1[i]? = some x → ((bfsF (stepsK k δ) f [s0] []).1.map sig)[i] = sig x := fun i x hi hl e => by
      rw [List.getElem_map]
      rw [List.getElem?_eq_getElem hi] at e
      rw [Option.some.inj e]
    rcases Nat.lt_trichotomy i j with q | q | q
    · exact absurd ((ex i x il (by simpa using il) hi).trans (es.trans (ex j y jl (by simpa using jl) hj).symm)) (pw i j (by simpa using il) (by simpa using jl) q)
    · subst q
      rw [hi] at hj
      exact Option.some.inj hj
    · exact absurd ((ex j y jl (by simpa using jl) hj).trans (es.symm.trans (ex i x il (by simpa using il) hi).symm)) (pw j i (by simpa using jl) (by simpa using il) q)
  rw [h1] at S
  exact ⟨_, _, S⟩
end
/-- the other marks -/
theorem Std.neg {k N : Nat} {e : Nat → Nat → Nat} {m L : _ → Bool} (S : Std k N e m L) : Std k N e (fun a => !m a) (fun w => !L w) :=
  ⟨S.pos, S.lt, fun w hw => by rw [S.lang w hw], fun i j hi hj h => S.apart i j hi hj fun w hw => by
    have := h w hw
    cases h1 : m (w.foldl e i) <;> cases h2 : m (w.foldl e j) <;> simp [h1, h2] at this ⊢, S.fresh, S.met⟩
/-! the automaton of the texts over x and y with an x at the place s from the end, then c; or with x alone (ev: an even number of them), then e -/
/-- a state as a number: 16 * window + 4 * flag, or 1: read, or 2: dead -/
def δ7 (s ev : Nat) (q : Nat) (c : Nat) : Nat :=
  if q % 4 = 0 then
    (if c = 0 then ((2 * (q / 16) + 1) % 2 ^ (s + 1)) * 16 + (if q / 4 % 4 = 0 then 0 else if ev = 0 then 1 else 3 - q / 4 % 4) * 4
    else if c = 1 then ((2 * (q / 16)) % 2 ^ (s + 1)) * 16
    else if c = 2 then (if (q / 16).testBit s then 1 else 2)
    else if c = 3 then (if q / 4 % 4 = 1 then 1 else 2)
    else 2)
  else 2
def acc7 (q : Nat) : Bool := q == 1
def ws7 (s : Nat) : List (List Nat) := [[], [3], [0, 3], 0 :: (List.replicate s 1 ++ [2])] ++ (List.range (s + 1)).map fun j => List.replicate j 1 ++ [2]
def due7 (s ev : Nat) : Nat := 2 ^ (s + 1) + (s + 2 + ev) + 2
def sig7 (s ev : Nat) (ws : List (List Nat)) (x : Nat) : Nat := ws.foldl (fun n w => 2 * n + if acc7 (w.foldl (δ7 s ev) x) then 1 else 0) 0
theorem sig7_eq {s ev x y : Nat} : ∀ (ws : List (List Nat)) (n : Nat), (∀ w ∈ ws, acc7 (w.foldl (δ7 s ev) x) = acc7 (w.foldl (δ7 s ev) y)) → ws.foldl (fun n w => 2 * n + if acc7 (w.foldl (δ7 s ev) x) then 1 else 0) n = ws.foldl (fun n w => 2 * n + if acc7 (w.foldl (δ7 s ev) y) then 1 else 0) n
  | [], _, _ => rfl
  | w :: ws, n, h => by
    rw [List.foldl_cons, List.foldl_cons, h w List.mem_cons_self]
    exact sig7_eq ws _ fun u hu => h u (List.mem_cons_of_mem _ hu)
def ok7 (k s ev : Nat) : Bool :=
  let r := bfsF (stepsK k (δ7 s ev)) 80 [4] []
  decide (r.1.length = due7 s ev) && (decide (r.2.length = due7 s ev) && decide ((r.1.map (sig7 s ev (ws7 s))).Nodup))
def all7 (k : Nat) : List (Nat × Nat × Nat) := ([0, 1, 2, 3, 4].flatMap fun s => [(k, s, 0), (k, s, 1)]) ++ [(k, 5, 0)]
theorem all7_4 : (all7 4).all (fun t => ok7 t.1 t.2.1 t.2.2) = true := by decide +kernel
theorem all7_5 : (all7 5).all (fun t => ok7 t.1 t.2.1 t.2.2) = true := by decide +kernel
theorem all7_6 : (all7 6).all (fun t => ok7 t.1 t.2.1 t.2.2) = true := by decide +kernel
theorem ws7_ov {k s : Nat} (hk : 4 ≤ k) : ∀ w ∈ ws7 s, Ov k w := fun w hw c hc => by
  have hc4 : c < 4 := by
    unfold ws7 at hw
    rcases List.mem_append.mp hw with hw | hw
    · simp only [List.mem_cons, List.not_mem_nil, or_false] at hw
      rcases hw with rfl | rfl | rfl | rfl
      · cases hc
      · simp at hc; omega
      · simp at hc; omega
      · rcases List.mem_cons.mp hc with hc | hc
        · omega
        rcases List.mem_append.mp hc with hc | hc
        · have := (List.mem_replicate.mp hc).2; omega
        · simp at hc; omega
    · obtain ⟨j, _, rfl⟩ := List.mem_map.mp hw
      rcases List.mem_append.mp hc with hc | hc
      · have := (List.mem_replicate.mp hc).2; omega
      · simp at hc; omega
  omega
theorem std7 {k s ev : Nat} (hk : k = 4 ∨ k = 5 ∨ k = 6) (h : (s < 5 ∧ ev < 2) ∨ (s = 5 ∧ ev = 0)) : ∃ e m, Std k (due7 s ev) e m (fun w => acc7 (w.foldl (δ7 s ev) 4)) := by
  have hok : ok7 k s ev = true := by
    have mem : ∀ k, (k, s, ev) ∈ all7 k := fun k => by
      unfold all7
      rcases h with ⟨h1, h2⟩ | ⟨rfl, rfl⟩
      · refine List.mem_append.mpr (.inl (List.mem_flatMap.mpr ⟨s, by simp; omega, ?_⟩))
        have : ev = 0 ∨ ev = 1 := by omega
        rcases this with rfl | rfl <;> simp
      · simp
    rcases hk with rfl | rfl | rfl
    · have q := List.all_eq_true.mp all7_4 (4, s, ev) (mem 4)
      dsimp only at q
      exact q
    · have q := List.all_eq_true.mp all7_5 (5, s, ev) (mem 5)
      dsimp only at q
      exact q
    · have q := List.all_eq_true.mp all7_6 (6, s, ev) (mem 6)
      dsimp only at q
      exact q
  unfold ok7 at hok
  simp only [Bool.and_eq_true, decide_eq_true_eq] at hok
  have hk4 : 4 ≤ k := by rcases hk with rfl | rfl | rfl <;> decide
  obtain ⟨h1, h2, h3⟩ := hok
  exact bfs_std (ws := ws7 s) (sig := sig7 s ev (ws7 s)) (ws7_ov hk4) h1 h2 (fun x y q => sig7_eq _ 0 q) h3

end Cs
namespace Cs
open PySem L2
open PyProof.Rows (envOfC)
/-! which texts the automaton reads, and which ones the pattern matches -/
def win7 (s : Nat) (u : List Nat) : Nat := u.foldl (fun n c => (2 * n + if c = 0 then 1 else 0) % 2 ^ (s + 1)) 0
def fl7 (ev : Nat) (u : List Nat) : Nat := if (∀ c ∈ u, c = 0) then (if ev = 0 then 1 else if u.length % 2 = 0 then 1 else 2) else 0
abbrev st7 (s ev : Nat) (w : List Nat) : Nat := w.foldl (δ7 s ev) 4
theorem snoc_ind {α : Type} {C : List α → Prop} (h0 : C []) (h1 : ∀ u c, C u → C (u ++ [c])) : ∀ w, C w := fun w => by
  have : ∀ r : List α, C r.reverse := fun r => by
    induction r with
    | nil => exact h0
    | cons c r ih => rw [List.reverse_cons]; exact h1 _ _ ih
  have := this w.reverse
  rwa [List.reverse_reverse] at this
theorem win7_bit (s : Nat) : ∀ (u : List Nat) (j : Nat), j ≤ s → ((win7 s u).testBit j = true ↔ u.reverse[j]? = some 0) := by
  refine snoc_ind (fun j _ => by simp [win7]) fun u c ih j hj => ?_
  have e : win7 s (u ++ [c]) = (2 * win7 s u + if c = 0 then 1 else 0) % 2 ^ (s + 1) := by unfold win7; rw [List.foldl_append]; rfl
  rw [e, Nat.testBit_mod_two_pow, List.reverse_append]
  have hlt : decide (j < s + 1) = true := decide_eq_true (by omega)
  rw [hlt, Bool.true_and]
  cases j with
  | zero =>
    rw [Nat.testBit_zero]
    by_cases h : c = 0
    · subst h; simp
    · simp [h]
  | succ j =>
    rw [Nat.testBit_succ, show (2 * win7 s u + if c = 0 then 1 else 0) / 2 = win7 s u by split <;> omega, ih j (by omega)]
    simp
theorem st7_low {s ev : Nat} (hev : ev < 2) : ∀ w : List Nat, (∀ c ∈ w, c < 2) → st7 s ev w = win7 s w * 16 + fl7 ev w * 4 := by
  refine snoc_ind (fun _ => by simp [win7, fl7, st7]) fun u c ih h => ?_
  have hu : ∀ d ∈ u, d < 2 := fun d hd => h d (List.mem_append.mpr (.inl hd))
  have hc := h c (List.mem_append.mpr (.inr List.mem_cons_self))
  have e1 : st7 s ev (u ++ [c]) = δ7 s ev (st7 s ev u) c := by unfold st7; rw [List.foldl_append]; rfl
  have e2 : win7 s (u ++ [c]) = (2 * win7 s u + if c = 0 then 1 else 0) % 2 ^ (s + 1) := by unfold win7; rw [List.foldl_append]; rfl
  have hf : fl7 ev u ≤ 2 := by unfold fl7; split; split; omega; split <;> omega; omega
  rw [e1, ih hu, e2]
  generalize win7 s u = W at *
  generalize hF : fl7 ev u = F at *
  have q1 : (W * 16 + F * 4) % 4 = 0 := by omega
  have q2 : (W * 16 + F * 4) / 16 = W := by omega
  have q3 : (W * 16 + F * 4) / 4 % 4 = F := by omega
  unfold δ7
  rw [if_pos q1, q2, q3]
  rcases (by omega : c = 0 ∨ c = 1) with rfl | rfl
  · rw [if_pos rfl, if_pos rfl]
    have : fl7 ev (u ++ [0]) = if F = 0 then 0 else if ev = 0 then 1 else 3 - F := by
      rw [← hF]
      unfold fl7
      by_cases h0 : ∀ c ∈ u, c = 0
      · have h1 : ∀ c ∈ u ++ [0], c = 0 := fun c hc => by
          rcases List.mem_append.mp hc with hc | hc
          · exact h0 c hc
          · exact List.mem_singleton.mp hc
        rw [if_pos h0, if_pos h1, List.length_append, List.length_singleton]
        by_cases e : ev = 0
        · simp [e]
        · rw [if_neg e, if_neg e, if_neg e]
          by_cases l : u.length % 2 = 0
          · have l2 : ¬ (u.length + 1) % 2 = 0 := by omega
            rw [if_pos l, if_neg l2]; rfl
          · have l2 : (u.length + 1) % 2 = 0 := by omega
            rw [if_neg l, if_pos l2]; rfl
      · have h1 : ¬ ∀ c ∈ u ++ [0], c = 0 := fun q => h0 fun c hc => q c (List.mem_append.mpr (.inl hc))
        rw [if_neg h0, if_neg h1, if_pos rfl]
    rw [this]
  · rw [if_neg (by decide), if_pos rfl]
    have : fl7 ev (u ++ [1]) = 0 := by
      unfold fl7
      rw [if_neg fun q => by
        have := q 1 (List.mem_append.mpr (.inr List.mem_cons_self))
        omega]
    rw [this]
    simp
theorem st7_high {s ev : Nat} (hev : ev < 2) : ∀ w : List Nat, ¬ (∀ c ∈ w, c < 2) → st7 s ev w = 1 ∨ st7 s ev w = 2 := by
  refine snoc_ind (fun h => absurd (fun c hc => by cases hc) h) fun u c ih h => ?_
  have e1 : st7 s ev (u ++ [c]) = δ7 s ev (st7 s ev u) c := by unfold st7; rw [List.foldl_append]; rfl
  rw [e1]
  by_cases hu : ∀ d ∈ u, d < 2
  · have hc : ¬ c < 2 := fun q => h fun d hd => by
      rcases List.mem_append.mp hd with hd | hd
      · exact hu d hd
      · rw [List.mem_singleton.mp hd]; exact q
    have hf : fl7 ev u ≤ 2 := by unfold fl7; split; split; omega; split <;> omega; omega
    rw [st7_low hev u hu]
    unfold δ7
    rw [if_pos (by omega), if_neg (by omega), if_neg (by omega)]
    split
    · split <;> simp
    · split
      · split <;> simp
      · simp
  · unfold δ7
    rcases ih hu with q | q <;> rw [q] <;> simp
theorem acc7_iff {s ev : Nat} (hev : ev < 2) (w : List Nat) : acc7 (st7 s ev w) = true ↔ ∃ u c, w = u ++ [c] ∧ (∀ d ∈ u, d < 2) ∧ ((c = 2 ∧ u.reverse[s]? = some 0) ∨ (c = 3 ∧ (∀ d ∈ u, d = 0) ∧ (ev = 1 → u.length % 2 = 0))) := by
  refine snoc_ind (C := fun w => acc7 (st7 s ev w) = true ↔ ∃ u c, w = u ++ [c] ∧ (∀ d ∈ u, d < 2) ∧ ((c = 2 ∧ u.reverse[s]? = some 0) ∨ (c = 3 ∧ (∀ d ∈ u, d = 0) ∧ (ev = 1 → u.length % 2 = 0)))) ?_ (fun u c _ => ?_) w
  · constructor
    · intro h; simp [acc7, st7] at h
    · rintro ⟨u, c, e, _⟩; simp at e
  · have e1 : st7 s ev (u ++ [c]) = δ7 s ev (st7 s ev u) c := by unfold st7; rw [List.foldl_append]; rfl
    have inj : ∀ {u' : List Nat} {c' : Nat}, u ++ [c] = u' ++ [c'] → u = u' ∧ c = c' := fun e => by
      have := List.append_inj' e rfl
      exact ⟨this.1, by simpa using this.2⟩
    have hf : fl7 ev u ≤ 2 := by unfold fl7; split; split; omega; split <;> omega; omega
    have hf1 : fl7 ev u = 1 ↔ (∀ d ∈ u, d = 0) ∧ (ev = 1 → u.length % 2 = 0) := by
      unfold fl7
      by_cases h0 : ∀ c ∈ u, c = 0
      · rw [if_pos h0]
        by_cases e : ev = 0
        · rw [if_pos e]; exact ⟨fun _ => ⟨h0, fun q => by omega⟩, fun _ => rfl⟩
        · rw [if_neg e]
          by_cases l : u.length % 2 = 0
          · rw [if_pos l]; exact ⟨fun _ => ⟨h0, fun _ => l⟩, fun _ => rfl⟩
          · rw [if_neg l]; exact ⟨fun q => by omega, fun ⟨_, q⟩ => absurd (q (by omega)) l⟩
      · rw [if_neg h0]; exact ⟨fun q => by omega, fun ⟨q, _⟩ => absurd q h0⟩
    have hb := win7_bit s u s (Nat.le_refl _)
    rw [e1]
    by_cases hu : ∀ d ∈ u, d < 2
    · rw [st7_low hev u hu]
      generalize win7 s u = W at *
      generalize fl7 ev u = F at *
      have q1 : (W * 16 + F * 4) % 4 = 0 := by omega
      have q2 : (W * 16 + F * 4) / 16 = W := by omega
      have q3 : (W * 16 + F * 4) / 4 % 4 = F := by omega
      unfold δ7
      rw [if_pos q1, q2, q3]
      have key : (∃ u' c', u ++ [c] = u' ++ [c'] ∧ (∀ d ∈ u', d < 2) ∧ ((c' = 2 ∧ u'.reverse[s]? = some 0) ∨ (c' = 3 ∧ (∀ d ∈ u', d = 0) ∧ (ev = 1 → u'.length % 2 = 0)))) ↔ ((c = 2 ∧ W.testBit s = true) ∨ (c = 3 ∧ F = 1)) := by
        rw [hb, hf1]
        constructor
        · rintro ⟨u', c', e, _, h⟩
          obtain ⟨rfl, rfl⟩ := inj e
          exact h
        · intro h
          exact ⟨u, c, rfl, hu, h⟩
      rw [key]
      unfold acc7
      by_cases c0 : c = 0
      · subst c0
        rw [if_pos rfl]
        constructor
        · intro h
          have h := eq_of_beq h
          exfalso
          generalize (2 * W + 1) % 2 ^ (s + 1) = A at h
          split at h
          · omega
          · split at h <;> omega
        · intro h; omega
      by_cases c1 : c = 1
      · subst c1
        rw [if_neg c0, if_pos rfl]
        constructor
        · intro h
          have h := eq_of_beq h
          exfalso
          generalize (2 * W) % 2 ^ (s + 1) = A at h
          omega
        · intro h; omega
      rw [if_neg c0, if_neg c1]
      by_cases c2 : c = 2
      · subst c2
        rw [if_pos rfl]
        cases h : W.testBit s <;> simp
      rw [if_neg c2]
      by_cases c3 : c = 3
      · subst c3
        rw [if_pos rfl]
        by_cases h : F = 1 <;> simp [h]
      rw [if_neg c3]
      simp [c2, c3]
    · have := st7_high (s := s) hev u hu
      constructor
      · intro h
        exfalso
        unfold δ7 at h
        rcases this with q | q <;> rw [q] at h <;> simp [acc7] at h
      · rintro ⟨u', c', e, hu', _⟩
        obtain ⟨rfl, rfl⟩ := inj e
        exact absurd hu' hu
/-! the pattern -/
theorem pw_set {cs : List Nat} : ∀ {n : Nat} {w : List Nat}, Pw (Pt.set cs).L n w ↔ w.length = n ∧ ∀ c ∈ w, c ∈ cs
  | 0, w => by
    constructor
    · intro h
      have h : w = [] := h
      subst h
      exact ⟨rfl, fun c hc => by cases hc⟩
    · rintro ⟨h, _⟩
      exact List.length_eq_zero_iff.mp h
  | n + 1, w => by
    constructor
    · rintro ⟨u, v, rfl, hu, hv⟩
      rw [Pt.L] at hu
      obtain ⟨c, hc, rfl⟩ := hu
      obtain ⟨h1, h2⟩ := pw_set.mp hv
      refine ⟨by simp [h1], fun d hd => ?_⟩
      rcases List.mem_cons.mp hd with rfl | hd
      · exact hc
      · exact h2 d hd
    · rintro ⟨h1, h2⟩
      match w, h1 with
      | c :: w, h1 =>
        refine ⟨[c], w, rfl, ?_, pw_set.mpr ⟨by simpa using h1, fun d hd => h2 d (List.mem_cons_of_mem _ hd)⟩⟩
        rw [Pt.L]
        exact ⟨c, h2 c List.mem_cons_self, rfl⟩
theorem star_set {cs w : List Nat} : (Pt.again (.set cs) 0 none).L w ↔ ∀ c ∈ w, c ∈ cs := by
  rw [Pt.L]
  constructor
  · rintro ⟨n, _, _, h⟩
    exact (pw_set.mp h).2
  · intro h
    exact ⟨w.length, Nat.zero_le _, (fun h e => nomatch e), pw_set.mpr ⟨rfl, h⟩⟩
theorem pw_two {X : Nat} : ∀ {n : Nat} {w : List Nat}, Pw (Pt.row [.set [X], .set [X]]).L n w ↔ w.length = 2 * n ∧ ∀ c ∈ w, c = X
  | 0, w => by
    constructor
    · intro h
      have h : w = [] := h
      subst h
      exact ⟨rfl, fun c hc => by cases hc⟩
    · rintro ⟨h, _⟩
      exact List.length_eq_zero_iff.mp (by omega)
  | n + 1, w => by
    constructor
    · rintro ⟨u, v, rfl, hu, hv⟩
      simp only [Pt.L, Pt.LRow] at hu
      obtain ⟨a, b, rfl, ⟨c, hc, rfl⟩, d, e, rfl, ⟨c', hc', rfl⟩, rfl⟩ := hu
      obtain ⟨h1, h2⟩ := pw_two.mp hv
      have hc := List.mem_singleton.mp hc
      have hc' := List.mem_singleton.mp hc'
      refine ⟨by simp [h1]; omega, fun d hd => ?_⟩
      simp only [List.append_nil, List.cons_append, List.nil_append, List.mem_cons] at hd
      rcases hd with rfl | rfl | hd
      · exact hc
      · exact hc'
      · exact h2 d hd
    · rintro ⟨h1, h2⟩
      match w, h1 with
      | a :: b :: w, h1 =>
        have ha := h2 a (by simp)
        have hb := h2 b (by simp)
        refine ⟨[a, b], w, rfl, ?_, pw_two.mpr ⟨by simp at h1; omega, fun d hd => h2 d (by simp [hd])⟩⟩
        simp only [Pt.L, Pt.LRow]
        exact ⟨[a], [b], rfl, ⟨a, by simp [ha], rfl⟩, [b], [], rfl, ⟨b, by simp [hb], rfl⟩, rfl⟩
def ag7 (X ev : Nat) : Pt := if ev = 0 then .set [X] else .row [.set [X], .set [X]]
def first7 (X Y C s : Nat) : List Pt := [.again (.set [X, Y]) 0 none, .set [X]] ++ List.replicate s (.set [X, Y]) ++ [.set [C]]
def P7 (X Y C E s ev : Nat) : Pt := .any [.row (first7 X Y C s), .row [.again (ag7 X ev) 0 none, .set [E]]]
theorem ag7_L {X ev : Nat} (hev : ev < 2) {u : List Nat} : (Pt.again (ag7 X ev) 0 none).L u ↔ (∀ c ∈ u, c = X) ∧ (ev = 1 → u.length % 2 = 0) := by
  unfold ag7
  by_cases e : ev = 0
  · rw [if_pos e, star_set]
    simp only [List.mem_singleton]
    exact ⟨fun h => ⟨h, fun q => by omega⟩, fun h => h.1⟩
  · rw [if_neg e, Pt.L]
    constructor
    · rintro ⟨n, _, _, h⟩
      obtain ⟨h1, h2⟩ := pw_two.mp h
      exact ⟨h2, fun _ => by omega⟩
    · rintro ⟨h1, h2⟩
      have h2 := h2 (by omega)
      exact ⟨u.length / 2, Nat.zero_le _, (fun h e => nomatch e), pw_two.mpr ⟨by omega, h1⟩⟩
theorem first7_L {X Y C s : Nat} {w : List Nat} : (Pt.row (first7 X Y C s)).L w ↔ ∃ u v, w = u ++ X :: v ++ [C] ∧ v.length = s ∧ (∀ c ∈ u, c = X ∨ c = Y) ∧ ∀ c ∈ v, c = X ∨ c = Y := by
  have m2 : ∀ {u : List Nat}, (∀ c ∈ u, c ∈ [X, Y]) ↔ ∀ c ∈ u, c = X ∨ c = Y := fun {u} => by simp
  rw [Pt.L, Pt.LRow_eq]
  unfold first7
  rw [List.map_append, List.map_append, List.map_replicate, RowL_app]
  constructor
  · rintro ⟨a, b, rfl, ha, hb⟩
    obtain ⟨a1, a2, rfl, h1, h2⟩ := (RowL_app _ _ _).mp ha
    simp only [List.map_cons, List.map_nil, RowL] at h1 hb
    obtain ⟨u, r, rfl, hu, x, r', rfl, hx, rfl⟩ := h1
    rw [Pt.L] at hx
    obtain ⟨c, hc, rfl⟩ := hx
    obtain ⟨z, r2, rfl, hz, rfl⟩ := hb
    rw [Pt.L] at hz
    obtain ⟨c', hc', rfl⟩ := hz
    rw [List.mem_singleton] at hc hc'
    subst hc hc'
    obtain ⟨l, q⟩ := pw_set.mp ((RowL_rep _ _ _).mp h2)
    exact ⟨u, a2, by simp, l, m2.mp (star_set.mp hu), m2.mp q⟩
  · rintro ⟨u, v, rfl, l, hu, hv⟩
    refine ⟨u ++ X :: v, [C], rfl, (RowL_app _ _ _).mpr ⟨u ++ [X], v, by simp, ?_, (RowL_rep _ _ _).mpr (pw_set.mpr ⟨l, m2.mpr hv⟩)⟩, ?_⟩
    · simp only [List.map_cons, List.map_nil, RowL]
      refine ⟨u, [X], rfl, star_set.mpr (m2.mpr hu), [X], [], rfl, ?_, rfl⟩
      rw [Pt.L]; exact ⟨X, by simp, rfl⟩
    · simp only [List.map_cons, List.map_nil, RowL]
      refine ⟨[C], [], rfl, ?_, rfl⟩
      rw [Pt.L]; exact ⟨C, by simp, rfl⟩
theorem rev_at {α : Type} {u : List α} {s : Nat} {x : α} : u.reverse[s]? = some x ↔ ∃ a v, u = a ++ x :: v ∧ v.length = s := by
  constructor
  · intro h
    obtain ⟨hl, e⟩ := List.getElem?_eq_some_iff.mp h
    have h2 := List.take_append_drop s u.reverse
    rw [List.drop_eq_getElem_cons hl, e] at h2
    refine ⟨(u.reverse.drop (s + 1)).reverse, (u.reverse.take s).reverse, ?_, ?_⟩
    · have := congrArg List.reverse h2
      rw [List.reverse_reverse] at this
      rw [List.reverse_append, List.reverse_cons, List.append_assoc] at this
      exact this.symm
    · rw [List.length_reverse, List.length_take]; omega
  · rintro ⟨a, v, rfl, rfl⟩
    simp
theorem P7_L {X Y C E s ev : Nat} (hev : ev < 2) {w : List Nat} : (P7 X Y C E s ev).L w ↔ ∃ u c, w = u ++ [c] ∧ (∀ d ∈ u, d = X ∨ d = Y) ∧ ((c = C ∧ u.reverse[s]? = some X) ∨ (c = E ∧ (∀ d ∈ u, d = X) ∧ (ev = 1 → u.length % 2 = 0))) := by
  unfold P7
  rw [Pt.L, Pt.LAny, Pt.LAny, Pt.LAny, or_false, first7_L]
  constructor
  · rintro (⟨u, v, rfl, l, hu, hv⟩ | h)
    · refine ⟨u ++ X :: v, C, rfl, fun d hd => ?_, .inl ⟨rfl, rev_at.mpr ⟨u, v, rfl, l⟩⟩⟩
      rcases List.mem_append.mp hd with hd | hd
      · exact hu d hd
      · rcases List.mem_cons.mp hd with rfl | hd
        · exact .inl rfl
        · exact hv d hd
    · simp only [Pt.L, Pt.LRow] at h
      obtain ⟨u, r, rfl, hu, x, r', rfl, ⟨c, hc, rfl⟩, rfl⟩ := h
      have hu : (Pt.again (ag7 X ev) 0 none).L u := by rw [Pt.L]; exact hu
      obtain ⟨h1, h2⟩ := (ag7_L hev).mp hu
      exact ⟨u, c, by simp, fun d hd => .inl (h1 d hd), .inr ⟨List.mem_singleton.mp hc, h1, h2⟩⟩
  · rintro ⟨u, c, rfl, hu, ⟨rfl, h⟩ | ⟨rfl, h1, h2⟩⟩
    · obtain ⟨a, v, rfl, l⟩ := rev_at.mp h
      exact .inl ⟨a, v, rfl, l, fun d hd => hu d (List.mem_append.mpr (.inl hd)), fun d hd => hu d (List.mem_append.mpr (.inr (List.mem_cons_of_mem _ hd)))⟩
    · right
      simp only [Pt.L, Pt.LRow]
      refine ⟨u, [c], rfl, ?_, [c], [], rfl, ⟨c, by simp, rfl⟩, rfl⟩
      have := (ag7_L (X := X) hev).mpr ⟨h1, h2⟩
      rw [Pt.L] at this
      exact this
/-- over columns -/
theorem P7_cols {al : List Nat} (hal : al.Nodup) (h4 : 4 ≤ al.length) {s ev : Nat} (hev : ev < 2) {w : List Nat} (hw : Ov al.length w) : acc7 (st7 s ev w) = LgB al (P7 (al.getD 0 0) (al.getD 1 0) (al.getD 2 0) (al.getD 3 0) s ev).L w := by
  rw [Bool.eq_iff_iff, LgB_iff, acc7_iff hev, P7_L hev]
  have inj : ∀ {i j : Nat}, i < al.length → j < al.length → (al.getD i 0 = al.getD j 0 ↔ i = j) := fun {i j} hi hj => by
    rw [List.getD_eq_getElem?_getD, List.getD_eq_getElem?_getD, List.getElem?_eq_getElem hi, List.getElem?_eq_getElem hj]
    constructor
    · intro h
      have h : al[i] = al[j] := h
      have pw := List.pairwise_iff_getElem.mp hal
      rcases Nat.lt_trichotomy i j with q | q | q
      · exact absurd h (pw _ _ hi hj q)
      · exact q
      · exact absurd h.symm (pw _ _ hj hi q)
    · rintro rfl; rfl
  have cond : ∀ (u : List Nat) (c : Nat), Ov al.length u → c < al.length →
      (((∀ d ∈ u, d < 2) ∧ ((c = 2 ∧ u.reverse[s]? = some 0) ∨ (c = 3 ∧ (∀ d ∈ u, d = 0) ∧ (ev = 1 → u.length % 2 = 0)))) ↔
       ((∀ d ∈ u.map fun c => al.getD c 0, d = al.getD 0 0 ∨ d = al.getD 1 0) ∧ ((al.getD c 0 = al.getD 2 0 ∧ (u.map fun c => al.getD c 0).reverse[s]? = some (al.getD 0 0)) ∨ (al.getD c 0 = al.getD 3 0 ∧ (∀ d ∈ u.map fun c => al.getD c 0, d = al.getD 0 0) ∧ (ev = 1 → (u.map fun c => al.getD c 0).length % 2 = 0))))) := fun u c hu hc => by
    have a1 : (∀ d ∈ u, d < 2) ↔ ∀ d ∈ u.map fun c => al.getD c 0, d = al.getD 0 0 ∨ d = al.getD 1 0 := by
      simp only [List.mem_map, forall_exists_index, and_imp, forall_apply_eq_imp_iff₂]
      refine forall_congr' fun d => forall_congr' fun hd => ?_
      rw [inj (hu d hd) (by omega), inj (hu d hd) (by omega)]
      omega
    have a2 : (∀ d ∈ u, d = 0) ↔ ∀ d ∈ u.map fun c => al.getD c 0, d = al.getD 0 0 := by
      simp only [List.mem_map, forall_exists_index, and_imp, forall_apply_eq_imp_iff₂]
      refine forall_congr' fun d => forall_congr' fun hd => ?_
      rw [inj (hu d hd) (by omega)]
    have a3 : u.reverse[s]? = some 0 ↔ (u.map fun c => al.getD c 0).reverse[s]? = some (al.getD 0 0) := by
      rw [← List.map_reverse, List.getElem?_map]
      cases e : u.reverse[s]? with
      | none => simp
      | some d =>
        have hd : d ∈ u := List.mem_reverse.mp (List.mem_of_getElem? e)
        simp only [Option.map_some, Option.some.injEq]
        rw [inj (hu d hd) (by omega)]
    rw [a1, a2, a3, inj hc (by omega), inj hc (by omega), List.length_map]
  constructor
  · rintro ⟨u, c, rfl, h⟩
    have hu : Ov al.length u := fun d hd => hw d (List.mem_append.mpr (.inl hd))
    have hc : c < al.length := hw c (List.mem_append.mpr (.inr List.mem_cons_self))
    exact ⟨u.map fun c => al.getD c 0, al.getD c 0, by simp, (cond u c hu hc).mp h⟩
  · rintro ⟨U, C, e, h⟩
    obtain ⟨u, r, rfl, e1, e2⟩ := List.map_eq_append_iff.mp e
    obtain ⟨c, rfl, e3⟩ : ∃ c, r = [c] ∧ al.getD c 0 = C := by
      match r, e2 with
      | [c], e2 => exact ⟨c, rfl, by simpa using e2⟩
    subst e1 e3
    have hu : Ov al.length u := fun d hd => hw d (List.mem_append.mpr (.inl hd))
    have hc : c < al.length := hw c (List.mem_append.mpr (.inr List.mem_cons_self))
    exact ⟨u, c, rfl, (cond u c hu hc).mpr h⟩

end Cs
namespace Cs
open PySem L2
open PyProof.Rows (envOfC)
/-! tuples and lists beside the source of draws -/
theorem rd_tupT {a : Addr} {n : Nat} {H : Hp} {xs : List V} {ds : List PyData} {R : Addr → Hp → Prop} (hS : Src a n H) (hx : TpAll H xs ds) (k : ∀ p H', Tp H' (.ref p) (.tuple ds) → Src a n H' → Kp a H H' → TS H H' → R p H') : New H (.tup xs) R :=
  rd_newK hS fun p H' _ hp eP hS' k' => k p H' (.tup eP (hx.ts (TS.kp hS k'))) hS' k' (TS.kp hS k')
theorem rd_lstT {a : Addr} {n : Nat} {H : Hp} {xs : List V} {R : Addr → Hp → Prop} (hS : Src a n H) (k : ∀ p H', p ≠ a → H' p = some (.lst xs) → Src a n H' → Kp a H H' → TS H H' → R p H') : New H (.lst xs) R :=
  rd_newK hS fun p H' pa _ eP hS' k' => k p H' pa eP hS' k' (TS.kp hS k')
theorem hi_tp {H : Hp} (hi : Option Nat) : Tp H (hiV hi) (hiD hi) := by
  cases hi with
  | none => exact .non
  | some h => exact .int _
theorem TpAll.get' {H : Hp} : ∀ {vs : List V} {ds : List PyData} {i : Nat} {d : PyData}, TpAll H vs ds → ds[i]? = some d → ∃ v, vs[i]? = some v ∧ Tp H v d
  | _, _, _, _, .nil, e => by simp at e
  | _, _, 0, _, .cons h _, e => by simp at e; subst e; exact ⟨_, rfl, h⟩
  | _, _, i + 1, d, .cons _ t, e => by
    obtain ⟨v, a, b⟩ := TpAll.get' (i := i) (d := d) t (by simpa using e)
    exact ⟨v, by simpa using a, b⟩

end Cs
namespace Cs
open PySem L2
open PyProof.Rows (envOfC)
/-! tuple * int, any count up to 1000 -/
section
open PySem.Spec PyProof.Rows
theorem tuple_mul1 (l : Addr) (items : Array Value) (n : Nat) (dd : Option Addr) (sl : Array (Option Value)) (u : Tok) :
    Meets (Builtin.«tuple.__mul__» ⟨[.ref l, .int 1 u], []⟩) (fun _ R s => s.heap.get? l = some { cls := .type "tuple", dict := dd, data := .seq items n, slots := sl } ∧ R (.ok (.ret (Value.ref l))) s) :=
  .of_wp fun prog w A R s h => by
    obtain ⟨hp, g, d, tk, os⟩ := s
    obtain ⟨hl, h⟩ := h
    have f1 := AutoSeq1.idx_int
    have c1 : (items.isEmpty || ((1 : Int) == 1)) = true := by simp
    wp_walk using wpAny_loadPart' hl
    repeat (first
      | (refine wpAny_ite_false (decide_eq_false (by decide)) ?_; wp_walk using wpAny_loadPart' hl)
      | (refine wpAny_ite_true (decide_eq_true c1) ?_; wp_walk using wpAny_loadPart' hl))
    exact ⟨_, rfl, h⟩
theorem tuple_mul0 (l : Addr) (items : Array Value) (n : Nat) (dd : Option Addr) (sl : Array (Option Value)) (x : Int) (u : Tok) (c0 : (decide (x < -(2 ^ 63)) || decide (x ≥ 2 ^ 63)) = false) (c1 : (items.isEmpty || x == 1) = false) (c2 : (decide (x ≤ 0) || items.isEmpty) = true) :
    Meets (Builtin.«tuple.__mul__» ⟨[.ref l, .int x u], []⟩) (fun _ R s => s.heap.get? l = some { cls := .type "tuple", dict := dd, data := .seq items n, slots := sl } ∧
      R (.ok (.ret (Value.ref s.heap.objs.size))) { s with heap := s.heap.push { cls := Value.type "tuple", data := Data.seq #[] }, toks := s.toks }) :=
  .of_wp fun prog w A R s h => by
    obtain ⟨hp, g, d, tk, os⟩ := s
    obtain ⟨hl, h⟩ := h
    have f1 := AutoSeq1.idx_int
    wp_walk using wpAny_loadPart' hl
    repeat (first
      | (refine wpAny_ite_false (decide_eq_false (by rw [c0]; exact Bool.false_ne_true)) ?_; wp_walk using wpAny_loadPart' hl)
      | (refine wpAny_ite_false (decide_eq_false (by rw [c1]; exact Bool.false_ne_true)) ?_; wp_walk using wpAny_loadPart' hl)
      | (refine wpAny_ite_true (decide_eq_true c2) ?_; wp_walk using wpAny_loadPart' hl))
    exact ⟨_, rfl, h⟩
end
def rRepA (K : PySem.W.Frag) : R2 := fun x y H Q => ∃ l k xs, x = .ref l ∧ y = .int k ∧ SqT K H l xs ∧ xs ≠ [] ∧ -1000 ≤ k ∧ k ≤ 1000 ∧ xs.length ≤ 1000 ∧ (k = 1 → Q (.ref l) H) ∧ (k ≠ 1 → New H (.tup (List.replicate k.toNat xs).flatten) fun p H2 => Q (.ref p) H2)
theorem rd_repA {K : PySem.W.Frag} {H : Hp} {Q : VK} {l : Addr} {k : Int} {xs : List V} (h : SqT K H l xs) (hne : xs ≠ []) (h1 : -1000 ≤ k) (h2 : k ≤ 1000) (hz : xs.length ≤ 1000) (q1 : k = 1 → Q (.ref l) H) (q2 : k ≠ 1 → New H (.tup (List.replicate k.toNat xs).flatten) fun p H2 => Q (.ref p) H2) : rRepA K (.ref l) (.int k) H Q :=
  ⟨l, k, xs, rfl, rfl, h, hne, h1, h2, hz, q1, q2⟩
section
open PySem.Spec PyProof.Rows
theorem op_repA {X : Cx} : OpR X (binaryOp .Mult) (rRepA X.K) := by
  intro pins s σ H x y v u Q I rx ry h
  obtain ⟨l, k, xs, rfl, rfl, hT, hne, h1, h2, hz, q1, q2⟩ := h
  by_cases k2 : 2 ≤ k
  · exact op_repT pins s σ H _ _ v u Q I rx ry ⟨l, k, xs, rfl, rfl, hT, hne, k2, h2, hz, q2 (by omega)⟩
  cases rx
  obtain ⟨t, rfl⟩ := ry
  obtain ⟨its, r, ⟨⟨cls, dd, data, sl⟩, ho, hc, n, hd⟩, hs⟩ := I.tuple hT
  simp only at hc hd
  subst hc hd
  have hle : its.length = xs.length := r.length.symm
  have hn : its ≠ [] := fun e => hne (by
    rw [e] at hle
    exact List.eq_nil_of_length_eq_zero hle.symm)
  have hi : its.toArray.isEmpty = false := by
    cases its with
    | nil => exact absurd rfl hn
    | cons a b => rfl
  by_cases k1 : k = 1
  · subst k1
    refine wpAny_binaryOp_repeat_ref (T := "tuple") (U := "int") (by decide) ⟨_, ho, rfl⟩ (fun s' => typeIs_int s' 1 t) noFill_tuple_mul F.fills_int_mul F.slot_int_rmul repeat_tuple F.slot_int_index.lookup
      (call_meets F.slot_int_rmul (typeIs_int s 1 t) F.entry_int_rmul (F.args_int_rmul_2 _ _) (int_rmul_tuple 1 t l its.toArray n dd sl)
        ⟨ho, rfl, ⟨_, ho, rfl⟩, call_meets F.slot_tuple_mul ⟨_, ho, rfl⟩ F.entry_tuple_mul (F.args_tuple_mul_2 _ _) (tuple_mul1 l its.toArray n dd sl t) ⟨ho, ?_⟩⟩)
    exact ⟨.ref l, H, I, rfl, q1 rfl⟩
  · have c0 : (decide (k < -(2 ^ 63)) || decide (k ≥ 2 ^ 63)) = false := by
      rw [decide_eq_false (by omega), decide_eq_false (by omega)] <;> rfl
    have c1 : (its.toArray.isEmpty || k == 1) = false := by
      rw [hi, Bool.false_or]
      exact beq_eq_false_iff_ne.mpr (by omega)
    have c2 : (decide (k ≤ 0) || its.toArray.isEmpty) = true := by
      rw [hi, Bool.or_false]
      exact decide_eq_true (by omega)
    refine wpAny_binaryOp_repeat_ref (T := "tuple") (U := "int") (by decide) ⟨_, ho, rfl⟩ (fun s' => typeIs_int s' k t) noFill_tuple_mul F.fills_int_mul F.slot_int_rmul repeat_tuple F.slot_int_index.lookup
      (call_meets F.slot_int_rmul (typeIs_int s k t) F.entry_int_rmul (F.args_int_rmul_2 _ _) (int_rmul_tuple k t l its.toArray n dd sl)
        ⟨ho, rfl, ⟨_, ho, rfl⟩, call_meets F.slot_tuple_mul ⟨_, ho, rfl⟩ F.entry_tuple_mul (F.args_tuple_mul_2 _ _) (tuple_mul0 l its.toArray n dd sl k t c0 c1 c2) ⟨ho, ?_⟩⟩)
    have e0 : (List.replicate k.toNat xs).flatten = [] := by
      have : k.toNat = 0 := by omega
      rw [this]; rfl
    have q := q2 k1
    rw [e0] at q
    refine ⟨.ref s.heap.objs.size, _, I.laid (t' := s.toks) (o := .tup []) (fun b ob q => Heap.get?_push_of_some _ q) (Nat.le_refl _) ?_, rfl, q _ (I.hok.fresh (Nat.le_refl _))⟩
    exact ⟨by show 0 ≤ _; exact Nat.zero_le _, [], .nil, IsTup.new _ _⟩
end
theorem op_repAK {X : Cx} {K : PySem.W.Frag} (h : X.K = K) : OpR X (binaryOp .Mult) (rRepA K) := by subst h; exact op_repA

end Cs
namespace Cs
open PySem L2
open PyProof.Rows (envOfC)
theorem cutS_take (t : List Nat) (k : Nat) (h : k ≤ t.length) : cutS (S t) none (some (k : Int)) = S (t.take k) := by
  unfold cutS
  rw [HT.sIx_none, HT.sIx_nat, S_len, Nat.min_eq_left h]
  simp [S]
theorem cutS_drop (t : List Nat) (k : Nat) (h : k ≤ t.length) : cutS (S t) (some (k : Int)) none = S (t.drop k) := by
  unfold cutS
  rw [HT.sIx_none, HT.sIx_nat, S_len, Nat.min_eq_left h]
  simp only [S]
  rw [List.take_of_length_le (by simp)]
theorem rd_rng2 {tas : TA} {σ : St} {H : Hp} {R : It → Hp → Prop} (h : tas σ H fun vs H1 => ∃ i j : Int, vs = [.int i, .int j] ∧ (-(2 ^ 62) ≤ i ∧ i < 2 ^ 62 ∧ -(2 ^ 62) ≤ j ∧ j < 2 ^ 62) ∧ R (Itr i (j - i).toNat) H1) : iRng2 tas σ H R := h
theorem rd_sls {z : Str} {lo hi : Option Int} {H : Hp} {Q : VK} (h : z.length ≤ sizeLine) (q : Q (.str (cutS z lo hi)) H) : rSlS (.str z) lo hi H Q := ⟨z, rfl, h, q⟩

end Cs
namespace Cs
open PySem L2
open PyProof.Rows (envOfC)
theorem S_app (a b : List Nat) : S a ++ S b = S (a ++ b) := by
  show Str.append (S a) (S b) = S (a ++ b)
  simp [S, Str.append]

end Cs
namespace Cs
open PySem L2
open PyProof.Rows (envOfC)
/-! the patterns whose automaton has a known size -/
theorem rd_repTp {K : PySem.W.Frag} {a : Addr} {n : Nat} {H : Hp} {Q : VK} {l : Addr} {d : PyData} {k : Nat} (hS : Src a n H) (h : Tp H (.ref l) (.tuple [d])) (hk : k ≤ 1000) (q : ∀ p H', Tp H' (.ref p) (.tuple (List.replicate k d)) → Src a n H' → Kp a H H' → TS H H' → Q (.ref p) H') : rRepA K (.ref l) (.int (k : Int)) H Q := by
  obtain ⟨b, xs, eb, e, t⟩ := h.tupE
  cases eb
  obtain ⟨y, ys, rfl, hy, t2⟩ := t.consE
  rw [t2.nilE] at e
  refine rd_repA (SqT.of e) (by simp) (by omega) (by omega) (by simp) (fun z => ?_) (fun z => ?_)
  · have : k = 1 := by omega
    subst this
    exact q l H (.tup e (.cons hy .nil)) hS Kp.refl (TS.same (fun _ _ h => h))
  · rw [Int.toNat_natCast]
    have ef : (List.replicate k [y]).flatten = List.replicate k y := by
      clear q z hk
      induction k with
      | zero => rfl
      | succ k ih => rw [List.replicate_succ, List.flatten_cons, ih, List.replicate_succ]; rfl
    rw [ef]
    have ta : TpAll H (List.replicate k y) (List.replicate k d) := by
      clear q z hk ef
      induction k with
      | zero => exact .nil
      | succ k ih => exact .cons hy ih
    exact rd_tupT hS ta q
theorem TpAll.cat {H : Hp} : ∀ {xs ys : List V} {ds es : List PyData}, TpAll H xs ds → TpAll H ys es → TpAll H (xs ++ ys) (ds ++ es)
  | _, _, _, _, .nil, h => h
  | _, _, _, _, .cons a t, h => .cons a (TpAll.cat t h)
theorem rd_catTp {K : PySem.W.Frag} {a : Addr} {n : Nat} {H : Hp} {Q : VK} {g1 g2 : Addr} {ds es : List PyData} (hS : Src a n H) (h1 : Tp H (.ref g1) (.tuple ds)) (h2 : Tp H (.ref g2) (.tuple es)) (hne : ds ≠ []) (hl : ds.length + es.length ≤ sizeLine)
    (q : ∀ p H', Tp H' (.ref p) (.tuple (ds ++ es)) → Src a n H' → Kp a H H' → TS H H' → Q (.ref p) H') : rCatT K (.ref g1) (.ref g2) H Q := by
  obtain ⟨b, xs, eb, e, t⟩ := h1.tupE
  cases eb
  obtain ⟨b, ys, eb, e2, t2⟩ := h2.tupE
  cases eb
  refine rd_catT (SqT.of e) (SqT.of e2) (fun z => hne (by
    subst z
    cases t; rfl)) (by rw [t.length, t2.length]; exact hl) (fun z => ?_) (fun _ => rd_tupT hS (t.cat t2) q)
  subst z
  have : es = [] := by cases t2; rfl
  subst this
  rw [List.append_nil] at q
  exact q g1 H h1 hS Kp.refl (TS.same (fun _ _ h => h))
def far7 (X Y m : Nat) : Pt := .all [.row ([.again (.set [X, Y]) 0 none, .set [X]] ++ List.replicate m (.set [X, Y])), .set []]
def C7 (al : List Nat) (p : Pt) (due : Nat) : Prop := (∃ m, m ≤ 7 ∧ p = far7 (al.getD 0 0) (al.getD 1 0) m ∧ due = 1) ∨
  ∃ s ev, ((s < 5 ∧ ev < 2) ∨ (s = 5 ∧ ev = 0)) ∧ p = P7 (al.getD 0 0) (al.getD 1 0) (al.getD 2 0) (al.getD 3 0) s ev ∧ due = due7 s ev
def sp_case7 : Sp := fun vs H Q _ => ∃ (a : Addr) (al : List Nat) (n : Nat), vs = [.ref a, .str (S al)] ∧ Alp al ∧ 4 ≤ al.length ∧ Src a (n + 10) H ∧
  ∀ (t : Addr) (v : V) (p : Pt) (due : Nat) (H' : Hp), H' t = some (.tup [v, vn due]) → Tp H' v p.d → C7 al p due → Src a n H' → Kp a H H' → Q (.ref t) H'
section
variable {P : Program} {w : World} {K : PySem.W.Frag} {mg : Str → Option Value} {base : Heap}
theorem ok_case7 (B : Blt mg) (G__law_draw : Cal P w K mg base 1 "_law_draw" ["_law_source_here", "_law_many"] sp_draw) (F : At K mg "_law_case" s__law_case ["_law_source_here", "_law_alphabet_here"]) : Cal P w K mg base 2 "_law_case" ["_law_source_here", "_law_alphabet_here"] sp_case7 := by
  refine F.ok (k := 1) sc__law_case (fun vs H Q E h => ?_) (fun f cdv A outer s H vs Q E hr h => ?_)
  · obtain ⟨a, al, n, rfl, _⟩ := h
    rfl
  · obtain ⟨a, al, n, rfl, hA, h4, hS, kq⟩ := h
    refine ⟨_, (pss_cons (ps_par (i := 2) (j := 3) (by rfl) sc__law_case.nd rfl rfl (by decide) rfl rfl (pa_cons (pe_ix ix_str (pv 1) pe_int (fun _ _ => rfl)) (pa_cons (pe_ix ix_str (pv 1) pe_int (fun _ _ => rfl)) pa_nil)) (by rfl))
    (pss_cons (ps_par (i := 4) (j := 5) (by rfl) sc__law_case.nd rfl rfl (by decide) rfl rfl (pa_cons (pe_ix ix_str (pv 1) pe_int (fun _ _ => rfl)) (pa_cons (pe_ix ix_str (pv 1) pe_int (fun _ _ => rfl)) pa_nil)) (by rfl))
    (pss_cons (ps_set (i := 6) sc__law_case.nd rfl (Or.inl rfl) (pe_tup (pa_cons pe_str (pa_cons (pe_op op_add_str (pv 2) (pv 3)) pa_nil))))
    (pss_cons (ps_if (pt_cmpR op_eq (pe_c G__law_draw (hr.mono (by first | decide | omega)) (pa_cons (pv 0) (pa_cons pe_int pa_nil))) pe_int (nomark _))
    (pss_cons (ps_set (i := 7) sc__law_case.nd rfl (Or.inl rfl) (pe_op (op_repAK (K := K) (by rfl)) (pe_tup (pa_cons (pv 6) pa_nil)) (pe_op op_add pe_int (pe_c G__law_draw (hr.mono (by first | decide | omega)) (pa_cons (pv 0) (pa_cons pe_int pa_nil))))))
    (pss_cons (ps_set (i := 8) sc__law_case.nd rfl (Or.inl rfl) (pe_op (op_catTK (K := K) (by rfl)) (pe_tup (pa_cons pe_str (pa_cons (pe_tup (pa_cons pe_str (pa_cons (pv 6) (pa_cons pe_int (pa_cons pe_non pa_nil))))) (pa_cons (pe_tup (pa_cons pe_str (pa_cons (pv 2) pa_nil))) pa_nil)))) (pv 7)))
    (pss_one (ps_ret (pe_tup (pa_cons (pe_tup (pa_cons pe_str (pa_cons (pv 8) (pa_cons (pe_tup (pa_cons pe_str (pa_cons pe_str pa_nil))) pa_nil)))) (pa_cons pe_int pa_nil)))))))
    pss_nil)
    (pss_cons (ps_set (i := 9) sc__law_case.nd rfl (Or.inl rfl) (pe_c G__law_draw (hr.mono (by first | decide | omega)) (pa_cons (pv 0) (pa_cons pe_int pa_nil))))
    (pss_cons (ps_set (i := 10) sc__law_case.nd rfl (Or.inl rfl) (pe_ix (ix_listK (K := K) (by rfl)) (pe_lst (pa_cons pe_int (pa_cons pe_int (pa_cons pe_int (pa_cons pe_int (pa_cons pe_int (pa_cons pe_int (pa_cons pe_int (pa_cons pe_int pa_nil))))))))) (pe_c G__law_draw (hr.mono (by first | decide | omega)) (pa_cons (pv 0) (pa_cons (pe_op op_sub pe_int (pv 9)) pa_nil))) (fun _ _ => rfl)))
    (pss_cons (ps_set (i := 11) sc__law_case.nd rfl (Or.inl rfl) (pe_tup (pa_cons pe_str (pa_cons (pe_tup (pa_cons pe_str (pa_cons (pv 6) (pa_cons pe_int (pa_cons pe_non pa_nil))))) (pa_cons (pe_tup (pa_cons pe_str (pa_cons (pv 2) pa_nil))) pa_nil)))))
    (pss_cons (ps_set (i := 11) sc__law_case.nd rfl (Or.inl rfl) (pe_op (op_catTK (K := K) (by rfl)) (pe_op (op_catTK (K := K) (by rfl)) (pv 11) (pe_op (op_repAK (K := K) (by rfl)) (pe_tup (pa_cons (pv 6) pa_nil)) (pv 10))) (pe_tup (pa_cons (pe_tup (pa_cons pe_str (pa_cons (pv 4) pa_nil))) pa_nil))))
    (pss_cons (ps_set (i := 12) sc__law_case.nd rfl (Or.inl rfl) (pe_ix (ix_listK (K := K) (by rfl)) (pe_lst (pa_cons (pe_tup (pa_cons pe_str (pa_cons (pv 2) pa_nil))) (pa_cons (pe_tup (pa_cons pe_str (pa_cons (pe_tup (pa_cons pe_str (pa_cons (pv 2) pa_nil))) (pa_cons (pe_tup (pa_cons pe_str (pa_cons (pv 2) pa_nil))) pa_nil)))) pa_nil))) (pv 9) (fun _ _ => rfl)))
    (pss_cons (ps_set (i := 13) sc__law_case.nd rfl (Or.inl rfl) (pe_tup (pa_cons pe_str (pa_cons (pe_tup (pa_cons pe_str (pa_cons (pv 12) (pa_cons pe_int (pa_cons pe_non pa_nil))))) (pa_cons (pe_tup (pa_cons pe_str (pa_cons (pv 5) pa_nil))) pa_nil)))))
    (pss_cons (ps_set (i := 14) sc__law_case.nd rfl (Or.inl rfl) (pe_op op_add (pe_op op_add (pv 10) pe_int) (pv 9)))
    (pss_one (ps_ret (pe_tup (pa_cons (pe_tup (pa_cons pe_str (pa_cons (pv 11) (pa_cons (pv 13) pa_nil)))) (pa_cons (pe_op op_add (pe_op op_add (pe_ix (ix_listK (K := K) (by rfl)) (pe_lst (pa_cons pe_int (pa_cons pe_int (pa_cons pe_int (pa_cons pe_int (pa_cons pe_int (pa_cons pe_int pa_nil))))))) (pv 10) (fun _ _ => rfl)) (pv 14)) pe_int) pa_nil)))))))))))))))), ?_⟩
    have al6 := hA.hi
    have hg : ∀ i, i < 4 → al[i]? = some (al.getD i 0) := fun i hi => by
      rw [List.getD_eq_getElem?_getD, List.getElem?_eq_getElem (by omega)]; rfl
    walk_at "go"
    refine ⟨S al, 0, al.getD 0 0, rfl, rfl, by rw [S_len, PySem.sizeLine_eq]; omega, at_c (j := 0) (by omega) (hg 0 (by decide)), ?_⟩
    walk_at "go"
    refine ⟨S al, 1, al.getD 1 0, rfl, rfl, by rw [S_len, PySem.sizeLine_eq]; omega, at_c (j := 1) (by omega) (hg 1 (by decide)), ?_⟩
    walk_at "go"
    refine ⟨S al, 2, al.getD 2 0, rfl, rfl, by rw [S_len, PySem.sizeLine_eq]; omega, at_c (j := 2) (by omega) (hg 2 (by decide)), ?_⟩
    walk_at "go"
    refine ⟨S al, 3, al.getD 3 0, rfl, rfl, by rw [S_len, PySem.sizeLine_eq]; omega, at_c (j := 3) (by omega) (hg 3 (by decide)), ?_⟩
    walk_at "go"
    obtain ⟨X, hX⟩ : ∃ X, X = al.getD 0 0 := ⟨_, rfl⟩
    obtain ⟨Y, hY⟩ : ∃ Y, Y = al.getD 1 0 := ⟨_, rfl⟩
    obtain ⟨Cc, hC⟩ : ∃ Cc, Cc = al.getD 2 0 := ⟨_, rfl⟩
    obtain ⟨Ee, hE⟩ : ∃ Ee, Ee = al.getD 3 0 := ⟨_, rfl⟩
    rw [← hX, ← hY, ← hC, ← hE]
    refine ⟨S [X], S [Y], rfl, rfl, by rw [S_len, S_len, PySem.sizeLine_eq]; simp, ?_⟩
    rw [S_app, show [X] ++ [Y] = [X, Y] from rfl]
    walk_at "go"
    refine ⟨by show 2 ≤ sizeLine; decide, rd_tupT hS (.cons (.str _) (.cons (.str _) .nil)) fun gb H1 hb hS1 k1 t1 => ?_⟩
    have hb : Tp H1 (.ref gb) (Pt.set [X, Y]).d := by rw [Pt.d]; exact hb
    walk_at "go"
    refine use_draw (n := n + 9) hS1 (by decide) (by decide) fun way0 H2 w0 w1 hS2 k2 => ?_
    have hb := hb.ts (TS.kp hS1 k2)
    walk_at "go"
    refine ite2 (fun z => ?_) (fun z => ?_)
    · walk_at "go"
      refine ⟨by show 1 ≤ sizeLine; decide, rd_tupT hS2 (.cons hb .nil) fun g1 H3 h1 hS3 k3 t3 => ?_⟩
      have hb := hb.ts t3
      walk_at "go"
      refine use_draw (n := n + 8) hS3 (by decide) (by decide) fun m0 H4 m1 m2 hS4 k4 => ?_
      have hb := hb.ts (TS.kp hS3 k4)
      have h1 := h1.ts (TS.kp hS3 k4)
      obtain ⟨m, hm, hm7⟩ : ∃ m : Nat, 5 + m0 = (m : Int) ∧ m ≤ 7 := ⟨(5 + m0).toNat, by omega, by omega⟩
      walk_at "go"
      rw [hm]
      refine rd_repTp hS4 h1 (by omega) fun gm H5 hgm hS5 k5 t5 => ?_
      have hb := hb.ts t5
      walk_at "go"
      refine ⟨by show 4 ≤ sizeLine; decide, rd_tupT hS5 (.cons (.str _) (.cons hb (.cons (.int _) (.cons .non .nil)))) fun g2 H6 h2 hS6 k6 t6 => ?_⟩
      have hgm := hgm.ts t6
      walk_at "go"
      refine ⟨by show 2 ≤ sizeLine; decide, rd_tupT hS6 (.cons (.str _) (.cons (.str _) .nil)) fun g3 H7 h3 hS7 k7 t7 => ?_⟩
      have hgm := hgm.ts t7
      have h2 := h2.ts t7
      walk_at "go"
      refine ⟨by show 3 ≤ sizeLine; decide, rd_tupT hS7 (.cons (.str _) (.cons h2 (.cons h3 .nil))) fun g4 H8 h8 hS8 k8 t8 => ?_⟩
      have hgm := hgm.ts t8
      walk_at "go"
      refine rd_catTp hS8 h8 hgm (by simp) (by rw [List.length_replicate, PySem.sizeLine_eq]; simp; omega) fun g5 H9 h9 hS9 k9 t9 => ?_
      walk_at "go"
      refine ⟨by show 2 ≤ sizeLine; decide, rd_tupT hS9 (.cons (.str _) (.cons (.str _) .nil)) fun g6 H10 h10 hS10 k10 t10 => ?_⟩
      have h9 := h9.ts t10
      walk_at "go"
      refine ⟨by show 3 ≤ sizeLine; decide, rd_tupT hS10 (.cons (.str _) (.cons h9 (.cons h10 .nil))) fun g7 H11 h11 hS11 k11 t11 => ?_⟩
      walk_at "go"
      refine ⟨by show 2 ≤ sizeLine; decide, rd_newK hS11 fun g8 H12 ga hg e12 hS12 k12 => ?_⟩
      walk_at "go"
      refine kq g8 _ (far7 X Y m) 1 H12 e12 ?_ (.inl ⟨m, by omega, by rw [hX, hY], rfl⟩) (hS12.mono (by omega)) (k1.trans (k2.trans (k3.trans (k4.trans (k5.trans (k6.trans (k7.trans (k8.trans (k9.trans (k10.trans (k11.trans k12)))))))))))
      have hh := h11.ts (TS.kp hS11 k12)
      unfold far7
      simp only [Pt.d, Pt.ds, Pt.ds_eq, List.map_append, List.map_replicate, List.map_cons, List.map_nil, hiD]
      rw [empty_S] at hh
      simp only [Pt.d] at hh
      exact hh
    · walk_at "go"
      refine use_draw (n := n + 8) hS2 (by decide) (by decide) fun ev0 H3 e0 e1 hS3 k3 => ?_
      have hb := hb.ts (TS.kp hS2 k3)
      obtain ⟨ev, rfl⟩ : ∃ ev : Nat, ev0 = (ev : Int) := ⟨ev0.toNat, by omega⟩
      have hev : ev < 2 := by omega
      walk_at "go"
      refine ⟨by show 8 ≤ sizeLine; decide, rd_lstT hS3 fun l1 H4 nl1 el1 hS4 k4 t4 => ?_⟩
      have hb := hb.ts t4
      walk_at "go"
      refine use_draw (n := n + 7) hS4 (by omega) (by omega) fun s0 H5 s1 s2 hS5 k5 => ?_
      have hb := hb.ts (TS.kp hS4 k5)
      have el1 := k5.at nl1 el1
      obtain ⟨si, rfl⟩ : ∃ si : Nat, s0 = (si : Int) := ⟨s0.toNat, by omega⟩
      obtain ⟨sh, hsh, hcase⟩ : ∃ sh : Nat, ([V.int 4, V.int 4, V.int 4, V.int 3, V.int 2, V.int 1, V.int 0, V.int 5] : List V)[si]? = some (vn sh) ∧ ((sh < 5 ∧ ev < 2) ∨ (sh = 5 ∧ ev = 0)) := by
        obtain q | q | q | q | q | q | q | q : si = 0 ∨ si = 1 ∨ si = 2 ∨ si = 3 ∨ si = 4 ∨ si = 5 ∨ si = 6 ∨ si = 7 := by omega
        · subst q; exact ⟨4, rfl, .inl ⟨by decide, hev⟩⟩
        · subst q; exact ⟨4, rfl, .inl ⟨by decide, hev⟩⟩
        · subst q; exact ⟨4, rfl, .inl ⟨by decide, hev⟩⟩
        · subst q; exact ⟨3, rfl, .inl ⟨by decide, hev⟩⟩
        · subst q; exact ⟨2, rfl, .inl ⟨by decide, hev⟩⟩
        · subst q; exact ⟨1, rfl, .inl ⟨by decide, hev⟩⟩
        · subst q; exact ⟨0, rfl, .inl ⟨by decide, hev⟩⟩
        · subst q; exact ⟨5, rfl, .inr ⟨rfl, by omega⟩⟩
      have sh5 : sh ≤ 5 := by omega
      refine rd_ixl (SqL.of el1) (atI_nat hsh) ?_
      walk_at "go"
      refine ⟨by show 4 ≤ sizeLine; decide, rd_tupT hS5 (.cons (.str _) (.cons hb (.cons (.int _) (.cons .non .nil)))) fun g2 H6 h2 hS6 k6 t6 => ?_⟩
      have hb := hb.ts t6
      walk_at "go"
      refine ⟨by show 2 ≤ sizeLine; decide, rd_tupT hS6 (.cons (.str _) (.cons (.str _) .nil)) fun g3 H7 h3 hS7 k7 t7 => ?_⟩
      have hb := hb.ts t7
      have h2 := h2.ts t7
      walk_at "go"
      refine ⟨by show 3 ≤ sizeLine; decide, rd_tupT hS7 (.cons (.str _) (.cons h2 (.cons h3 .nil))) fun g4 H8 h8 hS8 k8 t8 => ?_⟩
      have hb := hb.ts t8
      walk_at "go"
      refine ⟨by show 1 ≤ sizeLine; decide, rd_tupT hS8 (.cons hb .nil) fun g5 H9 h9 hS9 k9 t9 => ?_⟩
      have h8 := h8.ts t9
      walk_at "go"
      refine rd_repTp hS9 h9 (by omega) fun g6 H10 h10 hS10 k10 t10 => ?_
      have h8 := h8.ts t10
      refine rd_catTp hS10 h8 h10 (by simp) (by rw [List.length_replicate, PySem.sizeLine_eq]; simp; omega) fun g7 H11 h11 hS11 k11 t11 => ?_
      walk_at "go"
      refine ⟨by show 2 ≤ sizeLine; decide, rd_tupT hS11 (.cons (.str _) (.cons (.str _) .nil)) fun g8 H12 h12 hS12 k12 t12 => ?_⟩
      have h11 := h11.ts t12
      walk_at "go"
      refine ⟨by show 1 ≤ sizeLine; decide, rd_tupT hS12 (.cons h12 .nil) fun g9 H13 h13 hS13 k13 t13 => ?_⟩
      have h11 := h11.ts t13
      refine rd_catTp hS13 h11 h13 (by simp) (by rw [List.length_append, List.length_replicate, PySem.sizeLine_eq]; simp; omega) fun g10 H14 h14 hS14 k14 t14 => ?_
      walk_at "go"
      refine ⟨by show 2 ≤ sizeLine; decide, rd_tupT hS14 (.cons (.str _) (.cons (.str _) .nil)) fun g11 H15 h15 hS15 k15 t15 => ?_⟩
      have h14 := h14.ts t15
      walk_at "go"
      refine ⟨by show 2 ≤ sizeLine; decide, rd_tupT hS15 (.cons (.str _) (.cons (.str _) .nil)) fun g12 H16 h16 hS16 k16 t16 => ?_⟩
      have h14 := h14.ts t16
      have h15 := h15.ts t16
      walk_at "go"
      refine ⟨by show 2 ≤ sizeLine; decide, rd_tupT hS16 (.cons (.str _) (.cons (.str _) .nil)) fun g13 H17 h17 hS17 k17 t17 => ?_⟩
      have h14 := h14.ts t17
      have h15 := h15.ts t17
      have h16 := h16.ts t17
      walk_at "go"
      refine ⟨by show 3 ≤ sizeLine; decide, rd_tupT hS17 (.cons (.str _) (.cons h16 (.cons h17 .nil))) fun g14 H18 h18 hS18 k18 t18 => ?_⟩
      have h14 := h14.ts t18
      have h15 := h15.ts t18
      walk_at "go"
      refine ⟨by show 2 ≤ sizeLine; decide, rd_lstT hS18 fun l2 H19 nl2 el2 hS19 k19 t19 => ?_⟩
      have h14 := h14.ts t19
      have h15 := h15.ts t19
      have h18 := h18.ts t19
      obtain ⟨ga, hga, hag⟩ : ∃ ga : Addr, ([V.ref g11, V.ref g14] : List V)[ev]? = some (.ref ga) ∧ Tp H19 (.ref ga) (ag7 X ev).d := by
        obtain q | q : ev = 0 ∨ ev = 1 := by omega
        · subst q; exact ⟨g11, rfl, by unfold ag7; rw [if_pos rfl, Pt.d]; exact h15⟩
        · subst q
          refine ⟨g14, rfl, ?_⟩
          unfold ag7
          rw [if_neg (by decide)]
          simp only [Pt.d, Pt.ds]
          exact h18
      walk_at "go"
      refine rd_ixl (SqL.of el2) (atI_nat hga) ?_
      walk_at "go"
      refine ⟨by show 4 ≤ sizeLine; decide, rd_tupT hS19 (.cons (.str _) (.cons hag (.cons (.int _) (.cons .non .nil)))) fun g15 H20 h20 hS20 k20 t20 => ?_⟩
      have h14 := h14.ts t20
      walk_at "go"
      refine ⟨by show 2 ≤ sizeLine; decide, rd_tupT hS20 (.cons (.str _) (.cons (.str _) .nil)) fun g16 H21 h21 hS21 k21 t21 => ?_⟩
      have h14 := h14.ts t21
      have h20 := h20.ts t21
      walk_at "go"
      refine ⟨by show 3 ≤ sizeLine; decide, rd_tupT hS21 (.cons (.str _) (.cons h20 (.cons h21 .nil))) fun g17 H22 h22 hS22 k22 t22 => ?_⟩
      have h14 := h14.ts t22
      walk_at "go"
      refine ⟨by show 3 ≤ sizeLine; decide, rd_tupT hS22 (.cons (.str _) (.cons h14 (.cons h22 .nil))) fun g18 H23 h23 hS23 k23 t23 => ?_⟩
      walk_at "go"
      refine ⟨by show 6 ≤ sizeLine; decide, rd_lstT hS23 fun l3 H24 nl3 el3 hS24 k24 t24 => ?_⟩
      have h23 := h23.ts t24
      have hpow : ([V.int 2, V.int 4, V.int 8, V.int 16, V.int 32, V.int 64] : List V)[sh]? = some (vn (2 ^ (sh + 1))) := by
        obtain q | q | q | q | q | q : sh = 0 ∨ sh = 1 ∨ sh = 2 ∨ sh = 3 ∨ sh = 4 ∨ sh = 5 := by omega
        all_goals (subst q; rfl)
      walk_at "go"
      refine rd_ixl (SqL.of el3) (atI_nat hpow) ?_
      walk_at "go"
      rw [show ((2 ^ (sh + 1) : Nat) : Int) + ((sh : Nat) + 2 + (ev : Nat)) + 2 = ((due7 sh ev : Nat) : Int) by unfold due7; omega]
      refine ⟨by show 2 ≤ sizeLine; decide, rd_newK hS24 fun g19 H25 gx hgx e25 hS25 k25 => ?_⟩
      walk_at "go"
      refine kq g19 _ (P7 X Y Cc Ee sh ev) (due7 sh ev) H25 e25 ?_ (.inr ⟨sh, ev, hcase, by rw [hX, hY, hC, hE], rfl⟩) (hS25.mono (by omega)) (k1.trans (k2.trans (k3.trans (k4.trans (k5.trans (k6.trans (k7.trans (k8.trans (k9.trans (k10.trans (k11.trans (k12.trans (k13.trans (k14.trans (k15.trans (k16.trans (k17.trans (k18.trans (k19.trans (k20.trans (k21.trans (k22.trans (k23.trans (k24.trans k25))))))))))))))))))))))))
      have hh := h23.ts (TS.kp hS24 k25)
      unfold P7 first7
      simp only [Pt.d, Pt.ds, Pt.ds_eq, List.map_append, List.map_replicate, List.map_cons, List.map_nil, hiD]
      simp only [Pt.d] at hh
      exact hh
end

end Cs
namespace Cs
open PySem L2
open PyProof.Rows (envOfC)
/-! what stays beside the source of draws and the tables -/
def KpE (p : Addr) (H H' : Hp) : Prop := ∀ (b : Addr) (o : HO), b ≠ p → H b = some o → (∀ ps, o ≠ .tbl ps) → H' b = some o
theorem KpE.refl {p : Addr} {H : Hp} : KpE p H H := fun _ _ _ e _ => e
theorem KpE.trans {p : Addr} {H H1 H2 : Hp} (a : KpE p H H1) (b : KpE p H1 H2) : KpE p H H2 := fun c o n e t => b c o n (a c o n e t) t
theorem KpE.kp {p : Addr} {H H' : Hp} (k : Kp p H H') : KpE p H H' := fun b o n e _ => k.at n e
theorem KpE.ext {p : Addr} {H H' : Hp} (k : LamX.ExtN H H') : KpE p H H' := fun b o _ e t => k b o e t
theorem KpE.of {p : Addr} {H H' : Hp} (k : L2.Same H H') : KpE p H H' := fun b o _ e _ => k b o e
theorem KpE.back {p : Addr} {H0 H1 H2 : Hp} (n : H0 p = none) (s : L2.Same H0 H1) (k : KpE p H1 H2) : LamX.ExtN H0 H2 := fun b o e t => k b o (ne_of_none e n) (s b o e) t
theorem TS.ext {H H' : Hp} (k : LamX.ExtN H H') : TS H H' := fun b xs e => k b _ e (by intro ps z; cases z)
theorem Src.ext {p : Addr} {n : Nat} {H H' : Hp} (h : Src p n H) (k : LamX.ExtN H H') : Src p n H' := by
  obtain ⟨d, s, c, e, r⟩ := h
  exact ⟨d, s, c, k _ _ e (by intro ps z; cases z), r⟩
theorem Tabs.kp {T : List (Addr × Str)} {p : Addr} {n : Nat} {H H' : Hp} (hS : Src p n H) (k : Kp p H H') (t : LamX.Tabs T H) : LamX.Tabs T H' := fun q hq => by
  obtain ⟨d, s, c, e, _⟩ := hS
  obtain ⟨ps, h1, h2, h3⟩ := t q hq
  refine ⟨ps, k.at (fun z => by rw [z, e] at h1; cases h1) h1, h2, fun pos cv hc => ?_⟩
  obtain ⟨c', e1, e2⟩ := h3 pos cv hc
  exact ⟨c', e1, k.at (fun z => by rw [z, e] at e2; unfold LamX.CodeO at e2; cases e2) e2⟩
theorem SqL.ext {K : PySem.W.Frag} {a : Addr} {xs : List V} {H H' : Hp} (h : SqL K H a xs) (k : LamX.ExtN H H') : SqL K H' a xs := by
  rcases h with (h | ⟨o, h⟩) | h
  · exact .inl (.inl (k _ _ h (by intro ps z; cases z)))
  · exact .inl (.inr ⟨o, k _ _ h (by intro ps z; cases z)⟩)
  · exact .inr h

end Cs
namespace Cs
open PySem L2
open PyProof.Rows (envOfC)
/-! how many states, or the word of TooLarge -/
structure LTxt (K : PySem.W.Frag) (mg : Str → Option Value) (CT : Addr) : Prop where
  gI : mg "TooLarge" = some (.ref CT)
  exm : PySem.W.exmOne K (.ref CT) (.ref CT) = some true
  xf : XfC K CT
  no : PySem.W.findIn K (.ref CT) "what" = some none
def sp_size7 (Pa : Addr) : Sp := fun vs H Q _ => ∃ (al : List Nat) (v : V) (p : Pt), vs = [.str (S al), v] ∧ al.Nodup ∧ al.length ≤ 60 ∧ p.Jd al 4 3 ∧ Tp H v p.d ∧ p.wd ≤ 15 ∧ LamX.Tabs (TbA Pa) H ∧
  ∀ (N : Nat) (e : Nat → Nat → Nat) (m : Nat → Bool), Std al.length N e m (LgB al p.L) → ∀ H', LamX.ExtN H H' → LamX.Tabs (TbA Pa) H' → Q (if N ≤ 40 then .int (N : Nat) else .str (kS "pattern")) H'
theorem sc_size7 : FnScope ["_law_alphabet_here", "_law_pattern", "_law_found", "_law_e"] ["_law_alphabet_here", "_law_pattern"] (defScope s__law_size) := ⟨rfl, rfl, rfl, by decide +kernel, rfl, by decide +kernel, by decide +kernel⟩
section
variable {P : Program} {w : World} {K : PySem.W.Frag} {mg : Str → Option Value} {base : Heap}
theorem ok_size7 (B : Blt mg) {CT Pa : Addr} (T : LTxt K mg CT) (G_automaton : CalX P w K mg base 24 "automaton" ["alphabet", "pattern"] (sp_automaton CT Pa 3)) (F : At K mg "_law_size" s__law_size ["_law_alphabet_here", "_law_pattern"]) :
    Cal P w K mg base 25 "_law_size" ["_law_alphabet_here", "_law_pattern"] (sp_size7 Pa) := by
  refine F.ok (k := 24) sc_size7 (fun vs H Q E h => ?_) (fun f cdv A outer s H vs Q E hr h => ?_)
  · obtain ⟨al, v, p, rfl, _⟩ := h
    rfl
  · obtain ⟨al, v, p, rfl, hn, hL, hj, hv, hw, hT, k⟩ := h
    refine ⟨_, pss_cons (ps_set (i := 2) sc_size7.nd rfl (Or.inl rfl) pe_int)
      (pss_cons (ps_try_as (i := 3) (Wout := fun _ _ _ _ => False) rfl rfl sc_size7.nd rfl rfl ⟨rfl, by decide, .inl T.gI⟩ takes0
        (fun W pn xe tk _ => pss_one (ps_set (i := 2) sc_size7.nd rfl (Or.inl rfl) (pe_callB (call_len_seqK (K := K) (by rfl)) (by rfl) B.len PySem.boot_len (pa_cons (pe_ix (ix_tupK (K := K) (by rfl)) (pe_cX G_automaton hr tk (pa_cons (pv 0) (pa_cons (pv 1) pa_nil))) pe_int (fun _ _ => rfl)) pa_nil))))
        (fun a oe cls d pn hz hf => pss_one (ps_set (i := 2) sc_size7.nd rfl (Or.inl rfl) (pe_xf T.xf T.no hz hf (pv 3)))))
      (pss_one (ps_ret (pv 2)))), ?_⟩
    walk_at "go"
    refine rd_callS ?_
    walk_at "go"
    refine ⟨al, v, p, rfl, hn, hL, hj, hv, hw, hT, fun N e m Sd hle => ⟨fun h40 t H1 e1 T1 ht => ?_, fun h40 d H1 e1 T1 ed => ?_⟩⟩
    · obtain ⟨tr, tm, rs, et, AA⟩ := dA_open ht
      walk_at "go"
      refine rd_ixt (SqT.of et) (atI_nat (j := 0) rfl) ?_
      walk_at "go"
      refine rd_len (.inr (SqT.of AA.r)) ?_
      rw [List.length_map, AA.len]
      walk_at "go"
      have := k N e m Sd H1 e1 T1
      rw [if_pos h40] at this
      exact this
    · refine ⟨true, T.exm, fun _ a ha => ?_, fun z => nomatch z⟩
      walk_at "go"
      refine rd_xf ?_
      walk_at "go"
      refine ⟨rfl, rfl, d, _, _, rfl, ed, lk_here, ?_⟩
      walk_at "go"
      have := k N e m Sd H1 e1 T1
      rw [if_neg (by omega)] at this
      exact this
end

end Cs
namespace Cs
open PySem L2
open PyProof.Rows (envOfC)
theorem ltx_mk {K : PySem.W.Frag} {h : Heap} {mg : Str → Option Value} {CT : Addr} (X : K.In h) (G : h.Ns mainGlobals mg) (aI : PySem.W.nsIn K mainGlobals "TooLarge" = some (some (.ref CT)))
    (e : eB K CT = true) (tI : PySem.W.typeIn K (.ref CT) = some (.type "type")) (no : PySem.W.findIn K (.ref CT) "what" = some none) (sI : PySem.W.subIn K (.ref CT) (.ref CT) = some true) : LTxt K mg CT where
  gI := PySem.W.mg_of X G aI
  exm := PySem.W.exm_ref (eB_ok e).1.hs (eB_ok e).1.hd tI sI
  xf := (eB_ok e).2.1
  no := no
theorem ltx_all {P : Program} {w : World} {K : PySem.W.Frag} {mg : Str → Option Value} {base : Heap} {CT : Addr} (t : LTxt K mg CT) (N : NewAt P w K mg base "TooLarge" CT ["what"]) : ∃ CT, LTxt K mg CT ∧ NewAt P w K mg base "TooLarge" CT ["what"] := ⟨_, t, N⟩

end Cs
namespace Cs
open PySem L2
open PyProof.Rows (envOfC)
/-! deeper is allowed too -/
theorem jd_mono {al : List Nat} {n : Nat} : ∀ {j : Nat} {p : Pt}, p.Jd al n j → p.Jd al n (j + 1)
  | 0, .set cs, h => h
  | 0, .row ps, h => h
  | 0, .again p lo hi, h => h
  | 0, .any ps, h => h.elim
  | 0, .all ps, h => h.elim
  | 0, .no p, h => h.elim
  | j + 1, .set cs, h => h
  | j + 1, .row ps, h => h
  | j + 1, .again p lo hi, h => h
  | j + 1, .any ps, h => ⟨h.1, fun p hp => jd_mono (h.2 p hp)⟩
  | j + 1, .all ps, h => ⟨h.1, fun p hp => jd_mono (h.2 p hp)⟩
  | j + 1, .no p, h => jd_mono (j := j) (p := p) h

end Cs
namespace Cs
open PySem L2
open PyProof.Rows (envOfC)
/-! the source of draws for one turn: a new list -/
def sp_source (K : PySem.W.Frag) : Sp := fun vs H Q _ => ∃ (a : Addr) (ns : List Int) (k : Int), vs = [.ref a, .int k] ∧ SqL K H a (ns.map V.int) ∧ 0 ≤ k ∧ k < 1000 ∧ ∀ (p : Addr) (H' : Hp), H p = none → Same H H' → Src p (2 ^ 39) H' → Q (.ref p) H'
theorem at_int {ns : List Int} {k : Int} (h0 : 0 ≤ k) (h1 : 0 < ns.length) : ∃ c : Int, atI (ns.map V.int) (k % (((ns.map V.int).length : Nat) : Int)) = some (.int c) := by
  have hl : (ns.map V.int).length = ns.length := List.length_map ..
  have p0 : 0 ≤ k % ((ns.length : Nat) : Int) := Int.emod_nonneg _ (by omega)
  have p1 : k % ((ns.length : Nat) : Int) < ns.length := Int.emod_lt_of_pos _ (by omega)
  obtain ⟨j, hj⟩ : ∃ j : Nat, k % ((ns.length : Nat) : Int) = (j : Int) := ⟨(k % ((ns.length : Nat) : Int)).toNat, by omega⟩
  have hj2 : j < ns.length := by omega
  refine ⟨ns[j], ?_⟩
  rw [hl, hj]
  exact atI_nat (by rw [List.getElem?_map, List.getElem?_eq_getElem hj2]; rfl)
section
variable {P : Program} {w : World} {K : PySem.W.Frag} {mg : Str → Option Value} {base : Heap}
theorem ok_source (B : Blt mg) (F : At K mg "_law_source" s__law_source ["_law_script", "_law_k"]) : Cal P w K mg base 1 "_law_source" ["_law_script", "_law_k"] (sp_source K) := by
  refine F.ok sc__law_source (fun vs H Q E h => ?_) (fun f cdv A outer s H vs Q E hr h => ?_)
  · obtain ⟨a, ns, k, rfl, _⟩ := h
    rfl
  · obtain ⟨a, ns, k, rfl, hS, k0, k1, kk⟩ := h
    refine ⟨_, (pss_cons (ps_set (i := 2) sc__law_source.nd rfl (Or.inl rfl) pe_int)
    (pss_cons (ps_set (i := 3) sc__law_source.nd rfl (Or.inl rfl) pe_int)
    (pss_cons (ps_if (pt_cmpR op_gt (pe_callB (call_len_seqK (K := K) (by rfl)) (by rfl) B.len PySem.boot_len (pa_cons (pv 0) pa_nil)) pe_int (nomark _))
    (pss_one (ps_set (i := 2) sc__law_source.nd rfl (Or.inl rfl) (pe_ix (ix_listK (K := K) (by rfl)) (pv 0) (pe_op op_mod (pv 1) (pe_callB (call_len_seqK (K := K) (by rfl)) (by rfl) B.len PySem.boot_len (pa_cons (pv 0) pa_nil))) (fun _ _ => rfl))))
    pss_nil)
    (pss_cons (ps_if (PW.pt (pw_and (pt_cmpR op_lt (pv 1) (pe_callB (call_len_seqK (K := K) (by rfl)) (by rfl) B.len PySem.boot_len (pa_cons (pv 0) pa_nil)) (nomark _)) (pw_and1 (pt_cmpR op_ge (pv 2) (pe_op op_pow pe_int pe_int) (nomark _)))))
    (pss_one (ps_set (i := 3) sc__law_source.nd rfl (Or.inl rfl) (pv 2)))
    pss_nil)
    (pss_one (ps_ret (pe_lst (pa_cons (pv 3) (pa_cons (pe_op op_add (pe_op op_add (pe_op op_mod (pv 2) pe_int) (pe_op op_mul pe_int (pv 1))) pe_int) (pa_cons pe_int pa_nil)))))))))), ?_⟩
    have fin : ∀ d c : Int, (c % 2147483647 + 7919000 * k + 104729) < 2 ^ 40 ∧ ∀ p, H p = none → Q (.ref p) (upd H p (.lst [.int d, .int (c % 2147483647 + 7919000 * k + 104729), .int 0])) := fun d c => by
      have h0 : 0 ≤ c % 2147483647 := Int.emod_nonneg _ (by decide)
      have h1 : c % 2147483647 < 2147483647 := Int.emod_lt_of_pos _ (by decide)
      refine ⟨by omega, fun p hp => kk p _ hp (fun b o e => by rw [upd_ne (ne_of_none e hp)]; exact e) ⟨d, _, 0, upd_same, by omega, by omega, by omega, by omega⟩⟩
    walk_at "go"
    refine rd_len (.inl hS) ?_
    walk_at "go"
    refine ite2 (fun hd => ?_) (fun hd => ?_)
    · walk_at "go"
      refine rd_len (.inl hS) ?_
      have hl : 0 < ns.length := by
        have := of_decide_eq_true hd
        rw [List.length_map] at this
        omega
      refine rd_i (by show (0 : Int) < _; rw [List.length_map]; omega) ?_
      obtain ⟨c, hc⟩ := at_int k0 hl
      refine rd_ixl hS hc ?_
      walk_at "go"
      refine rd_len (.inl hS) ?_
      walk_at "go"
      refine ite2 (fun hd2 => ?_) (fun hd2 => ?_)
      · walk_at "go"
        refine rd_i ⟨by decide, by decide, by decide⟩ ?_
        walk_at "go"
        refine ite2 (fun hd3 => ?_) (fun hd3 => ?_)
        · walk_at "go"
          refine rd_i (by decide) ?_
          walk_at "go"
          refine rd_i (.inl (by decide)) ?_
          walk_at "go"
          exact ⟨by show 3 ≤ sizeLine; decide, (fin _ _).2⟩
        · walk_at "go"
          refine rd_i (by decide) ?_
          walk_at "go"
          refine rd_i (.inl (by decide)) ?_
          walk_at "go"
          exact ⟨by show 3 ≤ sizeLine; decide, (fin _ _).2⟩
      · walk_at "go"
        refine rd_i (by decide) ?_
        walk_at "go"
        refine rd_i (.inl (by decide)) ?_
        walk_at "go"
        exact ⟨by show 3 ≤ sizeLine; decide, (fin _ _).2⟩
    · walk_at "go"
      refine rd_len (.inl hS) ?_
      walk_at "go"
      refine ite2 (fun hd2 => ?_) (fun hd2 => ?_)
      · exfalso
        have := of_decide_eq_true hd2
        have hd : ¬ ((0 : Int) < ((ns.map V.int).length : Nat)) := fun z => hd (decide_eq_true z)
        omega
      · walk_at "go"
        refine rd_i (by decide) ?_
        walk_at "go"
        refine rd_i (.inl (by decide)) ?_
        walk_at "go"
        exact ⟨by show 3 ≤ sizeLine; decide, (fin _ _).2⟩
end

end Cs
namespace Cs
open PySem L2
open PyProof.Rows (envOfC)
/-! an alphabet of m distinct characters -/
def allSigns : List Nat := [97, 98, 99, 100, 101, 102, 103, 104, 105, 106, 107, 108, 109, 110, 111, 112, 113, 114, 115, 116, 117, 118, 119, 120, 121, 122, 48, 49, 50, 51, 52, 53, 54, 55, 56, 57, 32, 45, 46, 95]
theorem allSigns_eq : Str.ofString "abcdefghijklmnopqrstuvwxyz0123456789 -." ++ Str.ofString "_" = S allSigns := by decide +kernel
theorem allSigns_nd : allSigns.Nodup := by decide +kernel
def sp_alphabet : Sp := fun vs H Q _ => ∃ (a : Addr) (m : Int) (n : Nat), vs = [.ref a, .int m] ∧ Src a (n + 6) H ∧ 1 ≤ m ∧ m ≤ 6 ∧ ∀ (al : List Nat) (H' : Hp), Alp al → (al.length : Int) = m → Src a n H' → Kp a H H' → Q (.str (S al)) H'
theorem use_alphabet {a : Addr} {m : Int} {n : Nat} {H : Hp} {Q : VK} {E : XK} (h : Src a (n + 6) H) (h0 : 1 ≤ m) (h1 : m ≤ 6) (k : ∀ (al : List Nat) (H' : Hp), Alp al → (al.length : Int) = m → Src a n H' → Kp a H H' → Q (.str (S al)) H') : sp_alphabet [.ref a, .int m] H Q E :=
  ⟨a, m, n, rfl, h, h0, h1, k⟩
theorem perm_erase {α : Type} : ∀ {l : List α} {j : Nat} {x : α}, l[j]? = some x → l.Perm (x :: l.eraseIdx j)
  | [], _, _, h => by simp at h
  | a :: l, 0, x, h => by
    have e : a = x := by simpa using h
    subst e
    exact List.Perm.refl _
  | a :: l, j + 1, x, h => by
    have ih := perm_erase (l := l) (j := j) (x := x) (by simpa using h)
    exact (List.Perm.cons a ih).trans (List.Perm.swap x a _)
theorem perm_pop {α : Type} {l : List α} {m : List α} {j : Nat} {x : α} (h : l[j]? = some x) : (m ++ l).Perm ((m ++ [x]) ++ l.eraseIdx j) := by
  rw [List.append_assoc]
  exact List.Perm.append_left m (perm_erase h)
section
variable {P : Program} {w : World} {K : PySem.W.Frag} {mg : Str → Option Value} {base : Heap}
theorem ok_alphabet (B : Blt mg) (G__law_draw : Cal P w K mg base 1 "_law_draw" ["_law_source_here", "_law_many"] sp_draw) (F : At K mg "_law_alphabet" s__law_alphabet ["_law_source_here", "_law_many"]) : Cal P w K mg base 2 "_law_alphabet" ["_law_source_here", "_law_many"] sp_alphabet := by
  refine F.ok sc__law_alphabet (fun vs H Q E h => ?_) (fun f cdv A outer s H vs Q E hr h => ?_)
  · obtain ⟨a, m, n, rfl, _⟩ := h
    rfl
  · obtain ⟨a, m, n, rfl, hS, m0, m1, k⟩ := h
    refine ⟨_, (pss_cons (ps_set (i := 2) sc__law_alphabet.nd rfl (Or.inr rfl) (pe_callTy (call_list_str rfl) (by rfl) B.list (by decide +kernel) (pa_cons (pe_op op_add_str pe_str pe_str) pa_nil)))
    (pss_one (ps_ret (pe_joinK (K := K) (by rfl) pe_str (pe_lc (own := [("_law_k", 3)]) rfl sc__law_alphabet.nd (pi_range1 (by rfl) B.range (pa_cons (pv 1) pa_nil)) (blkOk_by (N := ["_law_source_here", "_law_many", "_law_left", "_law_k"]) (sc := defScope s__law_alphabet) (by decide +kernel)) (fun _ _ _ _ _ => (pg_name (i := 3) sc__law_alphabet.nd rfl (Or.inl rfl))) (fun _ _ _ _ _ => pts_nil) (fun _ _ _ _ _ => (pe_bmK (K := K) (by rfl) PySem.F.plainAttrs_list PySem.F.slot_list_pop PySem.F.type_list_pop mt_popAt (pv 2) (pa_cons (pe_c G__law_draw (hr.mono (by first | decide | omega)) (pa_cons (pv 0) (pa_cons (pe_callB (call_len_seqK (K := K) (by rfl)) (by rfl) B.len PySem.boot_len (pa_cons (pv 2) pa_nil)) pa_nil))) pa_nil)))))))), ?_⟩
    walk_at "go"
    refine ⟨_, _, rfl, rfl, by decide +kernel, ?_⟩
    rw [allSigns_eq]
    refine ⟨_, rfl, by decide +kernel, fun L hL => ?_⟩
    walk_at "go"
    refine rd_rng1j (by omega) (by omega) ?_
    intro D hD
    have La : L ≠ a := hS.ne hL
    have DL : D ≠ L := fun z => by rw [z, upd_same] at hD; cases hD
    have hD0 : H D = none := by rw [upd_ne DL] at hD; exact hD
    have Da : D ≠ a := hS.ne hD0
    refine lc_range (lo := 0) (n := m.toNat) (fun i H' => ∃ left made : List Nat, H' L = some (.lst (left.map fun c => V.str (S [c]))) ∧ H' D = some (.lst (made.map fun c => V.str (S [c]))) ∧ (made ++ left).Perm allSigns ∧ made.length = i ∧ i ≤ 6 ∧ Src a (n + (6 - i)) H' ∧ Kp a H H') ?_ ?_ ?_
    · refine ⟨allSigns, [], ?_, upd_same, by simp, rfl, by omega, (hS.lay La).lay Da, (Kp.refl.lay hL).lay hD0⟩
      rw [upd_ne DL.symm, upd_same, signs_S, List.map_map]; rfl
    · rintro i H' hi ⟨left, made, eL, eD, hp, hl, i6, hS', kp⟩
      have hlen : made.length + left.length = 40 := by
        have := hp.length_eq
        rw [List.length_append] at this
        exact this
      walk_at "go"
      refine ⟨rfl, ?_⟩
      walk_at "go"
      refine ⟨.inl ⟨rfl, _, SqL.of eL⟩, ?_⟩
      walk_at "go"
      refine rd_len (.inl (SqL.of eL)) ?_
      walk_at "go"
      have e6 : n + (6 - i) = n + (6 - (i + 1)) + 1 := by omega
      rw [e6] at hS'
      refine use_draw hS' (by rw [List.length_map]; omega) (by rw [List.length_map]; omega) fun d H2 d0 d1 hS2 k2 => ?_
      walk_at "go"
      rw [List.length_map] at d1
      obtain ⟨j, hj⟩ : ∃ j : Nat, d = (j : Int) := ⟨d.toNat, by omega⟩
      subst hj
      have hj2 : j < left.length := by omega
      refine ⟨L, _, _, j, V.str (S [left[j]]), rfl, rfl, k2.at La eL, by omega, by omega, ?_, by rw [List.getElem?_map, List.getElem?_eq_getElem hj2]; rfl, ?_⟩
      · rw [List.length_map]; exact seqIx hj2
      · refine ⟨_, by rw [upd_ne DL]; exact k2.at Da eD, by rw [List.length_map]; show _ < sizeLine; rw [PySem.sizeLine_eq]; omega, left.eraseIdx j, made ++ [left[j]], ?_, ?_, ?_, ?_, by omega, (hS2.lay La).lay Da, ?_⟩
        · rw [upd_ne DL.symm, upd_same]
          congr 2
          exact map_erase _ _ _
        · rw [upd_same, List.map_append]; rfl
        · exact (perm_pop (List.getElem?_eq_getElem hj2)).symm.trans hp
        · rw [List.length_append, hl]; rfl
        · exact ((kp.trans k2).lay hL).lay hD0
    · rintro H' ⟨left, made, eL, eD, hp, hl, i6, hS', kp⟩
      refine ⟨_, D, made.map fun c => S [c], rfl, rfl, .inl (SqL.of (by rw [eD, List.map_map]; rfl)), ?_, ?_⟩
      · rw [sum_signs, List.length_map]
        show made.length + made.length * 0 ≤ _
        omega
      · walk_at "go"
        show Q (.str (Txt.join (Str.ofString "") (made.map fun c => S [c]))) H'
        rw [empty_S, join_signs]
        have nd : (made ++ left).Nodup := (hp.nodup_iff).mpr allSigns_nd
        refine k made H' ⟨(List.nodup_append.mp nd).1, by omega, by omega, fun c hc => ?_⟩ (by omega) (hS'.mono (by omega)) kp
        exact hp.subset (List.mem_append_left _ hc)
end

end Cs
namespace Cs
open PySem L2
open PyProof.Rows (envOfC)
theorem wds_ap (a b : List Pt) : Pt.wds (a ++ b) = Pt.wds a + Pt.wds b := by rw [Pt.wds_eq, Pt.wds_eq, Pt.wds_eq, List.map_append, List.sum_append]
theorem stdC (k : Nat) (b : Bool) : Std k 1 (fun _ _ => 0) (fun _ => b) (fun _ => b) :=
  ⟨Nat.one_pos, fun _ _ _ _ => Nat.one_pos, fun _ _ => rfl, fun i j hi hj _ => by omega, fun _ _ b _ _ _ => Nat.zero_le _, fun i h1 h2 => by omega⟩
theorem far7_L {X Y m : Nat} (w : List Nat) : ¬ (far7 X Y m).L w := by
  unfold far7
  simp only [Pt.L, Pt.LAll]
  rintro ⟨_, ⟨c, hc, _⟩, _⟩
  cases hc
theorem c7_std {al : List Nat} (hal : al.Nodup) (h4 : 4 ≤ al.length) (h6 : al.length ≤ 6) {p : Pt} {due : Nat} (h : C7 al p due) : ∃ e m, Std al.length due e m (LgB al p.L) := by
  rcases h with ⟨m, hm, rfl, rfl⟩ | ⟨s, ev, hc, rfl, rfl⟩
  · refine ⟨_, _, (?_ : Std al.length 1 (fun _ _ => 0) (fun _ => false) _)⟩
    have e : LgB al (far7 (al.getD 0 0) (al.getD 1 0) m).L = fun _ => false := by
      funext w
      rw [Bool.eq_false_iff]
      exact fun q => far7_L _ (LgB_iff.mp q)
    rw [e]
    exact stdC _ _
  · obtain ⟨e, m, S⟩ := std7 (k := al.length) (by omega) hc
    exact ⟨e, m, { S with lang := fun w hw => by rw [S.lang w hw]; exact P7_cols hal h4 (by omega) hw }⟩
theorem no_std {al : List Nat} {p : Pt} {due : Nat} (h : ∃ e m, Std al.length due e m (LgB al p.L)) : ∃ e m, Std al.length due e m (LgB al (Pt.no p).L) := by
  obtain ⟨e, m, S⟩ := h
  refine ⟨e, _, (?_ : Std al.length due e (fun a => !m a) _)⟩
  have : LgB al (Pt.no p).L = fun w => !LgB al p.L w := by
    funext w
    rw [Bool.eq_iff_iff, LgB_iff, Pt.L]
    cases q : LgB al p.L w with
    | true => simp; exact LgB_iff.mp q
    | false =>
      simp
      intro z
      rw [LgB_iff.mpr z] at q; cases q
  rw [this]
  exact S.neg
theorem c7_ok {al : List Nat} (h4 : 4 ≤ al.length) {p : Pt} {due : Nat} (h : C7 al p due) : p.Jd al 4 2 ∧ p.wd ≤ 15 := by
  have hm : ∀ i, i < 4 → al.getD i 0 ∈ al := fun i hi => by
    rw [List.getD_eq_getElem?_getD, List.getElem?_eq_getElem (by omega)]; exact List.getElem_mem _
  have h0 := hm 0 (by decide)
  have h1 := hm 1 (by decide)
  have h2 := hm 2 (by decide)
  have h3 := hm 3 (by decide)
  have one : ∀ {X n}, X ∈ al → (Pt.set [X]).Pl al n := fun {X n} hX => by
    cases n <;> exact fun c hc => by rw [List.mem_singleton.mp hc]; exact hX
  have two : ∀ {X Y n}, X ∈ al → Y ∈ al → (Pt.set [X, Y]).Pl al n := fun {X Y n} hX hY => by
    cases n <;> exact fun c hc => by
      rcases List.mem_cons.mp hc with rfl | hc
      · exact hX
      · rw [List.mem_singleton.mp hc]; exact hY
  have rp : ∀ (m : Nat) (q : Pt), Pt.wds (List.replicate m q) = m * q.wd := fun m q => by
    induction m with
    | zero => simp [Pt.wds]
    | succ m ih => rw [List.replicate_succ, Pt.wds, ih, Nat.succ_mul]; omega
  rcases h with ⟨m, hm7, rfl, rfl⟩ | ⟨s, ev, hc, rfl, rfl⟩
  · unfold far7
    refine ⟨⟨by show 2 ≤ 60; decide, fun q hq => ?_⟩, ?_⟩
    · simp only [List.mem_cons, List.not_mem_nil, or_false] at hq
      rcases hq with rfl | rfl
      · refine ⟨by simp; omega, fun q hq => ?_⟩
        rcases List.mem_append.mp hq with hq | hq
        · simp only [List.mem_cons, List.not_mem_nil, or_false] at hq
          rcases hq with rfl | rfl
          · exact ⟨two h0 h1, by decide, fun _ e => nomatch e⟩
          · exact one h0
        · rw [(List.mem_replicate.mp hq).2]; exact two h0 h1
      · exact fun c hc => by cases hc
    · simp only [Pt.wd, Pt.wds, wds_ap, rp]
      omega
  · have hev : ev < 2 := by omega
    have hs : s ≤ 5 := by omega
    unfold P7 first7 ag7
    refine ⟨⟨by show 2 ≤ 60; decide, fun q hq => ?_⟩, ?_⟩
    · simp only [List.mem_cons, List.not_mem_nil, or_false] at hq
      rcases hq with rfl | rfl
      · refine ⟨by simp; omega, fun q hq => ?_⟩
        rcases List.mem_append.mp hq with hq | hq
        · rcases List.mem_append.mp hq with hq | hq
          · simp only [List.mem_cons, List.not_mem_nil, or_false] at hq
            rcases hq with rfl | rfl
            · exact ⟨two h0 h1, by decide, fun _ e => nomatch e⟩
            · exact one h0
          · rw [(List.mem_replicate.mp hq).2]; exact two h0 h1
        · rw [List.mem_singleton.mp hq]; exact one h2
      · refine ⟨by show 2 ≤ 60; decide, fun q hq => ?_⟩
        simp only [List.mem_cons, List.not_mem_nil, or_false] at hq
        rcases hq with rfl | rfl
        · refine ⟨?_, by decide, fun _ e => nomatch e⟩
          split
          · exact one h0
          · refine ⟨by show 2 ≤ 60; decide, fun q hq => ?_⟩
            simp only [List.mem_cons, List.not_mem_nil, or_false] at hq
            rcases hq with rfl | rfl <;> exact one h0
        · exact one h3
    · by_cases e : ev = 0
      · rw [if_pos e]
        simp only [Pt.wd, Pt.wds, wds_ap, rp]; omega
      · rw [if_neg e]
        simp only [Pt.wd, Pt.wds, wds_ap, rp]; omega
section
variable {P : Program} {w : World} {K : PySem.W.Frag} {mg : Str → Option Value} {base : Heap}
theorem ok_law (B : Blt mg) {Pa : Addr} (G__law_source : Cal P w K mg base 1 "_law_source" ["_law_script", "_law_k"] (sp_source K)) (G__law_alphabet : Cal P w K mg base 2 "_law_alphabet" ["_law_source_here", "_law_many"] sp_alphabet)
    (G__law_draw : Cal P w K mg base 1 "_law_draw" ["_law_source_here", "_law_many"] sp_draw) (G__law_case : Cal P w K mg base 2 "_law_case" ["_law_source_here", "_law_alphabet_here"] sp_case7)
    (G__law_size : Cal P w K mg base 25 "_law_size" ["_law_alphabet_here", "_law_pattern"] (sp_size7 Pa))
    {f : Addr} {fd : FuncData} (F : Fun K "law" "law" s_law f fd) : FnOk P w K mg base CX0 230 f fd ["_law_script"] (spLawT K Pa) := by
  refine F.ok (k := 229) sc_law (fun vs H Q E h => ?_) (fun cdv A outer s H vs Q E hr h => ?_)
  · obtain ⟨a, ns, rfl, _⟩ := h
    rfl
  · obtain ⟨a, ns, rfl, hS, hlen, hT, k⟩ := h
    refine ⟨_, (pss_cons (ps_for PassesOwn.never rfl (pi_range1 (by rfl) B.range (pa_cons pe_int pa_nil)) (pg_name (i := 1) sc_law.nd rfl (Or.inl rfl))
    (pss_cons (ps_set (i := 2) sc_law.nd rfl (Or.inl rfl) (pe_c G__law_source (hr.mono (by first | decide | omega)) (pa_cons (pv 0) (pa_cons (pv 1) pa_nil))))
    (pss_cons (ps_set (i := 3) sc_law.nd rfl (Or.inl rfl) (pe_c G__law_alphabet (hr.mono (by first | decide | omega)) (pa_cons (pv 2) (pa_cons (pe_op op_add pe_int (pe_c G__law_draw (hr.mono (by first | decide | omega)) (pa_cons (pv 2) (pa_cons pe_int pa_nil)))) pa_nil))))
    (pss_cons (ps_asg (pe_c G__law_case (hr.mono (by first | decide | omega)) (pa_cons (pv 2) (pa_cons (pv 3) pa_nil))) (pg_tupK (n := 2) (K := K) (by rfl) (by rfl) (pgs_cons (pg_name (i := 4) sc_law.nd rfl (Or.inl rfl)) (pgs_cons (pg_name (i := 5) sc_law.nd rfl (Or.inl rfl)) pgs_nil))))
    (pss_cons (ps_if (pt_cmpR op_eq (pe_c G__law_draw (hr.mono (by first | decide | omega)) (pa_cons (pv 2) (pa_cons pe_int pa_nil))) pe_int (nomark _))
    (pss_one (ps_set (i := 4) sc_law.nd rfl (Or.inl rfl) (pe_tup (pa_cons pe_str (pa_cons (pv 4) pa_nil)))))
    pss_nil)
    (pss_one (ps_if (pt_cmpR op_ne (pe_c G__law_size (hr.mono (by first | decide | omega)) (pa_cons (pv 3) (pa_cons (pv 4) pa_nil))) (pe_ix (ix_listK (K := K) (by rfl)) (pe_lst (pa_cons (pv 5) (pa_cons pe_str pa_nil))) (pe_callTy call_int1 (by rfl) B.int (by decide +kernel) (pa_cons (pe_cmpR op_gt (pv 5) pe_int (nomark _)) pa_nil)) (fun _ _ => rfl)) (nomark _))
    (pss_one (ps_ret pe_bl))
    pss_nil)))))))
    (pss_one (ps_ret pe_bl))), ?_⟩
    walk_at "go"
    refine rd_rng1j (by decide) (by decide) ?_
    refine for_range (lo := 0) (n := 5) (fun i σ H' => ∃ x1 x2 x3 x4 x5 : Option V, σ = [some (.ref a), x1, x2, x3, x4, x5] ∧ LamX.ExtN H H' ∧ LamX.Tabs (TbA Pa) H') ?_ ?_ ?_
    · exact ⟨_, _, _, _, _, rfl, .refl _, hT⟩
    · rintro i σ H0 hi ⟨x1, x2, x3, x4, x5, rfl, sm0, T0⟩
      walk_at "go"
      refine ⟨a, ns, _, rfl, SqL.ext hS sm0, by omega, by omega, fun p H1 hp sm1 hS1 => ?_⟩
      walk_at "go"
      refine use_draw (n := 19999) (hS1.mono (by decide)) (by decide) (by decide) fun m0 H2 m1 m2 hS2 k2 => ?_
      obtain ⟨m, hm⟩ : ∃ m : Int, m = 4 + m0 := ⟨_, rfl⟩
      walk_at "go"
      rw [← hm]
      refine use_alphabet (n := 19000) (hS2.mono (by decide)) (by omega) (by omega) fun al H3 hA hal hS3 k3 => ?_
      have al4 : 4 ≤ al.length := by omega
      have al6 := hA.hi
      walk_at "go"
      refine ⟨p, al, 18000, rfl, hA, al4, hS3.mono (by decide), fun t v pt due H4 et hv hc hS4 k4 => ?_⟩
      refine rd_gtup (SqT.of et) rfl ?_
      refine Cs.rd_gcons ?_
      refine Cs.rd_gname ?_
      refine Cs.rd_gcons ?_
      refine Cs.rd_gname ?_
      refine Cs.rd_gnil ?_
      dsimp only
      have T4 := Tabs.kp hS3 k4 (Tabs.kp hS2 k3 (Tabs.kp hS1 k2 (T0.ext sm1)))
      have r4 : KpE p H1 H4 := (KpE.kp k2).trans ((KpE.kp k3).trans (KpE.kp k4))
      obtain ⟨cj, cw⟩ := c7_ok al4 hc
      have cS := c7_std hA.nd al4 al6 hc
      refine rd_cutV2 (fun σ' H' => ∃ (v' : V) (p' : Pt) (m : Nat), σ' = [some (.ref a), some (.int (0 + (i : Nat))), some (.ref p), some (.str (S al)), some v', some (vn due)] ∧ Tp H' v' p'.d ∧ p'.Jd al 4 3 ∧ p'.wd ≤ 15 ∧ (∃ e m, Std al.length due e m (LgB al p'.L)) ∧ Src p m H' ∧ KpE p H1 H' ∧ LamX.Tabs (TbA Pa) H') (fun nx fin => ?_) ?_
      · walk_at "go"
        refine use_draw (n := 17000) (hS4.mono (by decide)) (by decide) (by decide) fun d0 H5 d1 d2 hS5 k5 => ?_
        have hv5 := hv.ts (TS.kp hS4 k5)
        have T5 := Tabs.kp hS4 k5 T4
        walk_at "go"
        refine ite2 (fun z => ?_) (fun z => ?_)
        · walk_at "go"
          refine ⟨by show 2 ≤ sizeLine; decide, rd_tupT hS5 (.cons (.str _) (.cons hv5 .nil)) fun q H6 hq hS6 k6 t6 => ?_⟩
          walk_at "go"
          exact fin _ _ ⟨_, .no pt, _, rfl, by rw [Pt.d]; exact hq, cj, by rw [Pt.wd]; exact cw, no_std cS, hS6, r4.trans ((KpE.kp k5).trans (KpE.kp k6)), Tabs.kp hS5 k6 T5⟩
        · walk_at "go"
          exact fin _ _ ⟨_, pt, _, rfl, hv5, jd_mono cj, cw, cS, hS5, r4.trans (KpE.kp k5), T5⟩
      · rintro σ7 H7 ⟨v', p', mm, rfl, hv7, hj7, hw7, ⟨e, mk, Sd⟩, hS7, r7, T7⟩
        walk_at "go"
        refine ⟨al, v', p', rfl, hA.nd, by omega, hj7, hv7, hw7, T7, fun N e' m' Sd' H8 e8 T8 => ?_⟩
        have eN : N = due := (std_unique Sd' Sd).1
        subst eN
        walk_at "go"
        refine ⟨by show 2 ≤ sizeLine; decide, fun l hl => ?_⟩
        have s9 : L2.Same H8 (upd H8 l (.lst [vn N, .str (kS "pattern")])) := same_lay hl
        walk_at "go"
        refine .inr ⟨_, rfl, ?_⟩
        by_cases h40 : N ≤ 40
        · have hd : decide ((N : Int) > 40) = false := decide_eq_false (by omega)
          rw [hd, if_pos h40]
          refine rd_ixl (SqL.of upd_same) (atI_nat (j := 0) rfl) ?_
          walk_at "go"
          refine ite2 (fun z => absurd z (by simp)) (fun _ => ?_)
          walk_at "go"
          exact ⟨_, _, _, _, _, rfl, sm0.trans (KpE.back hp sm1 (r7.trans ((KpE.ext e8).trans (KpE.of s9)))), T8.ext s9⟩
        · have hd : decide ((N : Int) > 40) = true := decide_eq_true (by omega)
          rw [hd, if_neg h40]
          refine rd_ixl (SqL.of upd_same) (atI_nat (j := 1) rfl) ?_
          walk_at "go"
          refine ite2 (fun z => absurd z (by simp)) (fun _ => ?_)
          walk_at "go"
          exact ⟨_, _, _, _, _, rfl, sm0.trans (KpE.back hp sm1 (r7.trans ((KpE.ext e8).trans (KpE.of s9)))), T8.ext s9⟩
    · rintro σ H' ⟨x1, x2, x3, x4, x5, rfl, sm, T⟩
      walk_at "go"
      exact k H'
end

end Cs

open PySem PySem.W PyProof.Rows in
set_option maxRecDepth 100000 in
set_option maxHeartbeats 0 in
theorem PySem.Challenge.cw_cutscribe_k07_automata_at_the_limit_holds : PySem.Challenge.rw_cutscribe_k07_automata_at_the_limit.Holds := by
  w_on; o_law; k_head; (case hw => w_witness2)
  k_fill
  refine Cs.walk_cT (st := Cs.s_law) (l := PySem.Challenge.rw_cutscribe_k07_automata_at_the_limit) rfl rfl rfl (fun w h Y => PySem.W.km_in_of Y) ?F
  case F =>
    intro w mg h Y KX G
    have hT8 := PySem.W.km_tabs_of Y
    have hAut : ∃ c Pa, h.get? Pa = some { cls := .none, data := .fields #[] } ∧ (L2.KOf KX).lookup Pa = none ∧ PySem.W.CodeHd h c Pa ∧ Cs.AtT (L2.KOf KX) mg "automaton" Cs.s_automaton ["alphabet", "pattern"] c := by
      refine' Cs.autoT_mk KX G (hT8 _ List.mem_cons_self) ?aa ?ll ?cc ?kk ?bb ?t2 ?t3
      (case aa => ((try dsimp only [L2.KOf]); k_is))
      (case ll => ((try dsimp only [L2.KOf]); k_is))
      (case cc => ((try dsimp only [L2.KOf]); k_is))
      (case kk => ((try dsimp only [L2.KOf]); k_is))
      (case bb => exact fun _ _ _ _ _ _ us hl => match us, hl with | [_, _], _ => rfl)
      (case t2 => ((try dsimp only [L2.KOf]); kernel_rfl))
      (case t3 => ((try dsimp only [L2.KOf]); kernel_rfl))
    have hExp : Cs.ExAt (L2.KOf KX) mg := by
      refine' Cs.exat_mk KX G ?aa ?ll ?cc ?kk ?lT ?oT ?hi ?bb
      (case aa => ((try dsimp only [L2.KOf]); k_is))
      (case ll => ((try dsimp only [L2.KOf]); k_is))
      (case cc => ((try dsimp only [L2.KOf]); k_is))
      (case kk => ((try dsimp only [L2.KOf]); k_is))
      (case lT => ((try dsimp only [L2.KOf]); k_is))
      (case oT => rfl)
      (case hi => rfl)
      (case bb => exact fun _ _ _ _ _ _ _ _ _ => ⟨_, rfl, rfl⟩)
    obtain ⟨cA, Pa, t1, t2, t3, A_automaton⟩ := hAut
    have B : Cs.Blt mg := by
      refine' Cs.blt_mk KX G ?z0 ?z1 ?z2 ?z3 ?z4 ?z5 ?z6 ?z7 ?z8 ?z9 ?z10 ?z11 ?z12 ?z13 ?z14 ?z15 ?z16
      (case z0 => k_is)
      (case z1 => k_is)
      (case z2 => k_is)
      (case z3 => k_is)
      (case z4 => k_is)
      (case z5 => k_is)
      (case z6 => k_is)
      (case z7 => k_is)
      (case z8 => k_is)
      (case z9 => k_is)
      (case z10 => k_is)
      (case z11 => k_is)
      (case z12 => k_is)
      (case z13 => k_is)
      (case z14 => k_is)
      (case z15 => k_is)
      (case z16 => k_is)
    have A__choice : Cs.At (L2.KOf KX) mg "_choice" Cs.s__choice ["pieces"] := by
      refine' Cs.at_mk KX G ?a ?l ?c ?k ?b
      (case a => k_is)
      (case l => k_is)
      (case c => k_is)
      (case k => k_is)
      (case b => exact fun _ _ _ _ _ _ us hl => match us, hl with | [_], _ => rfl)
    have A__holds : Cs.At (L2.KOf KX) mg "_holds" Cs.s__holds ["verdict", "state"] := by
      refine' Cs.at_mk KX G ?a ?l ?c ?k ?b
      (case a => k_is)
      (case l => k_is)
      (case c => k_is)
      (case k => k_is)
      (case b => exact fun _ _ _ _ _ _ us hl => match us, hl with | [_, _], _ => rfl)
    have A__classes : Cs.At (L2.KOf KX) mg "_classes" Cs.s__classes ["rows", "marks"] := by
      refine' Cs.at_mk KX G ?a ?l ?c ?k ?b
      (case a => k_is)
      (case l => k_is)
      (case c => k_is)
      (case k => k_is)
      (case b => exact fun _ _ _ _ _ _ us hl => match us, hl with | [_, _], _ => rfl)
    have A__numbered : Cs.At (L2.KOf KX) mg "_numbered" Cs.s__numbered ["labels"] := by
      refine' Cs.at_mk KX G ?a ?l ?c ?k ?b
      (case a => k_is)
      (case l => k_is)
      (case c => k_is)
      (case k => k_is)
      (case b => exact fun _ _ _ _ _ _ us hl => match us, hl with | [_], _ => rfl)
    have A__merged : Cs.At (L2.KOf KX) mg "_merged" Cs.s__merged ["rows", "marks", "classes"] := by
      refine' Cs.at_mk KX G ?a ?l ?c ?k ?b
      (case a => k_is)
      (case l => k_is)
      (case c => k_is)
      (case k => k_is)
      (case b => exact fun _ _ _ _ _ _ us hl => match us, hl with | [_, _, _], _ => rfl)
    have A__law_source : Cs.At (L2.KOf KX) mg "_law_source" Cs.s__law_source ["_law_script", "_law_k"] := by
      refine' Cs.at_mk KX G ?a ?l ?c ?k ?b
      (case a => k_is)
      (case l => k_is)
      (case c => k_is)
      (case k => k_is)
      (case b => exact fun _ _ _ _ _ _ us hl => match us, hl with | [_, _], _ => rfl)
    have A__law_draw : Cs.At (L2.KOf KX) mg "_law_draw" Cs.s__law_draw ["_law_source_here", "_law_many"] := by
      refine' Cs.at_mk KX G ?a ?l ?c ?k ?b
      (case a => k_is)
      (case l => k_is)
      (case c => k_is)
      (case k => k_is)
      (case b => exact fun _ _ _ _ _ _ us hl => match us, hl with | [_, _], _ => rfl)
    have A__law_alphabet : Cs.At (L2.KOf KX) mg "_law_alphabet" Cs.s__law_alphabet ["_law_source_here", "_law_many"] := by
      refine' Cs.at_mk KX G ?a ?l ?c ?k ?b
      (case a => k_is)
      (case l => k_is)
      (case c => k_is)
      (case k => k_is)
      (case b => exact fun _ _ _ _ _ _ us hl => match us, hl with | [_, _], _ => rfl)
    have A__law_size : Cs.At (L2.KOf KX) mg "_law_size" Cs.s__law_size ["_law_alphabet_here", "_law_pattern"] := by
      refine' Cs.at_mk KX G ?a ?l ?c ?k ?b
      (case a => k_is)
      (case l => k_is)
      (case c => k_is)
      (case k => k_is)
      (case b => exact fun _ _ _ _ _ _ us hl => match us, hl with | [_, _], _ => rfl)
    have A__law_case : Cs.At (L2.KOf KX) mg "_law_case" Cs.s__law_case ["_law_source_here", "_law_alphabet_here"] := by
      refine' Cs.at_mk KX G ?a ?l ?c ?k ?b
      (case a => k_is)
      (case l => k_is)
      (case c => k_is)
      (case k => k_is)
      (case b => exact fun _ _ _ _ _ _ us hl => match us, hl with | [_, _], _ => rfl)
    have C_START : ∃ u, mg "START" = some u ∧ L2.RelV (.int 1) u := by
      refine' Cs.const_mk KX G ?a ?r
      (case a => k_is)
      (case r => exact ⟨_, rfl⟩)
    have C_MOST_STATES : ∃ u, mg "MOST_STATES" = some u ∧ L2.RelV (.int 40) u := by
      refine' Cs.const_mk KX G ?a ?r
      (case a => k_is)
      (case r => exact ⟨_, rfl⟩)
    refine' Cs.lawT_mk KX t1 t2 t3 ?a ?l ?c ?k ?b ?G2
    (case a => k_is)
    (case l => k_is)
    (case c => k_is)
    (case k => k_is)
    (case b => exact fun _ _ _ _ _ _ _ => rfl)
    (case G2 =>
      intro base f fd TB F
      have hM : ∃ C, Cs.MachAt (L2.KOf KX) mg C := by
        refine' Cs.mach_mk KX G ?aC ?pg ?hd ?po ?sa ?nR ?nF ?nV C_START ?mk ?kc ?m0 ?m1 ?m2 ?m3 ?m4 ?m5 ?m6 ?m7 ?m8 ?m9
        (case aC => ((try dsimp only [L2.KOf]); k_is))
        (case pg => ((try dsimp only [L2.KOf]); k_is))
        (case hd => ((try dsimp only [L2.KOf]); k_is))
        (case po => ((try dsimp only [L2.KOf]); k_is))
        (case sa => ((try dsimp only [L2.KOf]); k_is))
        (case nR => ((try dsimp only [L2.KOf]); k_is))
        (case nF => ((try dsimp only [L2.KOf]); k_is))
        (case nV => ((try dsimp only [L2.KOf]); k_is))
        (case mk => ((try dsimp only [L2.KOf]); k_is))
        (case kc => ((try dsimp only [L2.KOf]); k_is))
        (case m0 =>
          refine' Cs.atm_mk ?a ?i ?l ?c ?k ?b
          (case a => ((try dsimp only [L2.KOf]); k_is))
          (case i => ((try dsimp only [L2.KOf]); k_is))
          (case l => ((try dsimp only [L2.KOf]); k_is))
          (case c => ((try dsimp only [L2.KOf]); k_is))
          (case k => ((try dsimp only [L2.KOf]); k_is))
          (case b => exact fun _ _ _ _ _ _ us hl => match us, hl with | [_, _, _], _ => rfl))
        (case m1 =>
          refine' Cs.atm_mk ?a ?i ?l ?c ?k ?b
          (case a => ((try dsimp only [L2.KOf]); k_is))
          (case i => ((try dsimp only [L2.KOf]); k_is))
          (case l => ((try dsimp only [L2.KOf]); k_is))
          (case c => ((try dsimp only [L2.KOf]); k_is))
          (case k => ((try dsimp only [L2.KOf]); k_is))
          (case b => exact fun _ _ _ _ _ _ us hl => match us, hl with | [_, _, _], _ => rfl))
        (case m2 =>
          refine' Cs.atm_mk ?a ?i ?l ?c ?k ?b
          (case a => ((try dsimp only [L2.KOf]); k_is))
          (case i => ((try dsimp only [L2.KOf]); k_is))
          (case l => ((try dsimp only [L2.KOf]); k_is))
          (case c => ((try dsimp only [L2.KOf]); k_is))
          (case k => ((try dsimp only [L2.KOf]); k_is))
          (case b => exact fun _ _ _ _ _ _ us hl => match us, hl with | [_, _], _ => rfl))
        (case m3 =>
          refine' Cs.atm_mk ?a ?i ?l ?c ?k ?b
          (case a => ((try dsimp only [L2.KOf]); k_is))
          (case i => ((try dsimp only [L2.KOf]); k_is))
          (case l => ((try dsimp only [L2.KOf]); k_is))
          (case c => ((try dsimp only [L2.KOf]); k_is))
          (case k => ((try dsimp only [L2.KOf]); k_is))
          (case b => exact fun _ _ _ _ _ _ us hl => match us, hl with | [_, _], _ => rfl))
        (case m4 =>
          refine' Cs.atm_mk ?a ?i ?l ?c ?k ?b
          (case a => ((try dsimp only [L2.KOf]); k_is))
          (case i => ((try dsimp only [L2.KOf]); k_is))
          (case l => ((try dsimp only [L2.KOf]); k_is))
          (case c => ((try dsimp only [L2.KOf]); k_is))
          (case k => ((try dsimp only [L2.KOf]); k_is))
          (case b => exact fun _ _ _ _ _ _ us hl => match us, hl with | [_, _], _ => rfl))
        (case m5 =>
          refine' Cs.atm_mk ?a ?i ?l ?c ?k ?b
          (case a => ((try dsimp only [L2.KOf]); k_is))
          (case i => ((try dsimp only [L2.KOf]); k_is))
          (case l => ((try dsimp only [L2.KOf]); k_is))
          (case c => ((try dsimp only [L2.KOf]); k_is))
          (case k => ((try dsimp only [L2.KOf]); k_is))
          (case b => exact fun _ _ _ _ _ _ us hl => match us, hl with | [_, _], _ => rfl))
        (case m6 =>
          refine' Cs.atm_mk ?a ?i ?l ?c ?k ?b
          (case a => ((try dsimp only [L2.KOf]); k_is))
          (case i => ((try dsimp only [L2.KOf]); k_is))
          (case l => ((try dsimp only [L2.KOf]); k_is))
          (case c => ((try dsimp only [L2.KOf]); k_is))
          (case k => ((try dsimp only [L2.KOf]); k_is))
          (case b => exact fun _ _ _ _ _ _ us hl => match us, hl with | [_, _, _, _], _ => rfl))
        (case m7 =>
          refine' Cs.atm_mk ?a ?i ?l ?c ?k ?b
          (case a => ((try dsimp only [L2.KOf]); k_is))
          (case i => ((try dsimp only [L2.KOf]); k_is))
          (case l => ((try dsimp only [L2.KOf]); k_is))
          (case c => ((try dsimp only [L2.KOf]); k_is))
          (case k => ((try dsimp only [L2.KOf]); k_is))
          (case b => exact fun _ _ _ _ _ _ us hl => match us, hl with | [_, _], _ => rfl))
        (case m8 =>
          refine' Cs.atm_mk ?a ?i ?l ?c ?k ?b
          (case a => ((try dsimp only [L2.KOf]); k_is))
          (case i => ((try dsimp only [L2.KOf]); k_is))
          (case l => ((try dsimp only [L2.KOf]); k_is))
          (case c => ((try dsimp only [L2.KOf]); k_is))
          (case k => ((try dsimp only [L2.KOf]); k_is))
          (case b => exact fun _ _ _ _ _ _ us hl => match us, hl with | [_, _], _ => rfl))
        (case m9 =>
          refine' Cs.atm_mk ?a ?i ?l ?c ?k ?b
          (case a => ((try dsimp only [L2.KOf]); k_is))
          (case i => ((try dsimp only [L2.KOf]); k_is))
          (case l => ((try dsimp only [L2.KOf]); k_is))
          (case c => ((try dsimp only [L2.KOf]); k_is))
          (case k => ((try dsimp only [L2.KOf]); k_is))
          (case b => exact fun _ _ _ _ _ _ us hl => match us, hl with | [_, _, _], _ => rfl))
      have hL : ∃ CT, Cs.LTxt (L2.KOf KX) mg CT ∧ Cs.NewAt PySem.Challenge.rw_cutscribe_k07_automata_at_the_limit.prog w (L2.KOf KX) mg base "TooLarge" CT ["what"] := by
        refine' Cs.ltx_all (Cs.ltx_mk KX G ?aI ?e ?tI ?no ?sI) ?newL
        (case aI => ((try dsimp only [L2.KOf]); k_is))
        (case e =>
          (try dsimp only [L2.KOf])
          refine Cs.eB_mk ?_ ?_ ?_ ?_ ?_ ?_ ?_ ?_ ?_
          all_goals k_is)
        (case tI => ((try dsimp only [L2.KOf]); k_is))
        (case no => ((try dsimp only [L2.KOf]); k_is))
        (case sI => ((try dsimp only [L2.KOf]); k_is))
        (case newL =>
          refine' Cs.new_mk (st := Cs.s_i_TooLarge) (qn := "TooLarge.__init__") (ps := ["self", "what"]) (PySem.W.mg_of KX G ?g) ?o ?r ?sa ?tC ?e ?iC ?tI ?l ?c ?k ?b ?ok
          (case g => ((try dsimp only [L2.KOf]); k_is))
          (case o => ((try dsimp only [L2.KOf]); k_is))
          (case r => decide +kernel)
          (case sa => ((try dsimp only [L2.KOf]); k_is))
          (case tC => ((try dsimp only [L2.KOf]); k_is))
          (case e =>
            (try dsimp only [L2.KOf])
            refine Cs.eB_mk ?_ ?_ ?_ ?_ ?_ ?_ ?_ ?_ ?_
            all_goals k_is)
          (case iC => ((try dsimp only [L2.KOf]); k_is))
          (case tI => ((try dsimp only [L2.KOf]); k_is))
          (case l => ((try dsimp only [L2.KOf]); k_is))
          (case c => ((try dsimp only [L2.KOf]); k_is))
          (case k => ((try dsimp only [L2.KOf]); k_is))
          (case b => exact fun _ _ _ _ _ _ us hl => match us, hl with | [_, _], _ => rfl)
          (case ok => exact fun hO _ _ F => Cs.ok_i_TooLarge hO (by ((try dsimp only [L2.KOf]); k_is)) F))
      obtain ⟨C, M⟩ := hM
      obtain ⟨CT, TT, NT⟩ := hL
      have Gd := Cs.ok_draw (P := PySem.Challenge.rw_cutscribe_k07_automata_at_the_limit.prog) (w := w) (base := base) A__law_draw
      have Gs := Cs.ok_source (P := PySem.Challenge.rw_cutscribe_k07_automata_at_the_limit.prog) (w := w) (base := base) B A__law_source
      have Ga := Cs.ok_alphabet B Gd A__law_alphabet
      have Gca := Cs.ok_case7 B Gd A__law_case
      have Gau := Cs.automaton_all (P := PySem.Challenge.rw_cutscribe_k07_automata_at_the_limit.prog) (w := w) (j := 3) B M TB A__choice A__holds A__numbered A__classes A__merged hExp C_MOST_STATES NT A_automaton
      have Gsz := Cs.ok_size7 B TT Gau A__law_size
      exact Cs.ok_law B Gs Ga Gd Gca Gsz F)
#print axioms PySem.Challenge.cw_cutscribe_k07_automata_at_the_limit_holds
