import PyProof.Rows.All
import Wide.All
import OpenK.AllK
import Wide.FinOn
import PyProof.EqAt
import PyProof.EqKinds
import PyProof.TupleCall
import HandS.ForMost
import HandS.ForExc
import HandS.IsInst
import HandS.Flow
import HandS.More
import HandS.ExcIs
import HandS.Defaults
import HandS.Wide
import HandS.Conv
import HandS.Lambda
import HandS.EndTab
import KE.KNestM
import HandS.Text
import HandS.TupLe
import HandS.RaiseMore
import HandS.ExcInit
import HandS.SortInts
import KE.KExcIs
import PyProof.Rows.StrMeet
import PySem.Challenge.RW_whysheets_k01_words_of_texts
set_option Elab.async false
set_option linter.all false
set_option maxRecDepth 100000
set_option maxHeartbeats 4000000
/-! A weakest-wish reading of the hand layer: what an expression, a test, a statement must show, said of the syntax itself; the rule of an operator is chosen by the values that are met. -/
namespace Wx
open PySem L2

def WE (X : Cx) (e : Expr) (σ : L2.St) (H : Hp) (Q : VK) : Prop :=
  ∀ (pins : List (Addr × Obj)) (s : Shared), Inv X pins σ H s → wpAny (model X.prog X.w) X.A (eval e X.env) (EP X pins σ Q) X.xe s
def WT (X : Cx) (e : Expr) (σ : L2.St) (H : Hp) (Q : Bool → Hp → Prop) : Prop :=
  ∀ (pins : List (Addr × Obj)) (s : Shared), Inv X pins σ H s → wpAny (model X.prog X.w) X.A (isTrue e X.env (eval e X.env)) (TP X pins σ Q) X.xe s
def WW (X : Cx) (e : Expr) (σ : L2.St) (H : Hp) (Q : Bool → Hp → Prop) : Prop :=
  ∀ (whole : Sem Value) (pins : List (Addr × Obj)) (s : Shared), Inv X pins σ H s → wpAny (model X.prog X.w) X.A (isTrue e X.env whole) (TP X pins σ Q) X.xe s
def WA (X : Cx) (es : List Expr) (σ : L2.St) (H : Hp) (Q : List V → Hp → Prop) : Prop :=
  ∀ (pos : Pos) (pins : List (Addr × Obj)) (s : Shared), Inv X pins σ H s → wpAny (model X.prog X.w) X.A (spliced (backTo pos (starEach es X.env))) (AP X pins σ Q) X.xe s
def WK (X : Cx) (ks : List Keyword) (σ : L2.St) (H : Hp) (Q : List V → Hp → Prop) : Prop :=
  ∀ (pos : Pos) (pins : List (Addr × Obj)) (s : Shared), Inv X pins σ H s → wpAny (model X.prog X.w) X.A (evalAll ((backToKw pos (keywordEach ks X.env)).map (·.2))) (AP X pins σ Q) X.xe s
def WS (X : Cx) (st : Stmt) (D : Ends) (σ : L2.St) (H : Hp) : Prop :=
  ∀ (pins : List (Addr × Obj)) (s : Shared), Inv X pins σ H s → wpAny (model X.prog X.w) X.A (exec st X.env) (SP X pins D) X.xe s
def WB (X : Cx) (sts : List Stmt) (D : Ends) (σ : L2.St) (H : Hp) : Prop :=
  ∀ (pins : List (Addr × Obj)) (s : Shared), Inv X pins σ H s → wpAny (model X.prog X.w) X.A (execs sts X.env) (SP X pins D) X.xe s

section
variable {X : Cx} {e a b c : Expr} {es : List Expr} {st : Stmt} {sts rest : List Stmt} {σ : L2.St} {H : Hp} {Q : VK} {QT : Bool → Hp → Prop} {QA : List V → Hp → Prop} {D : Ends} {pos p : Pos} {x : Str} {v : V}
theorem pe_we : PE X e (WE X e) := ⟨fun pins s σ H Q I h => h pins s I⟩
theorem pt_wt : PT X e (WT X e) := ⟨fun pins s σ H Q I h => h pins s I⟩
theorem pw_ww : PW X e (WW X e) := ⟨fun wh pins s σ H Q I h => h wh pins s I⟩
theorem pa_wa : PA X es (WA X es) := ⟨fun pos pins s σ H Q I h => h pos pins s I⟩
theorem pk_wk {ks : List Keyword} : PK X ks (WK X ks) := ⟨fun pos pins s σ H Q I h => h pos pins s I⟩
theorem ps_ws : PS X st (WS X st) := ⟨fun pins s σ H D I h => h pins s I⟩
theorem pss_wb : PSs X sts (WB X sts) := ⟨fun pins s σ H D I h => h pins s I⟩
theorem we_of {t : TE} (h : PE X e t) (q : t σ H Q) : WE X e σ H Q := fun pins s I => h.run pins s σ H Q I q
theorem wt_of {t : TT} (h : PT X e t) (q : t σ H QT) : WT X e σ H QT := fun pins s I => h.run pins s σ H QT I q
theorem ww_of {t : TT} (h : PW X e t) (q : t σ H QT) : WW X e σ H QT := fun wh pins s I => h.run wh pins s σ H QT I q
theorem wa_of {t : TA} (h : PA X es t) (q : t σ H QA) : WA X es σ H QA := fun pos pins s I => h.run pos pins s σ H QA I q
theorem wk_of {ks : List Keyword} {t : TA} (h : PK X ks t) (q : t σ H QA) : WK X ks σ H QA := fun pos pins s I => h.run pos pins s σ H QA I q
theorem ws_of {t : TS} (h : PS X st t) (q : t D σ H) : WS X st D σ H := fun pins s I => h.run pins s σ H D I q
theorem wb_of {t : TS} (h : PSs X sts t) (q : t D σ H) : WB X sts D σ H := fun pins s I => h.run pins s σ H D I q

/-! ### names and constants -/
def visB (sc : Scope) (x : Str) : Bool := match sc.names.lookup x with | some .local => true | some .cell => true | some .free => true | _ => false
theorem vis_of {sc : Scope} (h : visB sc x = true) : Vis sc x := by
  unfold visB at h
  unfold Vis
  split at h
  · exact .inl (by assumption)
  · exact .inr (.inl (by assumption))
  · exact .inr (.inr (by assumption))
  · cases h
def locB (sc : Scope) (x : Str) : Bool := match sc.names.lookup x with | some .local => true | _ => false
theorem loc_of {sc : Scope} (h : locB sc x = true) : sc.names.lookup x = some .local := by
  unfold locB at h
  split at h
  · assumption
  · cases h
def glB (sc : Scope) (x : Str) : Bool := match sc.names.lookup x with | some .globalImplicit => true | _ => false
/-- what the program's top has left, of which every def's body speaks -/
structure Gb where
  prog : Program
  w : World
  K : PySem.W.Frag
  mg : Str → Option Value
  base : Heap
/-- what the walk knows of the def (or the block of a comprehension) whose body runs -/
structure Def (X : Cx) (G : Gb) (N : List Str) (sc : Scope) (k : Nat) : Prop where
  prog : X.prog = G.prog
  w : X.w = G.w
  K : X.K = G.K
  mg : X.mg = G.mg
  base : X.base = G.base
  n : X.N = N
  sc : X.env.scope = sc
  nd : N.Nodup
  calm : X.calm = true
  room : Room k X.A
/-- the same of a def's own frame: W is what is wanted of an exception that leaves it -/
structure Fr (X : Cx) (G : Gb) (N : List Str) (sc : Scope) (k : Nat) (W : WX) : Prop extends Def X G N sc k where
  fn : ∀ x, X.fn x = true
  own : PassesOwn (model X.prog X.w) X.A X.env X.xe
  tk : Takes X W
  stk : X.stack = X.env :: X.outer
  frm : X.env.frame = some X.env.locals
  ex : X.ex = []
variable {G : Gb} {N : List Str} {sc : Scope} {k : Nat} {W : WX}
theorem Def.gl (d : Def X G N sc k) (h : glB sc x = true) : Gl X x := by
  unfold Gl Env.kindOf
  rw [d.sc]
  unfold glB at h
  split at h
  · assumption
  · cases h
theorem Def.hu (d : Def X G N sc k) : X.A.units + 1 < cLine := hu_of d.room
theorem we_name (d : Def X G N sc k) (i : Nat) (h1 : N[i]? = some x) (h2 : visB sc x = true) (h3 : σ[i]? = some (some v)) (q : Q v H) (hd : (x == ("__debug__" : Str)) = false := by decide +kernel) (hc : (x == ("__classdict__" : Str)) = false := by decide +kernel) :
    WE X (.Name x pos) σ H Q := we_of (pe_var (i := i) (by rw [d.n]; exact h1) (by rw [d.sc]; exact vis_of h2) hd hc) ⟨v, h3, q⟩
theorem we_blt (d : Def X G N sc k) {u : Value} (hg : glB sc x = true) (hm : G.mg x = none) (hv : bootBuiltins x = some u) (r : RelV v u) (q : Q v H) (hn : x ≠ "__name__" := by decide +kernel) (hd : (x == ("__debug__" : Str)) = false := by decide +kernel) :
    WE X (.Name x pos) σ H Q := we_of (pe_bltn (d.gl hg) (by rw [d.mg]; exact hm) hv r hn hd) q
theorem we_glob (d : Def X G N sc k) {u : Value} (hg : glB sc x = true) (hm : G.mg x = some u) (r : RelV v u) (q : Q v H) (hd : (x == ("__debug__" : Str)) = false := by decide +kernel) :
    WE X (.Name x pos) σ H Q := we_of (pe_glob (d.gl hg) (by rw [d.mg]; exact hm) r hd) q
theorem we_int {i : Int} {j} (q : Q (.int i) H) : WE X (.Constant (.int i) j pos) σ H Q := we_of pe_int q
theorem we_bl {i : Bool} {j} (q : Q (.bl i) H) : WE X (.Constant (.bool i) j pos) σ H Q := we_of pe_bl q
theorem we_non {j} (q : Q .non H) : WE X (.Constant .none j pos) σ H Q := we_of pe_non q
theorem we_str {z : Str} {j} (q : Q (.str z) H) : WE X (.Constant (.str z) j pos) σ H Q := we_of pe_str q

/-! ### operators: the rule is chosen by the values -/
def RO (X : Cx) (f : Value → Value → Sem Value) (x y : V) (H : Hp) (Q : VK) : Prop := ∃ r, OpR X f r ∧ r x y H Q
theorem ro_ok {f : Value → Value → Sem Value} : OpR X f (RO X f) := by
  intro pins s σ H x y v u Q I rx ry h
  obtain ⟨r, ho, hr⟩ := h
  exact ho pins s σ H x y v u Q I rx ry hr
theorem we_bin {op : Operator} (h : WE X a σ H fun x H1 => WE X b σ H1 fun y H2 => RO X (binaryOp op) x y H2 Q) : WE X (.BinOp a op b pos) σ H Q := we_of (pe_op ro_ok pe_we pe_we) h
theorem we_cmp {op : CmpOp} (hm : behindInMarks op b = false) (h : WE X a σ H fun x H1 => WE X b σ H1 fun y H2 => RO X (compareOp op) x y H2 Q) : WE X (.Compare a [op] [b] pos) σ H Q := we_of (pe_cmpR ro_ok pe_we pe_we hm) h
theorem wt_cmp {op : CmpOp} (hm : behindInMarks op b = false) (h : WE X a σ H fun x H1 => WE X b σ H1 fun y H2 => RO X (compareOp op) x y H2 fun z H3 => ∃ k, z = .bl k ∧ QT k H3) : WT X (.Compare a [op] [b] pos) σ H QT := wt_of (pt_cmpR ro_ok pe_we pe_we hm) h
def RU (X : Cx) (f : Value → Sem Value) (x : V) (H : Hp) (Q : VK) : Prop := ∃ r, UnR X f r ∧ r x H Q
theorem ru_ok {f : Value → Sem Value} : UnR X f (RU X f) := by
  intro pins s σ H x v Q I rx h
  obtain ⟨r, ho, hr⟩ := h
  exact ho pins s σ H x v Q I rx hr
theorem we_un {op : UnaryOp} (h : WE X a σ H fun x H1 => RU X (unaryOp op) x H1 Q) : WE X (.UnaryOp op a pos) σ H Q := we_of (pe_un ru_ok pe_we) h

/-! ### tests -/
theorem wt_not (h : WT X a σ H fun k H1 => QT (!k) H1) : WT X (.UnaryOp .Not a pos) σ H QT := wt_of (pt_not pt_wt) h
theorem wt_ww (h : WW X e σ H QT) : WT X e σ H QT := wt_of pw_ww.pt h
theorem ww_and (h : WT X a σ H fun k H1 => if k = true then WW X (.BoolOp .And (b :: es) pos) σ H1 QT else QT false H1) : WW X (.BoolOp .And (a :: b :: es) pos) σ H QT := ww_of (pw_and pt_wt pw_ww) h
theorem ww_or (h : WT X a σ H fun k H1 => if k = true then QT true H1 else WW X (.BoolOp .Or (b :: es) pos) σ H1 QT) : WW X (.BoolOp .Or (a :: b :: es) pos) σ H QT := ww_of (pw_or pt_wt pw_ww) h
theorem ww_and1 (h : WT X a σ H QT) : WW X (.BoolOp .And [a] pos) σ H QT := ww_of (pw_and1 pt_wt) h
theorem ww_or1 (h : WT X a σ H QT) : WW X (.BoolOp .Or [a] pos) σ H QT := ww_of (pw_or1 pt_wt) h
theorem wt_truth (he : ∀ whole, isTrue a X.env whole = (do let v ← whole; standAt a.pos; holding [v] (truthy v))) (h : WE X a σ H fun x H1 => ∃ k, TruV X.K x H1 k ∧ QT k H1) : WT X a σ H QT := wt_of (pt_truth pe_we he) h
theorem we_if (h : WT X c σ H fun k H1 => if k = true then WE X a σ H1 Q else WE X b σ H1 Q) : WE X (.IfExp c a b pos) σ H Q := we_of (pe_ifExp pt_wt pe_we pe_we) h
theorem we_and (h : WE X a σ H fun x H1 => ∃ k, x = .bl k ∧ if k = true then WE X (.BoolOp .And (b :: es) pos) σ H1 Q else Q (.bl false) H1) : WE X (.BoolOp .And (a :: b :: es) pos) σ H Q := we_of (pe_and pe_we pe_we) h
theorem we_or (h : WE X a σ H fun x H1 => ∃ k, x = .bl k ∧ if k = true then Q (.bl true) H1 else WE X (.BoolOp .Or (b :: es) pos) σ H1 Q) : WE X (.BoolOp .Or (a :: b :: es) pos) σ H Q := we_of (pe_or pe_we pe_we) h
theorem we_one {op : BoolOp} (h : WE X a σ H Q) : WE X (.BoolOp op [a] pos) σ H Q := we_of (pe_one pe_we) h
theorem we_not (h : WE X a σ H fun x H1 => ∃ k, x = .bl k ∧ Q (.bl (!k)) H1) : WE X (.UnaryOp .Not a pos) σ H Q := we_of (pe_not pe_we) h
theorem we_notT (h : WE X a σ H fun x H1 => ∃ k, TruV X.K x H1 k ∧ Q (.bl (!k)) H1) : WE X (.UnaryOp .Not a pos) σ H Q := we_of (pe_notT pe_we) h

/-! ### arguments, displays -/
/-- no star -/
def ns : Expr → Bool
  | .Starred _ _ => false
  | _ => true
def nss : List Expr → Bool
  | [] => true
  | e :: es => ns e && nss es
theorem star_ns {env : Env} {e : Expr} {es : List Expr} (h : ns e = true) : starEach (e :: es) env = (false, eval e env) :: starEach es env := by
  cases e with
  | Starred _ _ => cases h
  | _ => rfl
theorem hpl_ns {env : Env} {pos : Pos} : ∀ {es : List Expr}, nss es = true → (backTo pos (starEach es env)).any (·.1) = false
  | [], _ => rfl
  | e :: es, h => by
    have h' := Bool.and_eq_true_iff.mp h
    rw [star_ns h'.1]
    have ih := hpl_ns (env := env) (pos := pos) h'.2
    show (false || (backTo pos (starEach es env)).any (·.1)) = false
    rw [ih] <;> rfl
theorem all_ns {env : Env} {pos : Pos} : ∀ {es : List Expr}, nss es = true → (backTo pos (starEach es env)).all (fun x => !x.1) = true
  | [], _ => rfl
  | e :: es, h => by
    have h' := Bool.and_eq_true_iff.mp h
    rw [star_ns h'.1]
    have ih := all_ns (env := env) (pos := pos) h'.2
    show (true && (backTo pos (starEach es env)).all (fun x => !x.1)) = true
    rw [ih] <;> rfl
theorem wa_nil (q : QA [] H) : WA X [] σ H QA := wa_of pa_nil q
theorem wa_cons (hs : ns e = true) (h : WE X e σ H fun x H1 => WA X es σ H1 fun xs H2 => QA (x :: xs) H2) : WA X (e :: es) σ H QA := wa_of (pa_cons pe_we pa_wa (star_ns hs)) h
theorem we_tup {x1} (h : WA X es σ H fun xs H1 => xs.length ≤ sizeLine ∧ ∀ p, H1 p = none → Q (.ref p) (upd H1 p (.tup xs))) : WE X (.Tuple es x1 pos) σ H Q := we_of (pe_tup pa_wa) h
theorem we_lst (h : WA X es σ H fun xs H1 => xs.length ≤ sizeLine ∧ ∀ p, H1 p = none → Q (.ref p) (upd H1 p (.lst xs))) : WE X (.List es pos) σ H Q := we_of (pe_lst pa_wa) h

/-! ### statements -/
theorem wb_nil (q : D.nx σ H) : WB X [] D σ H := wb_of pss_nil q
theorem wb_one (h : WS X st D σ H) : WB X [st] D σ H := wb_of (pss_one ps_ws) h
theorem wb_cons (h : WS X st { D with nx := WB X rest D } σ H) : WB X (st :: rest) D σ H := wb_of (pss_cons ps_ws pss_wb) h
theorem ws_pass (q : D.nx σ H) : WS X (.Pass pos) D σ H := ws_of ps_pass q
theorem ws_break (q : D.bk σ H) : WS X (.Break pos) D σ H := ws_of ps_break q
theorem ws_continue (q : D.ct σ H) : WS X (.Continue pos) D σ H := ws_of ps_continue q
theorem ws_expr (hs : swapsWith e none pos.line X.env = pure false) (h : WE X e σ H fun _ H1 => D.nx σ H1) : WS X (.Expr e pos) D σ H := ws_of (ps_expr pe_we hs) h
theorem ws_ret (h : WE X e σ H D.rt) : WS X (.Return (some e) pos) D σ H := ws_of (ps_ret pe_we) h
theorem ws_retN (q : D.rt .non H) : WS X (.Return none pos) D σ H := ws_of ps_retN q
theorem ws_if {t u : List Stmt} (h : WT X c σ H fun k H1 => if k = true then WB X t D σ H1 else WB X u D σ H1) : WS X (.If c t u pos) D σ H := ws_of (ps_if pt_wt pss_wb pss_wb) h
theorem ws_set (d : Fr X G N sc k W) (i : Nat) {pos' : Pos} (h1 : N[i]? = some x) (hl : Loc sc x) (hs : swapsWith e (some (.Name x pos')) pos.line X.env = pure false) (h : WE X e σ H fun v H1 => D.nx (σ.set i (some v)) H1) :
    WS X (.Assign [.Name x pos'] e pos) D σ H :=
  ws_of (ps_set (i := i) (by rw [d.n]; exact d.nd) (by rw [d.n]; exact h1) (by rw [d.sc]; exact hl) pe_we hs (.inl (d.fn x))) h
/-! ### targets -/
def WG (X : Cx) (tg : Expr) (v : V) (σ : L2.St) (H : Hp) (R : L2.St → Hp → Prop) : Prop :=
  ∀ (pins : List (Addr × Obj)) (s : Shared) (u : Value), Inv X pins σ H s → RelV v u → wpAny (model X.prog X.w) X.A (assign tg X.env u) (fun _ s' => ∃ σ' H', Inv X pins σ' H' s' ∧ R σ' H') X.xe s
def WGs (X : Cx) (tgs : List Expr) (vs : List V) (σ : L2.St) (H : Hp) (R : L2.St → Hp → Prop) : Prop :=
  ∀ (pins : List (Addr × Obj)) (s : Shared) (us : List Value), Inv X pins σ H s → Vals vs us → wpAny (model X.prog X.w) X.A (assignInOrder ((assignEach tgs X.env).map (·.2)) us) (fun _ s' => ∃ σ' H', Inv X pins σ' H' s' ∧ R σ' H') X.xe s
variable {R : L2.St → Hp → Prop} {tg : Expr} {tgs : List Expr}
theorem pg_wg : PG X tg (fun v σ H R => WG X tg v σ H R) := ⟨fun pins s σ H v u R I r h => h pins s u I r⟩
theorem pgs_wgs : PGs X tgs (fun v σ H R => WGs X tgs v σ H R) := ⟨fun pins s σ H v u R I r h => h pins s u I r⟩
theorem wg_of {t : TG} (h : PG X tg t) (q : t v σ H R) : WG X tg v σ H R := fun pins s u I r => h.run pins s σ H v u R I r q
theorem wgs_of {t : TGs} {vs : List V} (h : PGs X tgs t) (q : t vs σ H R) : WGs X tgs vs σ H R := fun pins s u I r => h.run pins s σ H vs u R I r q
theorem wg_name (d : Def X G N sc k) (i : Nat) (h1 : N[i]? = some x) (hl : Loc sc x) (hf : X.fn x = true ∨ sc.names.lookup x = some .local) (q : R (σ.set i (some v)) H) : WG X (.Name x pos) v σ H R :=
  wg_of (pg_name (i := i) (by rw [d.n]; exact d.nd) (by rw [d.n]; exact h1) (by rw [d.sc]; exact hl) (by rw [d.sc]; exact hf)) q
theorem wgs_nil (q : R σ H) : WGs X [] [] σ H R := wgs_of pgs_nil ⟨rfl, q⟩
theorem wgs_cons {vs : List V} (hs : (assignEach (tg :: tgs) X.env).map (·.2) = assign tg X.env :: (assignEach tgs X.env).map (·.2)) (h : WG X tg v σ H fun σ1 H1 => WGs X tgs vs σ1 H1 R) : WGs X (tg :: tgs) (v :: vs) σ H R :=
  wgs_of (pgs_cons pg_wg pgs_wgs hs) ⟨v, vs, rfl, h⟩
theorem wg_tup (d : Def X G N sc k) {kk : Nat} {a : Addr} {vs : List V} (ht : SqT G.K H a vs) (hn : (assignEach tgs X.env).length = vs.length) (hst : (assignEach tgs X.env).findIdx? (·.1) = none) (h : WGs X tgs vs σ H R) : WG X (.Tuple tgs kk pos) (.ref a) σ H R :=
  wg_of (pg_tup (n := vs.length) d.calm pgs_wgs hn hst) ⟨a, vs, rfl, by rw [d.K]; exact ht, rfl, h⟩
theorem ws_asg (hs : swapsWithSole [tg] e pos.line X.env = pure false) (hw : swappedStores [tg] e X.env = pure none) (h1 : (assignEach [tg] X.env).map (·.2) = [assign tg X.env]) (h : WE X e σ H fun v H1 => WG X tg v σ H1 D.nx) : WS X (.Assign [tg] e pos) D σ H :=
  ws_of (ps_asg pe_we pg_wg hs hw h1) h
/-- a, b = e1, e2 -/
theorem ws_par (d : Fr X G N sc k W) (i j : Nat) {y : Str} {px py pt : Pos} {kt k2 pt2} (h1 : N[i]? = some x) (h2 : N[j]? = some y) (hij : i ≠ j) (hx : sc.names.lookup x = some .local) (hy : sc.names.lookup y = some .local)
    (hpar : PS X (.Assign [.Tuple [.Name x px, .Name y py] kt pt] (.Tuple [a, b] k2 pt2) pos) (tPar i j (WA X [a, b])))
    (h : WA X [a, b] σ H fun vs H1 => ∃ v w, vs = [v, w] ∧ D.nx ((σ.set i (some v)).set j (some w)) H1) : WS X (.Assign [.Tuple [.Name x px, .Name y py] kt pt] (.Tuple [a, b] k2 pt2) pos) D σ H := ws_of hpar h

/-! ### loops -/
theorem ws_forL (d : Fr X G N sc k W) {iter : Expr} {body : List Stmt} (hs : ∀ x, foldedSetIterable iter X.env x = pure x)
    (h : WE X iter σ H fun y H1 => ∃ (a : Addr) (xs : List V), y = .ref a ∧ SqL G.K H1 a xs ∧ ∃ Pv : Nat → L2.St → Hp → Prop, Pv 0 σ H1 ∧ (∀ i σ H, i ≤ xs.length → Pv i σ H → SqL G.K H a xs) ∧
      (∀ i x σ H, xs[i]? = some x → Pv i σ H → WG X tg x σ H fun σ2 H2 => WB X body { D with nx := Pv (i + 1), ct := Pv (i + 1), bk := D.nx } σ2 H2) ∧ ∀ σ H, Pv xs.length σ H → D.nx σ H) :
    WS X (.For tg iter body [] pos) D σ H := by
  refine ws_of (ps_for d.own d.calm (pi_list pe_we) pg_wg pss_wb hs) (t := tFor _ _ _) ?_
  show WE X iter σ H _
  intro pins s I
  refine thn (h pins s I) fun u s1 ⟨y, H1, I1, r1, a, xs, e, hq, Pv, h0, hl, hst, hd⟩ => ⟨y, H1, I1, r1, a, e, ⟨xs, by rw [d.K]; exact hq⟩, ?_⟩
  rw [d.K]
  exact for_list Pv h0 hl hst hd
theorem ws_forT (d : Fr X G N sc k W) {iter : Expr} {body : List Stmt} (hs : ∀ x, foldedSetIterable iter X.env x = pure x)
    (h : WE X iter σ H fun y H1 => ∃ (a : Addr) (xs : List V), y = .ref a ∧ SqT G.K H1 a xs ∧ ∃ Pv : Nat → L2.St → Hp → Prop, Pv 0 σ H1 ∧ (∀ i σ H, i ≤ xs.length → Pv i σ H → SqT G.K H a xs) ∧
      (∀ i x σ H, xs[i]? = some x → Pv i σ H → WG X tg x σ H fun σ2 H2 => WB X body { D with nx := Pv (i + 1), ct := Pv (i + 1), bk := D.nx } σ2 H2) ∧ ∀ σ H, Pv xs.length σ H → D.nx σ H) :
    WS X (.For tg iter body [] pos) D σ H := by
  refine ws_of (ps_for d.own d.calm (pi_tup pe_we) pg_wg pss_wb hs) (t := tFor _ _ _) ?_
  show WE X iter σ H _
  intro pins s I
  refine thn (h pins s I) fun u s1 ⟨y, H1, I1, r1, a, xs, e, hq, Pv, h0, hl, hst, hd⟩ => ⟨y, H1, I1, r1, a, e, ⟨xs, by rw [d.K]; exact hq⟩, ?_⟩
  rw [d.K]
  exact for_tup Pv h0 hl hst hd
theorem ws_forR (d : Fr X G N sc k W) {n : Expr} {body : List Stmt} {rp : Pos} (hg : glB sc "range" = true) (hm : G.mg "range" = none) (ha : ns n = true) (hs : ∀ x, foldedSetIterable (.Call (.Name "range" rp) [n] [] p) X.env x = pure x)
    (h : WE X n σ H fun y H1 => ∃ j : Int, y = .int j ∧ -(2 ^ 62) ≤ j ∧ j < 2 ^ 62 ∧ ∃ Pv : Nat → L2.St → Hp → Prop, Pv 0 σ H1 ∧
      (∀ i σ H, i < j.toNat → Pv i σ H → WG X tg (.int i) σ H fun σ2 H2 => WB X body { D with nx := Pv (i + 1), ct := Pv (i + 1), bk := D.nx } σ2 H2) ∧ ∀ σ H, Pv j.toNat σ H → D.nx σ H) :
    WS X (.For tg (.Call (.Name "range" rp) [n] [] p) body [] pos) D σ H := by
  refine ws_of (ps_for d.own d.calm (pi_range1 (d.gl hg) (by rw [d.mg]; exact hm) pa_wa (star_ns ha)) pg_wg pss_wb hs) (t := tFor _ _ _) ?_
  show WA X [n] σ H _
  refine wa_cons ha ?_
  intro pins s I
  refine thn (h pins s I) fun u s1 ⟨y, H1, I1, r1, j, e, b1, b2, Pv, h0, hst, hd⟩ => ⟨y, H1, I1, r1, ?_⟩
  refine wa_nil ⟨j, by rw [e], b1, b2, ?_⟩
  refine for_range (lo := 0) (n := j.toNat) Pv h0 (fun i σ H hi hp => ?_) hd
  rw [Int.zero_add]
  exact hst i σ H hi hp
theorem wt_mono {Q' : Bool → Hp → Prop} (h : ∀ b H1, QT b H1 → Q' b H1) (q : WT X e σ H QT) : WT X e σ H Q' := fun pins s I => thn (q pins s I) fun u s1 ⟨H1, I1, q1⟩ => ⟨H1, I1, h _ _ q1⟩
theorem we_mono {Q' : VK} (h : ∀ b H1, Q b H1 → Q' b H1) (q : WE X e σ H Q) : WE X e σ H Q' := fun pins s I => thn (q pins s I) fun u s1 ⟨v, H1, I1, r, q1⟩ => ⟨v, H1, I1, r, h _ _ q1⟩
theorem wa_mono {Q' : List V → Hp → Prop} (h : ∀ b H1, QA b H1 → Q' b H1) (q : WA X es σ H QA) : WA X es σ H Q' := fun pos pins s I => thn (q pos pins s I) fun u s1 ⟨v, H1, I1, r, q1⟩ => ⟨v, H1, I1, r, h _ _ q1⟩
theorem ws_while (d : Fr X G N sc k W) {body : List Stmt} (Pv : L2.St → Hp → Prop) (μ : L2.St → Hp → Nat) (h0 : Pv σ H)
    (h : ∀ σ H, Pv σ H → WT X c σ H fun b H1 => if b = true then WB X body { D with nx := fun σ' H' => Pv σ' H' ∧ μ σ' H' < μ σ H, ct := fun σ' H' => Pv σ' H' ∧ μ σ' H' < μ σ H, bk := D.nx } σ H1 else D.nx σ H1) :
    WS X (.While c body [] pos) D σ H :=
  ws_of (ps_while d.own pt_wt pss_wb) (while_by (c := WT X c) (tb := WB X body) Pv μ h0 h fun σ H Q Q' m q => wt_mono m q)
theorem ends_mono {D D' : Ends} (h1 : ∀ σ H, D.nx σ H → D'.nx σ H) (h2 : ∀ v H, D.rt v H → D'.rt v H) (h3 : ∀ σ H, D.bk σ H → D'.bk σ H) (h4 : ∀ σ H, D.ct σ H → D'.ct σ H) (q : WB X sts D σ H) : WB X sts D' σ H := fun pins s I => thn (q pins s I) fun f s1 z => by
  cases f with
  | next => obtain ⟨a, b, c, e⟩ := z; exact ⟨a, b, c, h1 _ _ e⟩
  | brk => obtain ⟨a, b, c, e⟩ := z; exact ⟨a, b, c, h3 _ _ e⟩
  | cont => obtain ⟨a, b, c, e⟩ := z; exact ⟨a, b, c, h4 _ _ e⟩
  | ret u => obtain ⟨w, a, b, c, r, e⟩ := z; exact ⟨w, a, b, c, r, h2 _ _ e⟩
theorem ws_mono {D D' : Ends} (h1 : ∀ σ H, D.nx σ H → D'.nx σ H) (h2 : ∀ v H, D.rt v H → D'.rt v H) (h3 : ∀ σ H, D.bk σ H → D'.bk σ H) (h4 : ∀ σ H, D.ct σ H → D'.ct σ H) (q : WS X st D σ H) : WS X st D' σ H := fun pins s I => thn (q pins s I) fun f s1 z => by
  cases f with
  | next => obtain ⟨a, b, c, e⟩ := z; exact ⟨a, b, c, h1 _ _ e⟩
  | brk => obtain ⟨a, b, c, e⟩ := z; exact ⟨a, b, c, h3 _ _ e⟩
  | cont => obtain ⟨a, b, c, e⟩ := z; exact ⟨a, b, c, h4 _ _ e⟩
  | ret u => obtain ⟨w, a, b, c, r, e⟩ := z; exact ⟨w, a, b, c, r, h2 _ _ e⟩

/-! ### calls -/
/-- a def of the text stands at the module's name x and keeps the promise sp, by level k -/
structure Fn (G : Gb) (x : Str) (n k : Nat) (sp : Sp) : Prop where
  is : ∃ (f : Addr) (fd : FuncData) (ps : List Str), G.mg x = some (.ref f) ∧ PySem.W.keepIn G.K (.ref f) = true ∧ FnOk G.prog G.w G.K G.mg G.base (L2.CX G.prog G.w) k f fd ps sp ∧ Binds G.K fd ps [] ∧ ps.length = n ∧ ps = fd.params.args.map (·.arg) ∧ ∃ st, Fun G.K x x st f fd
theorem Fn.imp {n j : Nat} {sp sp' : Sp} (F : Fn G x n j sp) (h : ∀ vs H Q E, sp' vs H Q E → sp vs H Q E) : Fn G x n j sp' := by
  obtain ⟨f, fd, ps, h1, h2, h3, h4, h5⟩ := F.is
  exact ⟨f, fd, ps, h1, h2, h3.imp h, h4, h5⟩
theorem we_callE {E : XK} (d : Def X G N sc k) {n j : Nat} {sp : Sp} (F : Fn G x n j sp) (hj : j ≤ k) (hg : glB sc x = true) (hx : Passes (L2.CX G.prog G.w) X E)
    (he : ns e = true) (hpl : nss es = true) (h : WA X (e :: es) σ H fun vs H1 => sp vs H1 Q E) (hdb : (x == ("__debug__" : Str)) = false := by decide +kernel) :
    WE X (.Call (.Name x p) (e :: es) [] pos) σ H Q := by
  obtain ⟨f, fd, ps, h1, h2, h3, h4, _⟩ := F.is
  refine we_of (pe_call (ds := []) (dvs := []) (E := E) (k := j) (f := f) (fd := fd) (ps := ps) (sp := sp) (CX := L2.CX G.prog G.w) ?_ (d.room.mono hj) (d.gl hg) (by rw [d.mg]; exact h1) (by rw [d.K]; exact h2) (by rw [d.K]; exact h4) .nil hx pa_wa hdb (star_ns he) (hpl_ns hpl)) ?_
  · rw [d.prog, d.w, d.K, d.mg, d.base]
    exact h3
  · show WA X (e :: es) σ H _
    refine wa_mono (fun vs H1 q => ?_) h
    rw [List.append_nil]
    exact q
/-- .. of which nothing may leave -/
theorem we_call (d : Def X G N sc k) {n j : Nat} {sp : Sp} (F : Fn G x n j sp) (hj : j ≤ k) (hg : glB sc x = true)
    (he : ns e = true) (hpl : nss es = true) (h : WA X (e :: es) σ H fun vs H1 => sp vs H1 Q E0) (hdb : (x == ("__debug__" : Str)) = false := by decide +kernel) :
    WE X (.Call (.Name x p) (e :: es) [] pos) σ H Q := we_callE d F hj hg (by rw [← d.prog, ← d.w]; exact passL) he hpl h hdb
theorem we_call0E {E : XK} (d : Def X G N sc k) {n j : Nat} {sp : Sp} (F : Fn G x n j sp) (hj : j ≤ k) (hg : glB sc x = true) (hx : Passes (L2.CX G.prog G.w) X E) (h : sp [] H Q E) (hdb : (x == ("__debug__" : Str)) = false := by decide +kernel) :
    WE X (.Call (.Name x p) [] [] pos) σ H Q := by
  obtain ⟨f, fd, ps, h1, h2, h3, h4, _⟩ := F.is
  refine we_of (pe_call0 (ds := []) (dvs := []) (E := E) (k := j) (f := f) (fd := fd) (ps := ps) (sp := sp) (CX := L2.CX G.prog G.w) ?_ (d.room.mono hj) (d.gl hg) (by rw [d.mg]; exact h1) (by rw [d.K]; exact h2) (by rw [d.K]; exact h4) .nil hx hdb) h
  rw [d.prog, d.w, d.K, d.mg, d.base]
  exact h3
theorem we_call0 (d : Def X G N sc k) {n j : Nat} {sp : Sp} (F : Fn G x n j sp) (hj : j ≤ k) (hg : glB sc x = true) (h : sp [] H Q E0) (hdb : (x == ("__debug__" : Str)) = false := by decide +kernel) :
    WE X (.Call (.Name x p) [] [] pos) σ H Q := we_call0E d F hj hg (by rw [← d.prog, ← d.w]; exact passL) h hdb
/-- .. from a def's frame: what leaves the callee is wished for at the slots as they stand -/
theorem we_callW (d : Fr X G N sc k W) {n j : Nat} {sp : Sp} (F : Fn G x n j sp) (hj : j ≤ k) (hg : glB sc x = true)
    (he : ns e = true) (hpl : nss es = true) (h : WA X (e :: es) σ H fun vs H1 => sp vs H1 Q fun c o H' => W c o σ H') (hdb : (x == ("__debug__" : Str)) = false := by decide +kernel) :
    WE X (.Call (.Name x p) (e :: es) [] pos) σ H Q := by
  obtain ⟨f, fd, ps, h1, h2, h3, h4, _⟩ := F.is
  refine we_of (pe_callS (E := fun τ c o H' => W c o τ H') (k := j) (f := f) (fd := fd) (ps := ps) (sp := sp) (CX := L2.CX G.prog G.w) ?_ (d.room.mono hj) (d.gl hg) (by rw [d.mg]; exact h1) (by rw [d.K]; exact h2) (by rw [d.K]; exact h4) (fun τ => ?_) pa_wa hdb (star_ns he) (hpl_ns hpl)) h
  · rw [d.prog, d.w, d.K, d.mg, d.base]
    exact h3
  · rw [← d.prog, ← d.w]
    exact passAt d.tk τ
/-- a built-in function, a built-in type, by values -/
def RC (X : Cx) (f : Value) (vs : List V) (H : Hp) (Q : VK) : Prop := ∃ r, CallR X f r ∧ r vs H Q
theorem rc_ok {f : Value} : CallR X f (RC X f) := by
  intro pins s σ H xs us Q I r h
  obtain ⟨r0, ho, hr⟩ := h
  exact ho pins s σ H xs us Q I r hr
theorem we_callB (d : Def X G N sc k) {id : String} (hg : glB sc x = true) (hm : G.mg x = none) (hv : bootBuiltins x = some (.builtin id))
    (he : ns e = true) (hpl : nss es = true) (h : WA X (e :: es) σ H fun vs H1 => RC X (.builtin id) vs H1 Q) (hn : x ≠ "__name__" := by decide +kernel) (hdb : (x == ("__debug__" : Str)) = false := by decide +kernel) :
    WE X (.Call (.Name x p) (e :: es) [] pos) σ H Q := we_of (pe_callB rc_ok (d.gl hg) (by rw [d.mg]; exact hm) hv pa_wa hn hdb (star_ns he) (hpl_ns hpl)) h
theorem we_callTy (d : Def X G N sc k) {T : String} (hg : glB sc x = true) (hm : G.mg x = none) (hv : bootBuiltins x = some (.type T))
    (he : ns e = true) (hpl : nss es = true) (h : WA X (e :: es) σ H fun vs H1 => RC X (.type T) vs H1 Q) (hn : x ≠ "__name__" := by decide +kernel) (hdb : (x == ("__debug__" : Str)) = false := by decide +kernel) :
    WE X (.Call (.Name x p) (e :: es) [] pos) σ H Q := we_of (pe_callTy rc_ok (d.gl hg) (by rw [d.mg]; exact hm) hv pa_wa hn hdb (star_ns he) (hpl_ns hpl)) h

/-! ### subscripts -/
def RX (X : Cx) (x y : V) (H : Hp) (Q : VK) : Prop := ∃ r, IxR X r ∧ r x y H Q
theorem rx_ok : IxR X (RX X) := by
  intro value slice pins s σ H x y v u Q I rx ry h
  obtain ⟨r, ho, hr⟩ := h
  exact ho value slice pins s σ H x y v u Q I rx ry hr
theorem we_ix (hs : PlainIx b) (h : WE X a σ H fun x H1 => WE X b σ H1 fun y H2 => RX X x y H2 Q) : WE X (.Subscript a b pos) σ H Q := we_of (pe_ix rx_ok pe_we pe_we hs) h
theorem we_dget (d : Def X G N sc k) (hs : NoSl b) (h : WE X a σ H fun x H1 => WE X b σ H1 fun y H2 => ∃ (p : Addr) (v : V), x = .ref p ∧ DGet H2 p y (some v) ∧ Q v H2) : WE X (.Subscript a b pos) σ H Q := we_of (pe_dget d.hu pe_we pe_we hs) h
theorem ws_dput (d : Def X G N sc k) {pos' : Pos} (hs : swapsWith e (some (.Subscript a b pos')) pos.line X.env = pure false)
    (h : WE X e σ H fun v H1 => WE X a σ H1 fun x H2 => WE X b σ H2 fun y H3 => ∃ (p : Addr) (H4 : Hp), x = .ref p ∧ DPut H3 p y v H4 ∧ D.nx σ H4) : WS X (.Assign [.Subscript a b pos'] e pos) D σ H := ws_of (ps_dput d.hu pe_we pe_we pe_we hs) h
theorem rx_list (d : Def X G N sc k) {p : Addr} {xs : List V} {i : Int} (h : SqL G.K H p xs) (ha : atI xs i = some v) (q : Q v H) : RX X (.ref p) (.int i) H Q := ⟨_, ix_list, p, xs, i, v, rfl, rfl, by rw [d.K]; exact h, ha, q⟩
theorem rx_tup (d : Def X G N sc k) {p : Addr} {xs : List V} {i : Int} (h : SqT G.K H p xs) (ha : atI xs i = some v) (q : Q v H) : RX X (.ref p) (.int i) H Q := ⟨_, ix_tup, p, xs, i, v, rfl, rfl, by rw [d.K]; exact h, ha, q⟩
theorem rx_str {z : Str} {i : Int} {c : Nat} (hl : z.length ≤ sizeLine) (ha : atI z.cps.toList i = some c) (q : Q (.str ⟨#[c]⟩) H) : RX X (.str z) (.int i) H Q := ⟨_, ix_str, z, i, c, rfl, rfl, hl, ha, q⟩

/-! ### methods of built-in types -/
def RM (X : Cx) (id : String) (o : V) (vs : List V) (H : Hp) (Q : VK) : Prop := ∃ r, MtR X id r ∧ r o vs H Q
theorem rm_ok {id : String} : MtR X id (RM X id) := by
  intro pins s σ H x xs v us Q I rx rs h
  obtain ⟨r, ho, hr⟩ := h
  exact ho pins s σ H x xs v us Q I rx rs hr
theorem few_ns {env : Env} (h : (nss (e :: es) && decide (es.length < 28)) = true) : ((backTo pos (starEach (e :: es) env)).all (fun x => !x.1) && (backToKw pos (keywordEach [] env)).all (fun x => x.1.isSome)
      && decide ((e :: es).length + ([] : List Keyword).length + (if ([] : List Keyword).isEmpty then 0 else 1) < 30)) = true := by
  obtain ⟨h1, h2⟩ := Bool.and_eq_true_iff.mp h
  have h3 := of_decide_eq_true h2
  have e1 : decide ((e :: es).length + ([] : List Keyword).length + (if ([] : List Keyword).isEmpty then 0 else 1) < 30) = true := decide_eq_true (by
    show es.length + 1 + 0 + 0 < 30
    omega)
  rw [all_ns h1, e1] <;> rfl
theorem we_bm (d : Def X G N sc k) {o : Expr} {name : Str} {apos : Pos} {T id : String} (pa : PlainAttrs T) (slot : Slot T name id) (hty : typeOf (.builtin id) = pure (.type "method_descriptor"))
    (hbase : attributeBase o name X.env (eval o X.env) = eval o X.env)
    (hfew : (nss (e :: es) && decide (es.length < 28)) = true)
    (hline : (apos.endLine == pos.line) = true) (hs : ns e = true) (hplain : nss es = true)
    (h : WE X o σ H fun x H1 => tyV G.K T x H1 ∧ WA X (e :: es) σ H1 fun vs H2 => RM X id x vs H2 Q) : WE X (.Call (.Attribute o name apos) (e :: es) [] pos) σ H Q :=
  we_of (pe_bm pa slot hty rm_ok pe_we pa_wa hbase (few_ns hfew) hline (star_ns hs) (hpl_ns hplain)) (by rw [← d.K] at h; exact h)
end
end Wx

namespace Wx
open PySem L2
section
variable {X : Cx} {e a b c : Expr} {es : List Expr} {st : Stmt} {sts rest : List Stmt} {σ : L2.St} {H : Hp} {Q : VK} {QT : Bool → Hp → Prop} {QA : List V → Hp → Prop} {D : Ends} {pos p : Pos} {x : Str} {v : V} {G : Gb} {N : List Str} {sc scope : Scope} {k : Nat} {W : WX}
/-! ### chains of two comparisons -/
theorem we_chain {op op' : CmpOp} (hm : lastMarks [op, op'] [b, c] = false)
    (h : WE X a σ H fun x H1 => WE X b σ H1 fun y H2 => RO X (compareOp op) x y H2 fun z H3 => ∃ k, z = .bl k ∧ (if k = true then WE X c σ H3 fun w' H4 => RO X (compareOp op') y w' H4 Q else Q (.bl false) H3)) :
    WE X (.Compare a [op, op'] [b, c] pos) σ H Q := we_of (pe_chain ro_ok ro_ok pe_we pe_we pe_we hm) h
theorem wt_chain {op op' : CmpOp} (hm : lastMarks [op, op'] [b, c] = false)
    (h : WE X a σ H fun x H1 => WE X b σ H1 fun y H2 => RO X (compareOp op) x y H2 fun z H3 => ∃ k, z = .bl k ∧ (if k = true then WE X c σ H3 fun w' H4 => RO X (compareOp op') y w' H4 fun z2 H5 => ∃ k2, z2 = .bl k2 ∧ QT k2 H5 else QT false H3)) :
    WT X (.Compare a [op, op'] [b, c] pos) σ H QT := by
  refine wt_of (pt_chain ro_ok ro_ok pe_we pe_we pe_we hm) ?_
  show WE X a σ H _
  refine we_mono (fun x H1 q => we_mono (fun y H2 q => ?_) q) h
  obtain ⟨r, ho, hr⟩ := q
  refine ⟨fun x y H Q' => ∃ Q0 : VK, r x y H Q0 ∧ ∀ v H', Q0 v H' → Q' v H', ?_, _, hr, ?_⟩
  · intro pins s τ H3 x3 y3 v3 u3 Q3 I3 rx ry ⟨Q0, h0, m⟩
    refine thn (ho pins s τ H3 x3 y3 v3 u3 Q0 I3 rx ry h0) fun u s1 ⟨v1, H4, I4, r4, q4⟩ => ⟨v1, H4, I4, r4, m _ _ q4⟩
  · rintro z H3 ⟨kk, rfl, q⟩
    refine ⟨kk, rfl, ?_⟩
    cases kk with
    | true => exact q
    | false => exact ⟨false, rfl, q⟩

/-! ### keywords -/
theorem wk_nil (q : QA [] H) : WK X [] σ H QA := wk_of pk_nil q
theorem wk_cons {nm : Option Str} {kpos : Pos} {ks : List Keyword} (h : WE X e σ H fun y H1 => WK X ks σ H1 fun zs H2 => QA (y :: zs) H2) : WK X (⟨nm, e, kpos⟩ :: ks) σ H QA := wk_of (pk_cons pe_we pk_wk) h
/-- the def at the name x, called with the keywords ks; gV puts the written values and the keywords' in the parameters' order -/
structure FnK (G : Gb) (x : Str) (ks : List Str) (gV : List V → List V → List V) (k : Nat) (sp : Sp) : Prop where
  is : ∃ (f : Addr) (fd : FuncData) (ps : List Str) (g : List Value → List Value → List Value), G.mg x = some (.ref f) ∧ PySem.W.keepIn G.K (.ref f) = true ∧ FnOk G.prog G.w G.K G.mg G.base (L2.CX G.prog G.w) k f fd ps sp ∧ KBinds G.K fd ps ks g gV
theorem we_callK (d : Def X G N sc k) {ks : List Str} {gV : List V → List V → List V} {kws : List Keyword} {j : Nat} {sp : Sp} (F : FnK G x ks gV j sp) (hj : j ≤ k) (hg : glB sc x = true)
    (hall : (backToKw pos (keywordEach kws X.env)).all (·.1.isSome) = true) (hks : (backToKw pos (keywordEach kws X.env)).filterMap (·.1) = ks)
    (he : ns e = true) (hpl : ((backTo pos (starEach (e :: es) X.env)).any (·.1) || (backToKw pos (keywordEach kws X.env)).any (·.1.isNone)) = false)
    (h : WA X (e :: es) σ H fun vs H1 => WK X kws σ H1 fun zs H2 => sp (gV vs zs) H2 Q E0) (hdb : (x == ("__debug__" : Str)) = false := by decide +kernel) : WE X (.Call (.Name x p) (e :: es) kws pos) σ H Q := by
  obtain ⟨f, fd, ps, g, h1, h2, h3, h4⟩ := F.is
  refine we_of (pe_callK (E := E0) (k := j) (f := f) (fd := fd) (ps := ps) (ks := ks) (g := g) (gV := gV) (sp := sp) (CX := L2.CX G.prog G.w) ?_ (d.room.mono hj) (d.gl hg) (by rw [d.mg]; exact h1) (by rw [d.K]; exact h2) (by rw [d.K]; exact h4) (by rw [← d.prog, ← d.w]; exact passL) pa_wa pk_wk hall hks hdb (star_ns he) hpl) h
  rw [d.prog, d.w, d.K, d.mg, d.base]
  exact h3
/-- f(k = v, ..) -/
theorem we_callK0 (d : Def X G N sc k) {ks : List Str} {gV : List V → List V → List V} {kws : List Keyword} {j : Nat} {sp : Sp} (F : FnK G x ks gV j sp) (hj : j ≤ k) (hg : glB sc x = true)
    (hall : (backToKw pos (keywordEach kws X.env)).all (·.1.isSome) = true) (hks : (backToKw pos (keywordEach kws X.env)).filterMap (·.1) = ks)
    (hpl : ((backTo pos (starEach [] X.env)).any (·.1) || (backToKw pos (keywordEach kws X.env)).any (·.1.isNone)) = false)
    (h : WK X kws σ H fun zs H2 => sp (gV [] zs) H2 Q E0) (hdb : (x == ("__debug__" : Str)) = false := by decide +kernel) : WE X (.Call (.Name x p) [] kws pos) σ H Q := by
  obtain ⟨f, fd, ps, g, h1, h2, h3, h4⟩ := F.is
  intro pins s I
  have F' : FnOk X.prog X.w X.K X.mg X.base (L2.CX G.prog G.w) j f fd ps sp := by
    rw [d.prog, d.w, d.K, d.mg, d.base]
    exact h3
  refine PySem.wpAny_Call_Name_kw (ld_glob I (d.gl hg) (by rw [d.mg]; exact h1) ?_ hdb)
  refine PySem.W.callWith_KW0 (h₀ := X.base) I.ok.mod.kin (by rw [d.K]; exact h2) hall ?_ hpl
  refine thn (h pos pins s I) fun ws s2 ⟨zs, H2, I2, rz, q2⟩ => ⟨I2.kIn, ?_⟩
  rw [hks]
  exact run_fnk (us := []) (vs := []) F' (d.room.mono hj) (by rw [d.K]; exact h4) (by rw [← d.prog, ← d.w]; exact passL) I2 .nil rz q2

/-! ### comprehensions of one clause -/
def WTs (X : Cx) (ifs : List Expr) (σ : L2.St) (H : Hp) (Q : Bool → Hp → Prop) : Prop :=
  ∀ (pins : List (Addr × Obj)) (s : Shared), Inv X pins σ H s → wpAny (model X.prog X.w) X.A (forIn ifs true fun c r => if r = true then do let ok ← isTrue c X.env (eval c X.env); pure (ForInStep.yield ok) else pure (ForInStep.yield r)) (TP X pins σ Q) X.xe s
theorem wts_of {ifs : List Expr} {t : TT} (h : PTs X ifs t) (q : t σ H QT) : WTs X ifs σ H QT := fun pins s I => h.run pins s σ H QT I q
theorem wts_nil (q : QT true H) : WTs X [] σ H QT := wts_of pts_nil q
theorem wts_one (h : WT X c σ H QT) : WTs X [c] σ H QT := wts_of (pts_one pt_wt) h
theorem Def.blk (d : Def X G N sc k) (s : Shared) (H : Hp) (C : Addr) (cl : List (Str × Addr)) (fp : List Addr) : Def (X.blk s H scope (compEnvC scope cl C X.env) fp) G N (relS scope sc) k :=
  ⟨d.prog, d.w, d.K, d.mg, d.base, d.n, by rw [← d.sc] <;> rfl, d.nd, d.calm, d.room⟩
/-- a turn of a comprehension's block, in whatever context its block is -/
abbrev Blk (X : Cx) (G : Gb) (N : List Str) (sc scope : Scope) (k : Nat) (f : Cx → Prop) : Prop := ∀ X', Def X' G N (relS scope sc) k → f X'
theorem pe_lcW (d : Def X G N sc k) {elt tg iter : Expr} {ifs : List Expr} {own : List (Str × Nat)} {wi : TI} (hi : PI X tg iter wi) (ok : BlkOk N sc scope own) (hs : ∀ x, foldedSetIterable iter X.env x = pure x) :
    PE X (.ListComp elt [⟨tg, iter, ifs, 0⟩] scope pos) (tLc wi (fun v σ H R => Blk X G N sc scope k fun X' => WG X' tg v σ H R) (fun σ H R => Blk X G N sc scope k fun X' => WTs X' ifs σ H R) (fun σ H R => Blk X G N sc scope k fun X' => WE X' elt σ H R) (own.map (·.2))) :=
  pe_lc d.calm (by rw [d.n]; exact d.nd) hi (by rw [d.n, d.sc]; exact ok) (fun s H C cl fp => ⟨fun pins s σ H v u Q I r h => h _ (d.blk _ _ _ _ _) pins s u I r⟩) (fun s H C cl fp => ⟨fun pins s σ H Q I h => h _ (d.blk _ _ _ _ _) pins s I⟩) (fun s H C cl fp => ⟨fun pins s σ H Q I h => h _ (d.blk _ _ _ _ _) pins s I⟩) hs
/-- over a list: Pv by the turn and the heap, the new list at L within -/
def LcL (X : Cx) (G : Gb) (N : List Str) (sc scope : Scope) (k : Nat) (tg elt : Expr) (ifs : List Expr) (vs : List Nat) (σ : L2.St) (y : V) (H1 : Hp) (Q : VK) : Prop :=
  ∃ (a : Addr) (xs : List V), y = .ref a ∧ SqL G.K H1 a xs ∧ ∀ L, H1 L = none → ∃ Pv : Nat → Hp → Prop, Pv 0 (upd H1 L (.lst [])) ∧ (∀ i H, i ≤ xs.length → Pv i H → SqL G.K H a xs) ∧
    (∀ i x H, xs[i]? = some x → Pv i H → Blk X G N sc scope k fun X' => WG X' tg x (wipe σ vs) H fun σ2 H2 => wipe σ2 vs = wipe σ vs ∧ Blk X G N sc scope k fun X' => WTs X' ifs σ2 H2 fun b H3 =>
      if b = true then Blk X G N sc scope k fun X' => WE X' elt σ2 H3 fun y H4 => ∃ acc, H4 L = some (.lst acc) ∧ acc.length < sizeLine ∧ Pv (i + 1) (upd H4 L (.lst (acc ++ [y]))) else Pv (i + 1) H3) ∧ ∀ H, Pv xs.length H → Q (.ref L) H
theorem we_lcL (d : Def X G N sc k) {elt tg iter : Expr} {ifs : List Expr} (own : List (Str × Nat)) (ok : blkC N sc scope own = true) (hs : ∀ x, foldedSetIterable iter X.env x = pure x)
    (h : WE X iter σ H fun y H1 => LcL X G N sc scope k tg elt ifs (own.map (·.2)) σ y H1 Q) : WE X (.ListComp elt [⟨tg, iter, ifs, 0⟩] scope pos) σ H Q := by
  refine we_of (pe_lcW d (pi_list pe_we) (blkOk_by ok) hs) ?_
  show WE X iter σ H _
  refine we_mono (fun y H1 q => ?_) h
  obtain ⟨a, xs, e, hq, q⟩ := q
  refine ⟨a, e, ⟨xs, by rw [d.K]; exact hq⟩, fun L hL => ?_⟩
  obtain ⟨Pv, h0, hl, hst, hd⟩ := q L hL
  rw [d.K]
  exact lc_list (K := G.K) (a := a) (xs := xs) (σ := σ) (vs := own.map (·.2)) (H1 := H1) (D := L) (g := fun v σ H R => Blk X G N sc scope k fun X' => WG X' tg v σ H R) (tt := fun σ H R => Blk X G N sc scope k fun X' => WTs X' ifs σ H R) (te := fun σ H R => Blk X G N sc scope k fun X' => WE X' elt σ H R) (Qd := fun H => Q (.ref L) H) Pv h0 hl hst hd
/-- name = [.. for .. in a list] -/
theorem ws_lcL (d : Fr X G N sc k W) (i : Nat) {y : Str} {py spos : Pos} {elt tg iter : Expr} {ifs : List Expr} (own : List (Str × Nat)) (hy : N[i]? = some y) (hyl : sc.names.lookup y = some .local) (ok : blkC N sc scope own = true) (hs : ∀ x, foldedSetIterable iter X.env x = pure x)
    (hl : (py.line == pos.line) = true) (ha : (scope.names.any fun (n, k) => n == y && (k == .local || k == .cell)) = false)
    (h : WE X iter σ H fun z H1 => LcL X G N sc scope k tg elt ifs (own.map (·.2)) σ z H1 fun v H2 => D.nx (σ.set i (some v)) H2) : WS X (.Assign [.Name y py] (.ListComp elt [⟨tg, iter, ifs, 0⟩] scope pos) spos) D σ H := by
  have hk : X.env.scope.kind = .function → swapsWith (.ListComp elt [⟨tg, iter, ifs, 0⟩] scope pos) (some (.Name y py)) spos.line X.env = pure true := fun hk => sw_true hk (by rw [d.sc]; exact hyl) hl ha
  intro pins s I
  have P := ps_setLc (X := X) (i := i) (own := own) (elt := elt) (pos := pos) (spos := spos) (py := py) (wi := iList X.K (WE X iter)) (g := fun v σ H R => Blk X G N sc scope k fun X' => WG X' tg v σ H R) (tt := fun σ H R => Blk X G N sc scope k fun X' => WTs X' ifs σ H R) (te := fun σ H R => Blk X G N sc scope k fun X' => WE X' elt σ H R)
    d.calm (by rw [d.n]; exact d.nd) (by rw [d.n]; exact hy) (by rw [d.sc]; exact hyl) (hk I.ok.kind) (pi_list pe_we) (by rw [d.n, d.sc]; exact blkOk_by ok)
    (fun s H C cl fp => ⟨fun pins s σ H v u Q I r h => h _ (d.toDef.blk _ _ _ _ _) pins s u I r⟩) (fun s H C cl fp => ⟨fun pins s σ H Q I h => h _ (d.toDef.blk _ _ _ _ _) pins s I⟩) (fun s H C cl fp => ⟨fun pins s σ H Q I h => h _ (d.toDef.blk _ _ _ _ _) pins s I⟩) hs
  refine P.run pins s σ H D I ?_
  show WE X iter σ H _
  refine we_mono (fun z H1 q => ?_) h
  obtain ⟨a, xs, e, hq, q⟩ := q
  refine ⟨a, e, ⟨xs, by rw [d.K]; exact hq⟩, fun L hL => ?_⟩
  obtain ⟨Pv, h0, hl, hst, hd⟩ := q L hL
  rw [d.K]
  exact lc_list (K := G.K) (a := a) (xs := xs) (σ := σ) (vs := own.map (·.2)) (H1 := H1) (D := L) (g := fun v σ H R => Blk X G N sc scope k fun X' => WG X' tg v σ H R) (tt := fun σ H R => Blk X G N sc scope k fun X' => WTs X' ifs σ H R) (te := fun σ H R => Blk X G N sc scope k fun X' => WE X' elt σ H R) (Qd := fun H => D.nx (σ.set i (some (.ref L))) H) Pv h0 hl hst hd
/-- .. over range(n) -/
def LcR (X : Cx) (G : Gb) (N : List Str) (sc scope : Scope) (k : Nat) (tg elt : Expr) (ifs : List Expr) (vs : List Nat) (σ : L2.St) (y : V) (H1 : Hp) (Q : VK) : Prop :=
  ∃ j : Int, y = .int j ∧ -(2 ^ 62) ≤ j ∧ j < 2 ^ 62 ∧ ∀ L, H1 L = none → ∃ Pv : Nat → Hp → Prop, Pv 0 (upd H1 L (.lst [])) ∧
    (∀ (i : Nat) H, i < j.toNat → Pv i H → Blk X G N sc scope k fun X' => WG X' tg (.int i) (wipe σ vs) H fun σ2 H2 => wipe σ2 vs = wipe σ vs ∧ Blk X G N sc scope k fun X' => WTs X' ifs σ2 H2 fun b H3 =>
      if b = true then Blk X G N sc scope k fun X' => WE X' elt σ2 H3 fun y H4 => ∃ acc, H4 L = some (.lst acc) ∧ acc.length < sizeLine ∧ Pv (i + 1) (upd H4 L (.lst (acc ++ [y]))) else Pv (i + 1) H3) ∧ ∀ H, Pv j.toNat H → Q (.ref L) H
theorem lcR_core (d : Def X G N sc k) {elt tg n : Expr} {ifs : List Expr} {vs : List Nat} (ha : ns n = true)
    (h : WE X n σ H fun y H1 => LcR X G N sc scope k tg elt ifs vs σ y H1 Q) : tLc (iRng1 (WA X [n])) (fun v σ H R => Blk X G N sc scope k fun X' => WG X' tg v σ H R) (fun σ H R => Blk X G N sc scope k fun X' => WTs X' ifs σ H R) (fun σ H R => Blk X G N sc scope k fun X' => WE X' elt σ H R) vs σ H Q := by
  show WA X [n] σ H _
  refine wa_cons ha (we_mono (fun y H1 q => wa_nil ?_) h)
  obtain ⟨j, e, b1, b2, q⟩ := q
  refine ⟨j, by rw [e], b1, b2, fun L hL => ?_⟩
  obtain ⟨Pv, h0, hst, hd⟩ := q L hL
  refine lc_range (lo := 0) (n := j.toNat) (σ := σ) (vs := vs) (H1 := H1) (D := L) (g := fun v σ H R => Blk X G N sc scope k fun X' => WG X' tg v σ H R) (tt := fun σ H R => Blk X G N sc scope k fun X' => WTs X' ifs σ H R) (te := fun σ H R => Blk X G N sc scope k fun X' => WE X' elt σ H R) (Qd := fun H => Q (.ref L) H) Pv h0 (fun i H hi hp => ?_) hd
  rw [Int.zero_add]
  exact hst i H hi hp
theorem ws_lcR (d : Fr X G N sc k W) (i : Nat) {y : Str} {py spos rp rp2 : Pos} {elt tg n : Expr} {ifs : List Expr} (own : List (Str × Nat)) (hy : N[i]? = some y) (hyl : sc.names.lookup y = some .local) (ok : blkC N sc scope own = true) (hg : glB sc "range" = true) (hm : G.mg "range" = none)
    (hs : ∀ x, foldedSetIterable (.Call (.Name "range" rp) [n] [] rp2) X.env x = pure x) (ha : ns n = true)
    (hl : (py.line == pos.line) = true) (hn : (scope.names.any fun (n, k) => n == y && (k == .local || k == .cell)) = false)
    (h : WE X n σ H fun z H1 => LcR X G N sc scope k tg elt ifs (own.map (·.2)) σ z H1 fun v H2 => D.nx (σ.set i (some v)) H2) : WS X (.Assign [.Name y py] (.ListComp elt [⟨tg, (.Call (.Name "range" rp) [n] [] rp2), ifs, 0⟩] scope pos) spos) D σ H := by
  intro pins s I
  have P := ps_setLc (X := X) (i := i) (own := own) (elt := elt) (pos := pos) (spos := spos) (py := py) (wi := iRng1 (WA X [n])) (g := fun v σ H R => Blk X G N sc scope k fun X' => WG X' tg v σ H R) (tt := fun σ H R => Blk X G N sc scope k fun X' => WTs X' ifs σ H R) (te := fun σ H R => Blk X G N sc scope k fun X' => WE X' elt σ H R)
    d.calm (by rw [d.n]; exact d.nd) (by rw [d.n]; exact hy) (by rw [d.sc]; exact hyl) (sw_true I.ok.kind (by rw [d.sc]; exact hyl) hl hn) (pi_range1 (d.gl hg) (by rw [d.mg]; exact hm) pa_wa (star_ns ha)) (by rw [d.n, d.sc]; exact blkOk_by ok)
    (fun s H C cl fp => ⟨fun pins s σ H v u Q I r h => h _ (d.toDef.blk _ _ _ _ _) pins s u I r⟩) (fun s H C cl fp => ⟨fun pins s σ H Q I h => h _ (d.toDef.blk _ _ _ _ _) pins s I⟩) (fun s H C cl fp => ⟨fun pins s σ H Q I h => h _ (d.toDef.blk _ _ _ _ _) pins s I⟩) hs
  refine P.run pins s σ H D I ?_
  exact lcR_core (Q := fun v H2 => D.nx (σ.set i (some v)) H2) d.toDef ha h
theorem we_lcR (d : Def X G N sc k) {elt tg n : Expr} {ifs : List Expr} {rp rp2 : Pos} (own : List (Str × Nat)) (ok : blkC N sc scope own = true) (hg : glB sc "range" = true) (hm : G.mg "range" = none)
    (hs : ∀ x, foldedSetIterable (.Call (.Name "range" rp) [n] [] rp2) X.env x = pure x) (ha : ns n = true)
    (h : WE X n σ H fun y H1 => LcR X G N sc scope k tg elt ifs (own.map (·.2)) σ y H1 Q) : WE X (.ListComp elt [⟨tg, (.Call (.Name "range" rp) [n] [] rp2), ifs, 0⟩] scope pos) σ H Q :=
  we_of (pe_lcW d (pi_range1 (d.gl hg) (by rw [d.mg]; exact hm) pa_wa (star_ns ha)) (blkOk_by ok) hs) (lcR_core d ha h)

/-! ### dict displays with text keys -/
theorem we_disp4 (d : Def X G N sc k) {k1 k2 k3 k4 : Str} {e1 e2 e3 e4 : Expr} {j1 j2 j3 j4} {p1 p2 p3 p4 : Pos}
    (h : ∀ p, H p = none → WE X e1 σ (upd H p (.dK [])) fun v1 H1 => WE X e2 σ H1 fun v2 H2 => WE X e3 σ H2 fun v3 H3 => WE X e4 σ H3 fun v4 H4 =>
      H4 p = some (.dK []) ∧ Q (.ref p) (upd H4 p (.dK (mergeK [] [(Sum.inr k1, v1), (Sum.inr k2, v2), (Sum.inr k3, v3), (Sum.inr k4, v4)])))) :
    WE X (.Dict [some (.Constant (.str k1) j1 p1), some (.Constant (.str k2) j2 p2), some (.Constant (.str k3) j3 p3), some (.Constant (.str k4) j4 p4)] [e1, e2, e3, e4] pos) σ H Q := by
  refine we_of (pe_disp (pps_cons pe_str pe_we (pps_cons pe_str pe_we (pps_cons pe_str pe_we (pps_cons pe_str pe_we pps_nil)))) rfl rfl (fun z => by cases z) (by show 4 ≤ 15; decide)) fun p hp => ?_
  show WE X e1 σ (upd H p (.dK [])) _
  refine we_mono (fun v1 H1 q => we_mono (fun v2 H2 q => we_mono (fun v3 H3 q => we_mono (fun v4 H4 q => ?_) q) q) q) (h p hp)
  exact ⟨q.1, [(Sum.inr k1, v1), (Sum.inr k2, v2), (Sum.inr k3, v3), (Sum.inr k4, v4)], rfl, by show 4 ≤ 15; decide, q.2⟩
end
end Wx

namespace Wx
open PySem L2
section
variable {X : Cx} {e a b c : Expr} {es : List Expr} {σ : L2.St} {H : Hp} {Q : VK} {QT : Bool → Hp → Prop} {pos p : Pos} {x y : V} {v : V} {G : Gb} {N : List Str} {sc scope : Scope} {k : Nat} {W : WX} {i j : Int}
def cellB (sc : Scope) (x : Str) : Bool := match sc.names.lookup x with | some .cell => true | some .local => true | _ => false
theorem locs {z : Str} (h : cellB sc z = true) : L2.Loc sc z := by
  unfold cellB at h
  unfold L2.Loc
  split at h
  · exact .inr (by assumption)
  · exact .inl (by assumption)
  · cases h

section
variable {D : Ends}
theorem we_n0 {n0 : Str} {τ : L2.St} (d : Def X G (n0 :: N) sc k) (hv : visB sc n0 = true) (q : Q v H) (hd : (n0 == ("__debug__" : Str)) = false := by decide +kernel) (hc : (n0 == ("__classdict__" : Str)) = false := by decide +kernel) : WE X (.Name n0 pos) (some v :: τ) H Q :=
  we_name d 0 rfl hv rfl q hd hc
theorem ws_s0 {n0 : Str} {s0 : Option V} {τ : L2.St} {pos' : Pos} (d : Fr X G (n0 :: N) sc k W) (hl : cellB sc n0 = true) (hs : swapsWith e (some (.Name n0 pos')) pos.line X.env = pure false) (h : WE X e (s0 :: τ) H fun v H1 => D.nx (some v :: τ) H1) : WS X (.Assign [.Name n0 pos'] e pos) D (s0 :: τ) H :=
  ws_set d 0 rfl (locs hl) hs h
theorem wg_n0 {n0 : Str} {s0 : Option V} {τ : L2.St} {R : L2.St → Hp → Prop} (d : Fr X G (n0 :: N) sc k W) (hl : cellB sc n0 = true) (q : R (some v :: τ) H) : WG X (.Name n0 pos) v (s0 :: τ) H R :=
  wg_name d.toDef 0 rfl (locs hl) (.inl (d.fn _)) q
theorem wg_b0 {n0 : Str} {s0 : Option V} {τ : L2.St} {R : L2.St → Hp → Prop} (d : Def X G (n0 :: N) sc k) (hl : locB sc n0 = true) (q : R (some v :: τ) H) : WG X (.Name n0 pos) v (s0 :: τ) H R :=
  wg_name d 0 rfl (.inl (loc_of hl)) (.inr (loc_of hl)) q
theorem we_n1 {n0 n1 : Str} {s0 : Option V} {τ : L2.St} (d : Def X G (n0 :: n1 :: N) sc k) (hv : visB sc n1 = true) (q : Q v H) (hd : (n1 == ("__debug__" : Str)) = false := by decide +kernel) (hc : (n1 == ("__classdict__" : Str)) = false := by decide +kernel) : WE X (.Name n1 pos) (s0 :: some v :: τ) H Q :=
  we_name d 1 rfl hv rfl q hd hc
theorem ws_s1 {n0 n1 : Str} {s0 s1 : Option V} {τ : L2.St} {pos' : Pos} (d : Fr X G (n0 :: n1 :: N) sc k W) (hl : cellB sc n1 = true) (hs : swapsWith e (some (.Name n1 pos')) pos.line X.env = pure false) (h : WE X e (s0 :: s1 :: τ) H fun v H1 => D.nx (s0 :: some v :: τ) H1) : WS X (.Assign [.Name n1 pos'] e pos) D (s0 :: s1 :: τ) H :=
  ws_set d 1 rfl (locs hl) hs h
theorem wg_n1 {n0 n1 : Str} {s0 s1 : Option V} {τ : L2.St} {R : L2.St → Hp → Prop} (d : Fr X G (n0 :: n1 :: N) sc k W) (hl : cellB sc n1 = true) (q : R (s0 :: some v :: τ) H) : WG X (.Name n1 pos) v (s0 :: s1 :: τ) H R :=
  wg_name d.toDef 1 rfl (locs hl) (.inl (d.fn _)) q
theorem wg_b1 {n0 n1 : Str} {s0 s1 : Option V} {τ : L2.St} {R : L2.St → Hp → Prop} (d : Def X G (n0 :: n1 :: N) sc k) (hl : locB sc n1 = true) (q : R (s0 :: some v :: τ) H) : WG X (.Name n1 pos) v (s0 :: s1 :: τ) H R :=
  wg_name d 1 rfl (.inl (loc_of hl)) (.inr (loc_of hl)) q
theorem we_n2 {n0 n1 n2 : Str} {s0 s1 : Option V} {τ : L2.St} (d : Def X G (n0 :: n1 :: n2 :: N) sc k) (hv : visB sc n2 = true) (q : Q v H) (hd : (n2 == ("__debug__" : Str)) = false := by decide +kernel) (hc : (n2 == ("__classdict__" : Str)) = false := by decide +kernel) : WE X (.Name n2 pos) (s0 :: s1 :: some v :: τ) H Q :=
  we_name d 2 rfl hv rfl q hd hc
theorem ws_s2 {n0 n1 n2 : Str} {s0 s1 s2 : Option V} {τ : L2.St} {pos' : Pos} (d : Fr X G (n0 :: n1 :: n2 :: N) sc k W) (hl : cellB sc n2 = true) (hs : swapsWith e (some (.Name n2 pos')) pos.line X.env = pure false) (h : WE X e (s0 :: s1 :: s2 :: τ) H fun v H1 => D.nx (s0 :: s1 :: some v :: τ) H1) : WS X (.Assign [.Name n2 pos'] e pos) D (s0 :: s1 :: s2 :: τ) H :=
  ws_set d 2 rfl (locs hl) hs h
theorem wg_n2 {n0 n1 n2 : Str} {s0 s1 s2 : Option V} {τ : L2.St} {R : L2.St → Hp → Prop} (d : Fr X G (n0 :: n1 :: n2 :: N) sc k W) (hl : cellB sc n2 = true) (q : R (s0 :: s1 :: some v :: τ) H) : WG X (.Name n2 pos) v (s0 :: s1 :: s2 :: τ) H R :=
  wg_name d.toDef 2 rfl (locs hl) (.inl (d.fn _)) q
theorem wg_b2 {n0 n1 n2 : Str} {s0 s1 s2 : Option V} {τ : L2.St} {R : L2.St → Hp → Prop} (d : Def X G (n0 :: n1 :: n2 :: N) sc k) (hl : locB sc n2 = true) (q : R (s0 :: s1 :: some v :: τ) H) : WG X (.Name n2 pos) v (s0 :: s1 :: s2 :: τ) H R :=
  wg_name d 2 rfl (.inl (loc_of hl)) (.inr (loc_of hl)) q
theorem we_n3 {n0 n1 n2 n3 : Str} {s0 s1 s2 : Option V} {τ : L2.St} (d : Def X G (n0 :: n1 :: n2 :: n3 :: N) sc k) (hv : visB sc n3 = true) (q : Q v H) (hd : (n3 == ("__debug__" : Str)) = false := by decide +kernel) (hc : (n3 == ("__classdict__" : Str)) = false := by decide +kernel) : WE X (.Name n3 pos) (s0 :: s1 :: s2 :: some v :: τ) H Q :=
  we_name d 3 rfl hv rfl q hd hc
theorem ws_s3 {n0 n1 n2 n3 : Str} {s0 s1 s2 s3 : Option V} {τ : L2.St} {pos' : Pos} (d : Fr X G (n0 :: n1 :: n2 :: n3 :: N) sc k W) (hl : cellB sc n3 = true) (hs : swapsWith e (some (.Name n3 pos')) pos.line X.env = pure false) (h : WE X e (s0 :: s1 :: s2 :: s3 :: τ) H fun v H1 => D.nx (s0 :: s1 :: s2 :: some v :: τ) H1) : WS X (.Assign [.Name n3 pos'] e pos) D (s0 :: s1 :: s2 :: s3 :: τ) H :=
  ws_set d 3 rfl (locs hl) hs h
theorem wg_n3 {n0 n1 n2 n3 : Str} {s0 s1 s2 s3 : Option V} {τ : L2.St} {R : L2.St → Hp → Prop} (d : Fr X G (n0 :: n1 :: n2 :: n3 :: N) sc k W) (hl : cellB sc n3 = true) (q : R (s0 :: s1 :: s2 :: some v :: τ) H) : WG X (.Name n3 pos) v (s0 :: s1 :: s2 :: s3 :: τ) H R :=
  wg_name d.toDef 3 rfl (locs hl) (.inl (d.fn _)) q
theorem wg_b3 {n0 n1 n2 n3 : Str} {s0 s1 s2 s3 : Option V} {τ : L2.St} {R : L2.St → Hp → Prop} (d : Def X G (n0 :: n1 :: n2 :: n3 :: N) sc k) (hl : locB sc n3 = true) (q : R (s0 :: s1 :: s2 :: some v :: τ) H) : WG X (.Name n3 pos) v (s0 :: s1 :: s2 :: s3 :: τ) H R :=
  wg_name d 3 rfl (.inl (loc_of hl)) (.inr (loc_of hl)) q
theorem we_n4 {n0 n1 n2 n3 n4 : Str} {s0 s1 s2 s3 : Option V} {τ : L2.St} (d : Def X G (n0 :: n1 :: n2 :: n3 :: n4 :: N) sc k) (hv : visB sc n4 = true) (q : Q v H) (hd : (n4 == ("__debug__" : Str)) = false := by decide +kernel) (hc : (n4 == ("__classdict__" : Str)) = false := by decide +kernel) : WE X (.Name n4 pos) (s0 :: s1 :: s2 :: s3 :: some v :: τ) H Q :=
  we_name d 4 rfl hv rfl q hd hc
theorem ws_s4 {n0 n1 n2 n3 n4 : Str} {s0 s1 s2 s3 s4 : Option V} {τ : L2.St} {pos' : Pos} (d : Fr X G (n0 :: n1 :: n2 :: n3 :: n4 :: N) sc k W) (hl : cellB sc n4 = true) (hs : swapsWith e (some (.Name n4 pos')) pos.line X.env = pure false) (h : WE X e (s0 :: s1 :: s2 :: s3 :: s4 :: τ) H fun v H1 => D.nx (s0 :: s1 :: s2 :: s3 :: some v :: τ) H1) : WS X (.Assign [.Name n4 pos'] e pos) D (s0 :: s1 :: s2 :: s3 :: s4 :: τ) H :=
  ws_set d 4 rfl (locs hl) hs h
theorem wg_n4 {n0 n1 n2 n3 n4 : Str} {s0 s1 s2 s3 s4 : Option V} {τ : L2.St} {R : L2.St → Hp → Prop} (d : Fr X G (n0 :: n1 :: n2 :: n3 :: n4 :: N) sc k W) (hl : cellB sc n4 = true) (q : R (s0 :: s1 :: s2 :: s3 :: some v :: τ) H) : WG X (.Name n4 pos) v (s0 :: s1 :: s2 :: s3 :: s4 :: τ) H R :=
  wg_name d.toDef 4 rfl (locs hl) (.inl (d.fn _)) q
theorem wg_b4 {n0 n1 n2 n3 n4 : Str} {s0 s1 s2 s3 s4 : Option V} {τ : L2.St} {R : L2.St → Hp → Prop} (d : Def X G (n0 :: n1 :: n2 :: n3 :: n4 :: N) sc k) (hl : locB sc n4 = true) (q : R (s0 :: s1 :: s2 :: s3 :: some v :: τ) H) : WG X (.Name n4 pos) v (s0 :: s1 :: s2 :: s3 :: s4 :: τ) H R :=
  wg_name d 4 rfl (.inl (loc_of hl)) (.inr (loc_of hl)) q
theorem we_n5 {n0 n1 n2 n3 n4 n5 : Str} {s0 s1 s2 s3 s4 : Option V} {τ : L2.St} (d : Def X G (n0 :: n1 :: n2 :: n3 :: n4 :: n5 :: N) sc k) (hv : visB sc n5 = true) (q : Q v H) (hd : (n5 == ("__debug__" : Str)) = false := by decide +kernel) (hc : (n5 == ("__classdict__" : Str)) = false := by decide +kernel) : WE X (.Name n5 pos) (s0 :: s1 :: s2 :: s3 :: s4 :: some v :: τ) H Q :=
  we_name d 5 rfl hv rfl q hd hc
theorem ws_s5 {n0 n1 n2 n3 n4 n5 : Str} {s0 s1 s2 s3 s4 s5 : Option V} {τ : L2.St} {pos' : Pos} (d : Fr X G (n0 :: n1 :: n2 :: n3 :: n4 :: n5 :: N) sc k W) (hl : cellB sc n5 = true) (hs : swapsWith e (some (.Name n5 pos')) pos.line X.env = pure false) (h : WE X e (s0 :: s1 :: s2 :: s3 :: s4 :: s5 :: τ) H fun v H1 => D.nx (s0 :: s1 :: s2 :: s3 :: s4 :: some v :: τ) H1) : WS X (.Assign [.Name n5 pos'] e pos) D (s0 :: s1 :: s2 :: s3 :: s4 :: s5 :: τ) H :=
  ws_set d 5 rfl (locs hl) hs h
theorem wg_n5 {n0 n1 n2 n3 n4 n5 : Str} {s0 s1 s2 s3 s4 s5 : Option V} {τ : L2.St} {R : L2.St → Hp → Prop} (d : Fr X G (n0 :: n1 :: n2 :: n3 :: n4 :: n5 :: N) sc k W) (hl : cellB sc n5 = true) (q : R (s0 :: s1 :: s2 :: s3 :: s4 :: some v :: τ) H) : WG X (.Name n5 pos) v (s0 :: s1 :: s2 :: s3 :: s4 :: s5 :: τ) H R :=
  wg_name d.toDef 5 rfl (locs hl) (.inl (d.fn _)) q
theorem wg_b5 {n0 n1 n2 n3 n4 n5 : Str} {s0 s1 s2 s3 s4 s5 : Option V} {τ : L2.St} {R : L2.St → Hp → Prop} (d : Def X G (n0 :: n1 :: n2 :: n3 :: n4 :: n5 :: N) sc k) (hl : locB sc n5 = true) (q : R (s0 :: s1 :: s2 :: s3 :: s4 :: some v :: τ) H) : WG X (.Name n5 pos) v (s0 :: s1 :: s2 :: s3 :: s4 :: s5 :: τ) H R :=
  wg_name d 5 rfl (.inl (loc_of hl)) (.inr (loc_of hl)) q
theorem we_n6 {n0 n1 n2 n3 n4 n5 n6 : Str} {s0 s1 s2 s3 s4 s5 : Option V} {τ : L2.St} (d : Def X G (n0 :: n1 :: n2 :: n3 :: n4 :: n5 :: n6 :: N) sc k) (hv : visB sc n6 = true) (q : Q v H) (hd : (n6 == ("__debug__" : Str)) = false := by decide +kernel) (hc : (n6 == ("__classdict__" : Str)) = false := by decide +kernel) : WE X (.Name n6 pos) (s0 :: s1 :: s2 :: s3 :: s4 :: s5 :: some v :: τ) H Q :=
  we_name d 6 rfl hv rfl q hd hc
theorem ws_s6 {n0 n1 n2 n3 n4 n5 n6 : Str} {s0 s1 s2 s3 s4 s5 s6 : Option V} {τ : L2.St} {pos' : Pos} (d : Fr X G (n0 :: n1 :: n2 :: n3 :: n4 :: n5 :: n6 :: N) sc k W) (hl : cellB sc n6 = true) (hs : swapsWith e (some (.Name n6 pos')) pos.line X.env = pure false) (h : WE X e (s0 :: s1 :: s2 :: s3 :: s4 :: s5 :: s6 :: τ) H fun v H1 => D.nx (s0 :: s1 :: s2 :: s3 :: s4 :: s5 :: some v :: τ) H1) : WS X (.Assign [.Name n6 pos'] e pos) D (s0 :: s1 :: s2 :: s3 :: s4 :: s5 :: s6 :: τ) H :=
  ws_set d 6 rfl (locs hl) hs h
theorem wg_n6 {n0 n1 n2 n3 n4 n5 n6 : Str} {s0 s1 s2 s3 s4 s5 s6 : Option V} {τ : L2.St} {R : L2.St → Hp → Prop} (d : Fr X G (n0 :: n1 :: n2 :: n3 :: n4 :: n5 :: n6 :: N) sc k W) (hl : cellB sc n6 = true) (q : R (s0 :: s1 :: s2 :: s3 :: s4 :: s5 :: some v :: τ) H) : WG X (.Name n6 pos) v (s0 :: s1 :: s2 :: s3 :: s4 :: s5 :: s6 :: τ) H R :=
  wg_name d.toDef 6 rfl (locs hl) (.inl (d.fn _)) q
theorem wg_b6 {n0 n1 n2 n3 n4 n5 n6 : Str} {s0 s1 s2 s3 s4 s5 s6 : Option V} {τ : L2.St} {R : L2.St → Hp → Prop} (d : Def X G (n0 :: n1 :: n2 :: n3 :: n4 :: n5 :: n6 :: N) sc k) (hl : locB sc n6 = true) (q : R (s0 :: s1 :: s2 :: s3 :: s4 :: s5 :: some v :: τ) H) : WG X (.Name n6 pos) v (s0 :: s1 :: s2 :: s3 :: s4 :: s5 :: s6 :: τ) H R :=
  wg_name d 6 rfl (.inl (loc_of hl)) (.inr (loc_of hl)) q
theorem we_n7 {n0 n1 n2 n3 n4 n5 n6 n7 : Str} {s0 s1 s2 s3 s4 s5 s6 : Option V} {τ : L2.St} (d : Def X G (n0 :: n1 :: n2 :: n3 :: n4 :: n5 :: n6 :: n7 :: N) sc k) (hv : visB sc n7 = true) (q : Q v H) (hd : (n7 == ("__debug__" : Str)) = false := by decide +kernel) (hc : (n7 == ("__classdict__" : Str)) = false := by decide +kernel) : WE X (.Name n7 pos) (s0 :: s1 :: s2 :: s3 :: s4 :: s5 :: s6 :: some v :: τ) H Q :=
  we_name d 7 rfl hv rfl q hd hc
theorem ws_s7 {n0 n1 n2 n3 n4 n5 n6 n7 : Str} {s0 s1 s2 s3 s4 s5 s6 s7 : Option V} {τ : L2.St} {pos' : Pos} (d : Fr X G (n0 :: n1 :: n2 :: n3 :: n4 :: n5 :: n6 :: n7 :: N) sc k W) (hl : cellB sc n7 = true) (hs : swapsWith e (some (.Name n7 pos')) pos.line X.env = pure false) (h : WE X e (s0 :: s1 :: s2 :: s3 :: s4 :: s5 :: s6 :: s7 :: τ) H fun v H1 => D.nx (s0 :: s1 :: s2 :: s3 :: s4 :: s5 :: s6 :: some v :: τ) H1) : WS X (.Assign [.Name n7 pos'] e pos) D (s0 :: s1 :: s2 :: s3 :: s4 :: s5 :: s6 :: s7 :: τ) H :=
  ws_set d 7 rfl (locs hl) hs h
theorem wg_n7 {n0 n1 n2 n3 n4 n5 n6 n7 : Str} {s0 s1 s2 s3 s4 s5 s6 s7 : Option V} {τ : L2.St} {R : L2.St → Hp → Prop} (d : Fr X G (n0 :: n1 :: n2 :: n3 :: n4 :: n5 :: n6 :: n7 :: N) sc k W) (hl : cellB sc n7 = true) (q : R (s0 :: s1 :: s2 :: s3 :: s4 :: s5 :: s6 :: some v :: τ) H) : WG X (.Name n7 pos) v (s0 :: s1 :: s2 :: s3 :: s4 :: s5 :: s6 :: s7 :: τ) H R :=
  wg_name d.toDef 7 rfl (locs hl) (.inl (d.fn _)) q
theorem wg_b7 {n0 n1 n2 n3 n4 n5 n6 n7 : Str} {s0 s1 s2 s3 s4 s5 s6 s7 : Option V} {τ : L2.St} {R : L2.St → Hp → Prop} (d : Def X G (n0 :: n1 :: n2 :: n3 :: n4 :: n5 :: n6 :: n7 :: N) sc k) (hl : locB sc n7 = true) (q : R (s0 :: s1 :: s2 :: s3 :: s4 :: s5 :: s6 :: some v :: τ) H) : WG X (.Name n7 pos) v (s0 :: s1 :: s2 :: s3 :: s4 :: s5 :: s6 :: s7 :: τ) H R :=
  wg_name d 7 rfl (.inl (loc_of hl)) (.inr (loc_of hl)) q
theorem we_n8 {n0 n1 n2 n3 n4 n5 n6 n7 n8 : Str} {s0 s1 s2 s3 s4 s5 s6 s7 : Option V} {τ : L2.St} (d : Def X G (n0 :: n1 :: n2 :: n3 :: n4 :: n5 :: n6 :: n7 :: n8 :: N) sc k) (hv : visB sc n8 = true) (q : Q v H) (hd : (n8 == ("__debug__" : Str)) = false := by decide +kernel) (hc : (n8 == ("__classdict__" : Str)) = false := by decide +kernel) : WE X (.Name n8 pos) (s0 :: s1 :: s2 :: s3 :: s4 :: s5 :: s6 :: s7 :: some v :: τ) H Q :=
  we_name d 8 rfl hv rfl q hd hc
theorem ws_s8 {n0 n1 n2 n3 n4 n5 n6 n7 n8 : Str} {s0 s1 s2 s3 s4 s5 s6 s7 s8 : Option V} {τ : L2.St} {pos' : Pos} (d : Fr X G (n0 :: n1 :: n2 :: n3 :: n4 :: n5 :: n6 :: n7 :: n8 :: N) sc k W) (hl : cellB sc n8 = true) (hs : swapsWith e (some (.Name n8 pos')) pos.line X.env = pure false) (h : WE X e (s0 :: s1 :: s2 :: s3 :: s4 :: s5 :: s6 :: s7 :: s8 :: τ) H fun v H1 => D.nx (s0 :: s1 :: s2 :: s3 :: s4 :: s5 :: s6 :: s7 :: some v :: τ) H1) : WS X (.Assign [.Name n8 pos'] e pos) D (s0 :: s1 :: s2 :: s3 :: s4 :: s5 :: s6 :: s7 :: s8 :: τ) H :=
  ws_set d 8 rfl (locs hl) hs h
theorem wg_n8 {n0 n1 n2 n3 n4 n5 n6 n7 n8 : Str} {s0 s1 s2 s3 s4 s5 s6 s7 s8 : Option V} {τ : L2.St} {R : L2.St → Hp → Prop} (d : Fr X G (n0 :: n1 :: n2 :: n3 :: n4 :: n5 :: n6 :: n7 :: n8 :: N) sc k W) (hl : cellB sc n8 = true) (q : R (s0 :: s1 :: s2 :: s3 :: s4 :: s5 :: s6 :: s7 :: some v :: τ) H) : WG X (.Name n8 pos) v (s0 :: s1 :: s2 :: s3 :: s4 :: s5 :: s6 :: s7 :: s8 :: τ) H R :=
  wg_name d.toDef 8 rfl (locs hl) (.inl (d.fn _)) q
theorem wg_b8 {n0 n1 n2 n3 n4 n5 n6 n7 n8 : Str} {s0 s1 s2 s3 s4 s5 s6 s7 s8 : Option V} {τ : L2.St} {R : L2.St → Hp → Prop} (d : Def X G (n0 :: n1 :: n2 :: n3 :: n4 :: n5 :: n6 :: n7 :: n8 :: N) sc k) (hl : locB sc n8 = true) (q : R (s0 :: s1 :: s2 :: s3 :: s4 :: s5 :: s6 :: s7 :: some v :: τ) H) : WG X (.Name n8 pos) v (s0 :: s1 :: s2 :: s3 :: s4 :: s5 :: s6 :: s7 :: s8 :: τ) H R :=
  wg_name d 8 rfl (.inl (loc_of hl)) (.inr (loc_of hl)) q
theorem we_n9 {n0 n1 n2 n3 n4 n5 n6 n7 n8 n9 : Str} {s0 s1 s2 s3 s4 s5 s6 s7 s8 : Option V} {τ : L2.St} (d : Def X G (n0 :: n1 :: n2 :: n3 :: n4 :: n5 :: n6 :: n7 :: n8 :: n9 :: N) sc k) (hv : visB sc n9 = true) (q : Q v H) (hd : (n9 == ("__debug__" : Str)) = false := by decide +kernel) (hc : (n9 == ("__classdict__" : Str)) = false := by decide +kernel) : WE X (.Name n9 pos) (s0 :: s1 :: s2 :: s3 :: s4 :: s5 :: s6 :: s7 :: s8 :: some v :: τ) H Q :=
  we_name d 9 rfl hv rfl q hd hc
theorem ws_s9 {n0 n1 n2 n3 n4 n5 n6 n7 n8 n9 : Str} {s0 s1 s2 s3 s4 s5 s6 s7 s8 s9 : Option V} {τ : L2.St} {pos' : Pos} (d : Fr X G (n0 :: n1 :: n2 :: n3 :: n4 :: n5 :: n6 :: n7 :: n8 :: n9 :: N) sc k W) (hl : cellB sc n9 = true) (hs : swapsWith e (some (.Name n9 pos')) pos.line X.env = pure false) (h : WE X e (s0 :: s1 :: s2 :: s3 :: s4 :: s5 :: s6 :: s7 :: s8 :: s9 :: τ) H fun v H1 => D.nx (s0 :: s1 :: s2 :: s3 :: s4 :: s5 :: s6 :: s7 :: s8 :: some v :: τ) H1) : WS X (.Assign [.Name n9 pos'] e pos) D (s0 :: s1 :: s2 :: s3 :: s4 :: s5 :: s6 :: s7 :: s8 :: s9 :: τ) H :=
  ws_set d 9 rfl (locs hl) hs h
theorem wg_n9 {n0 n1 n2 n3 n4 n5 n6 n7 n8 n9 : Str} {s0 s1 s2 s3 s4 s5 s6 s7 s8 s9 : Option V} {τ : L2.St} {R : L2.St → Hp → Prop} (d : Fr X G (n0 :: n1 :: n2 :: n3 :: n4 :: n5 :: n6 :: n7 :: n8 :: n9 :: N) sc k W) (hl : cellB sc n9 = true) (q : R (s0 :: s1 :: s2 :: s3 :: s4 :: s5 :: s6 :: s7 :: s8 :: some v :: τ) H) : WG X (.Name n9 pos) v (s0 :: s1 :: s2 :: s3 :: s4 :: s5 :: s6 :: s7 :: s8 :: s9 :: τ) H R :=
  wg_name d.toDef 9 rfl (locs hl) (.inl (d.fn _)) q
theorem wg_b9 {n0 n1 n2 n3 n4 n5 n6 n7 n8 n9 : Str} {s0 s1 s2 s3 s4 s5 s6 s7 s8 s9 : Option V} {τ : L2.St} {R : L2.St → Hp → Prop} (d : Def X G (n0 :: n1 :: n2 :: n3 :: n4 :: n5 :: n6 :: n7 :: n8 :: n9 :: N) sc k) (hl : locB sc n9 = true) (q : R (s0 :: s1 :: s2 :: s3 :: s4 :: s5 :: s6 :: s7 :: s8 :: some v :: τ) H) : WG X (.Name n9 pos) v (s0 :: s1 :: s2 :: s3 :: s4 :: s5 :: s6 :: s7 :: s8 :: s9 :: τ) H R :=
  wg_name d 9 rfl (.inl (loc_of hl)) (.inr (loc_of hl)) q
theorem we_n10 {n0 n1 n2 n3 n4 n5 n6 n7 n8 n9 n10 : Str} {s0 s1 s2 s3 s4 s5 s6 s7 s8 s9 : Option V} {τ : L2.St} (d : Def X G (n0 :: n1 :: n2 :: n3 :: n4 :: n5 :: n6 :: n7 :: n8 :: n9 :: n10 :: N) sc k) (hv : visB sc n10 = true) (q : Q v H) (hd : (n10 == ("__debug__" : Str)) = false := by decide +kernel) (hc : (n10 == ("__classdict__" : Str)) = false := by decide +kernel) : WE X (.Name n10 pos) (s0 :: s1 :: s2 :: s3 :: s4 :: s5 :: s6 :: s7 :: s8 :: s9 :: some v :: τ) H Q :=
  we_name d 10 rfl hv rfl q hd hc
theorem ws_s10 {n0 n1 n2 n3 n4 n5 n6 n7 n8 n9 n10 : Str} {s0 s1 s2 s3 s4 s5 s6 s7 s8 s9 s10 : Option V} {τ : L2.St} {pos' : Pos} (d : Fr X G (n0 :: n1 :: n2 :: n3 :: n4 :: n5 :: n6 :: n7 :: n8 :: n9 :: n10 :: N) sc k W) (hl : cellB sc n10 = true) (hs : swapsWith e (some (.Name n10 pos')) pos.line X.env = pure false) (h : WE X e (s0 :: s1 :: s2 :: s3 :: s4 :: s5 :: s6 :: s7 :: s8 :: s9 :: s10 :: τ) H fun v H1 => D.nx (s0 :: s1 :: s2 :: s3 :: s4 :: s5 :: s6 :: s7 :: s8 :: s9 :: some v :: τ) H1) : WS X (.Assign [.Name n10 pos'] e pos) D (s0 :: s1 :: s2 :: s3 :: s4 :: s5 :: s6 :: s7 :: s8 :: s9 :: s10 :: τ) H :=
  ws_set d 10 rfl (locs hl) hs h
theorem wg_n10 {n0 n1 n2 n3 n4 n5 n6 n7 n8 n9 n10 : Str} {s0 s1 s2 s3 s4 s5 s6 s7 s8 s9 s10 : Option V} {τ : L2.St} {R : L2.St → Hp → Prop} (d : Fr X G (n0 :: n1 :: n2 :: n3 :: n4 :: n5 :: n6 :: n7 :: n8 :: n9 :: n10 :: N) sc k W) (hl : cellB sc n10 = true) (q : R (s0 :: s1 :: s2 :: s3 :: s4 :: s5 :: s6 :: s7 :: s8 :: s9 :: some v :: τ) H) : WG X (.Name n10 pos) v (s0 :: s1 :: s2 :: s3 :: s4 :: s5 :: s6 :: s7 :: s8 :: s9 :: s10 :: τ) H R :=
  wg_name d.toDef 10 rfl (locs hl) (.inl (d.fn _)) q
theorem wg_b10 {n0 n1 n2 n3 n4 n5 n6 n7 n8 n9 n10 : Str} {s0 s1 s2 s3 s4 s5 s6 s7 s8 s9 s10 : Option V} {τ : L2.St} {R : L2.St → Hp → Prop} (d : Def X G (n0 :: n1 :: n2 :: n3 :: n4 :: n5 :: n6 :: n7 :: n8 :: n9 :: n10 :: N) sc k) (hl : locB sc n10 = true) (q : R (s0 :: s1 :: s2 :: s3 :: s4 :: s5 :: s6 :: s7 :: s8 :: s9 :: some v :: τ) H) : WG X (.Name n10 pos) v (s0 :: s1 :: s2 :: s3 :: s4 :: s5 :: s6 :: s7 :: s8 :: s9 :: s10 :: τ) H R :=
  wg_name d 10 rfl (.inl (loc_of hl)) (.inr (loc_of hl)) q
theorem we_n11 {n0 n1 n2 n3 n4 n5 n6 n7 n8 n9 n10 n11 : Str} {s0 s1 s2 s3 s4 s5 s6 s7 s8 s9 s10 : Option V} {τ : L2.St} (d : Def X G (n0 :: n1 :: n2 :: n3 :: n4 :: n5 :: n6 :: n7 :: n8 :: n9 :: n10 :: n11 :: N) sc k) (hv : visB sc n11 = true) (q : Q v H) (hd : (n11 == ("__debug__" : Str)) = false := by decide +kernel) (hc : (n11 == ("__classdict__" : Str)) = false := by decide +kernel) : WE X (.Name n11 pos) (s0 :: s1 :: s2 :: s3 :: s4 :: s5 :: s6 :: s7 :: s8 :: s9 :: s10 :: some v :: τ) H Q :=
  we_name d 11 rfl hv rfl q hd hc
theorem ws_s11 {n0 n1 n2 n3 n4 n5 n6 n7 n8 n9 n10 n11 : Str} {s0 s1 s2 s3 s4 s5 s6 s7 s8 s9 s10 s11 : Option V} {τ : L2.St} {pos' : Pos} (d : Fr X G (n0 :: n1 :: n2 :: n3 :: n4 :: n5 :: n6 :: n7 :: n8 :: n9 :: n10 :: n11 :: N) sc k W) (hl : cellB sc n11 = true) (hs : swapsWith e (some (.Name n11 pos')) pos.line X.env = pure false) (h : WE X e (s0 :: s1 :: s2 :: s3 :: s4 :: s5 :: s6 :: s7 :: s8 :: s9 :: s10 :: s11 :: τ) H fun v H1 => D.nx (s0 :: s1 :: s2 :: s3 :: s4 :: s5 :: s6 :: s7 :: s8 :: s9 :: s10 :: some v :: τ) H1) : WS X (.Assign [.Name n11 pos'] e pos) D (s0 :: s1 :: s2 :: s3 :: s4 :: s5 :: s6 :: s7 :: s8 :: s9 :: s10 :: s11 :: τ) H :=
  ws_set d 11 rfl (locs hl) hs h
theorem wg_n11 {n0 n1 n2 n3 n4 n5 n6 n7 n8 n9 n10 n11 : Str} {s0 s1 s2 s3 s4 s5 s6 s7 s8 s9 s10 s11 : Option V} {τ : L2.St} {R : L2.St → Hp → Prop} (d : Fr X G (n0 :: n1 :: n2 :: n3 :: n4 :: n5 :: n6 :: n7 :: n8 :: n9 :: n10 :: n11 :: N) sc k W) (hl : cellB sc n11 = true) (q : R (s0 :: s1 :: s2 :: s3 :: s4 :: s5 :: s6 :: s7 :: s8 :: s9 :: s10 :: some v :: τ) H) : WG X (.Name n11 pos) v (s0 :: s1 :: s2 :: s3 :: s4 :: s5 :: s6 :: s7 :: s8 :: s9 :: s10 :: s11 :: τ) H R :=
  wg_name d.toDef 11 rfl (locs hl) (.inl (d.fn _)) q
theorem wg_b11 {n0 n1 n2 n3 n4 n5 n6 n7 n8 n9 n10 n11 : Str} {s0 s1 s2 s3 s4 s5 s6 s7 s8 s9 s10 s11 : Option V} {τ : L2.St} {R : L2.St → Hp → Prop} (d : Def X G (n0 :: n1 :: n2 :: n3 :: n4 :: n5 :: n6 :: n7 :: n8 :: n9 :: n10 :: n11 :: N) sc k) (hl : locB sc n11 = true) (q : R (s0 :: s1 :: s2 :: s3 :: s4 :: s5 :: s6 :: s7 :: s8 :: s9 :: s10 :: some v :: τ) H) : WG X (.Name n11 pos) v (s0 :: s1 :: s2 :: s3 :: s4 :: s5 :: s6 :: s7 :: s8 :: s9 :: s10 :: s11 :: τ) H R :=
  wg_name d 11 rfl (.inl (loc_of hl)) (.inr (loc_of hl)) q
theorem we_n12 {n0 n1 n2 n3 n4 n5 n6 n7 n8 n9 n10 n11 n12 : Str} {s0 s1 s2 s3 s4 s5 s6 s7 s8 s9 s10 s11 : Option V} {τ : L2.St} (d : Def X G (n0 :: n1 :: n2 :: n3 :: n4 :: n5 :: n6 :: n7 :: n8 :: n9 :: n10 :: n11 :: n12 :: N) sc k) (hv : visB sc n12 = true) (q : Q v H) (hd : (n12 == ("__debug__" : Str)) = false := by decide +kernel) (hc : (n12 == ("__classdict__" : Str)) = false := by decide +kernel) : WE X (.Name n12 pos) (s0 :: s1 :: s2 :: s3 :: s4 :: s5 :: s6 :: s7 :: s8 :: s9 :: s10 :: s11 :: some v :: τ) H Q :=
  we_name d 12 rfl hv rfl q hd hc
theorem ws_s12 {n0 n1 n2 n3 n4 n5 n6 n7 n8 n9 n10 n11 n12 : Str} {s0 s1 s2 s3 s4 s5 s6 s7 s8 s9 s10 s11 s12 : Option V} {τ : L2.St} {pos' : Pos} (d : Fr X G (n0 :: n1 :: n2 :: n3 :: n4 :: n5 :: n6 :: n7 :: n8 :: n9 :: n10 :: n11 :: n12 :: N) sc k W) (hl : cellB sc n12 = true) (hs : swapsWith e (some (.Name n12 pos')) pos.line X.env = pure false) (h : WE X e (s0 :: s1 :: s2 :: s3 :: s4 :: s5 :: s6 :: s7 :: s8 :: s9 :: s10 :: s11 :: s12 :: τ) H fun v H1 => D.nx (s0 :: s1 :: s2 :: s3 :: s4 :: s5 :: s6 :: s7 :: s8 :: s9 :: s10 :: s11 :: some v :: τ) H1) : WS X (.Assign [.Name n12 pos'] e pos) D (s0 :: s1 :: s2 :: s3 :: s4 :: s5 :: s6 :: s7 :: s8 :: s9 :: s10 :: s11 :: s12 :: τ) H :=
  ws_set d 12 rfl (locs hl) hs h
theorem wg_n12 {n0 n1 n2 n3 n4 n5 n6 n7 n8 n9 n10 n11 n12 : Str} {s0 s1 s2 s3 s4 s5 s6 s7 s8 s9 s10 s11 s12 : Option V} {τ : L2.St} {R : L2.St → Hp → Prop} (d : Fr X G (n0 :: n1 :: n2 :: n3 :: n4 :: n5 :: n6 :: n7 :: n8 :: n9 :: n10 :: n11 :: n12 :: N) sc k W) (hl : cellB sc n12 = true) (q : R (s0 :: s1 :: s2 :: s3 :: s4 :: s5 :: s6 :: s7 :: s8 :: s9 :: s10 :: s11 :: some v :: τ) H) : WG X (.Name n12 pos) v (s0 :: s1 :: s2 :: s3 :: s4 :: s5 :: s6 :: s7 :: s8 :: s9 :: s10 :: s11 :: s12 :: τ) H R :=
  wg_name d.toDef 12 rfl (locs hl) (.inl (d.fn _)) q
theorem wg_b12 {n0 n1 n2 n3 n4 n5 n6 n7 n8 n9 n10 n11 n12 : Str} {s0 s1 s2 s3 s4 s5 s6 s7 s8 s9 s10 s11 s12 : Option V} {τ : L2.St} {R : L2.St → Hp → Prop} (d : Def X G (n0 :: n1 :: n2 :: n3 :: n4 :: n5 :: n6 :: n7 :: n8 :: n9 :: n10 :: n11 :: n12 :: N) sc k) (hl : locB sc n12 = true) (q : R (s0 :: s1 :: s2 :: s3 :: s4 :: s5 :: s6 :: s7 :: s8 :: s9 :: s10 :: s11 :: some v :: τ) H) : WG X (.Name n12 pos) v (s0 :: s1 :: s2 :: s3 :: s4 :: s5 :: s6 :: s7 :: s8 :: s9 :: s10 :: s11 :: s12 :: τ) H R :=
  wg_name d 12 rfl (.inl (loc_of hl)) (.inr (loc_of hl)) q
theorem we_n13 {n0 n1 n2 n3 n4 n5 n6 n7 n8 n9 n10 n11 n12 n13 : Str} {s0 s1 s2 s3 s4 s5 s6 s7 s8 s9 s10 s11 s12 : Option V} {τ : L2.St} (d : Def X G (n0 :: n1 :: n2 :: n3 :: n4 :: n5 :: n6 :: n7 :: n8 :: n9 :: n10 :: n11 :: n12 :: n13 :: N) sc k) (hv : visB sc n13 = true) (q : Q v H) (hd : (n13 == ("__debug__" : Str)) = false := by decide +kernel) (hc : (n13 == ("__classdict__" : Str)) = false := by decide +kernel) : WE X (.Name n13 pos) (s0 :: s1 :: s2 :: s3 :: s4 :: s5 :: s6 :: s7 :: s8 :: s9 :: s10 :: s11 :: s12 :: some v :: τ) H Q :=
  we_name d 13 rfl hv rfl q hd hc
theorem ws_s13 {n0 n1 n2 n3 n4 n5 n6 n7 n8 n9 n10 n11 n12 n13 : Str} {s0 s1 s2 s3 s4 s5 s6 s7 s8 s9 s10 s11 s12 s13 : Option V} {τ : L2.St} {pos' : Pos} (d : Fr X G (n0 :: n1 :: n2 :: n3 :: n4 :: n5 :: n6 :: n7 :: n8 :: n9 :: n10 :: n11 :: n12 :: n13 :: N) sc k W) (hl : cellB sc n13 = true) (hs : swapsWith e (some (.Name n13 pos')) pos.line X.env = pure false) (h : WE X e (s0 :: s1 :: s2 :: s3 :: s4 :: s5 :: s6 :: s7 :: s8 :: s9 :: s10 :: s11 :: s12 :: s13 :: τ) H fun v H1 => D.nx (s0 :: s1 :: s2 :: s3 :: s4 :: s5 :: s6 :: s7 :: s8 :: s9 :: s10 :: s11 :: s12 :: some v :: τ) H1) : WS X (.Assign [.Name n13 pos'] e pos) D (s0 :: s1 :: s2 :: s3 :: s4 :: s5 :: s6 :: s7 :: s8 :: s9 :: s10 :: s11 :: s12 :: s13 :: τ) H :=
  ws_set d 13 rfl (locs hl) hs h
theorem wg_n13 {n0 n1 n2 n3 n4 n5 n6 n7 n8 n9 n10 n11 n12 n13 : Str} {s0 s1 s2 s3 s4 s5 s6 s7 s8 s9 s10 s11 s12 s13 : Option V} {τ : L2.St} {R : L2.St → Hp → Prop} (d : Fr X G (n0 :: n1 :: n2 :: n3 :: n4 :: n5 :: n6 :: n7 :: n8 :: n9 :: n10 :: n11 :: n12 :: n13 :: N) sc k W) (hl : cellB sc n13 = true) (q : R (s0 :: s1 :: s2 :: s3 :: s4 :: s5 :: s6 :: s7 :: s8 :: s9 :: s10 :: s11 :: s12 :: some v :: τ) H) : WG X (.Name n13 pos) v (s0 :: s1 :: s2 :: s3 :: s4 :: s5 :: s6 :: s7 :: s8 :: s9 :: s10 :: s11 :: s12 :: s13 :: τ) H R :=
  wg_name d.toDef 13 rfl (locs hl) (.inl (d.fn _)) q
theorem wg_b13 {n0 n1 n2 n3 n4 n5 n6 n7 n8 n9 n10 n11 n12 n13 : Str} {s0 s1 s2 s3 s4 s5 s6 s7 s8 s9 s10 s11 s12 s13 : Option V} {τ : L2.St} {R : L2.St → Hp → Prop} (d : Def X G (n0 :: n1 :: n2 :: n3 :: n4 :: n5 :: n6 :: n7 :: n8 :: n9 :: n10 :: n11 :: n12 :: n13 :: N) sc k) (hl : locB sc n13 = true) (q : R (s0 :: s1 :: s2 :: s3 :: s4 :: s5 :: s6 :: s7 :: s8 :: s9 :: s10 :: s11 :: s12 :: some v :: τ) H) : WG X (.Name n13 pos) v (s0 :: s1 :: s2 :: s3 :: s4 :: s5 :: s6 :: s7 :: s8 :: s9 :: s10 :: s11 :: s12 :: s13 :: τ) H R :=
  wg_name d 13 rfl (.inl (loc_of hl)) (.inr (loc_of hl)) q
theorem we_n14 {n0 n1 n2 n3 n4 n5 n6 n7 n8 n9 n10 n11 n12 n13 n14 : Str} {s0 s1 s2 s3 s4 s5 s6 s7 s8 s9 s10 s11 s12 s13 : Option V} {τ : L2.St} (d : Def X G (n0 :: n1 :: n2 :: n3 :: n4 :: n5 :: n6 :: n7 :: n8 :: n9 :: n10 :: n11 :: n12 :: n13 :: n14 :: N) sc k) (hv : visB sc n14 = true) (q : Q v H) (hd : (n14 == ("__debug__" : Str)) = false := by decide +kernel) (hc : (n14 == ("__classdict__" : Str)) = false := by decide +kernel) : WE X (.Name n14 pos) (s0 :: s1 :: s2 :: s3 :: s4 :: s5 :: s6 :: s7 :: s8 :: s9 :: s10 :: s11 :: s12 :: s13 :: some v :: τ) H Q :=
  we_name d 14 rfl hv rfl q hd hc
theorem ws_s14 {n0 n1 n2 n3 n4 n5 n6 n7 n8 n9 n10 n11 n12 n13 n14 : Str} {s0 s1 s2 s3 s4 s5 s6 s7 s8 s9 s10 s11 s12 s13 s14 : Option V} {τ : L2.St} {pos' : Pos} (d : Fr X G (n0 :: n1 :: n2 :: n3 :: n4 :: n5 :: n6 :: n7 :: n8 :: n9 :: n10 :: n11 :: n12 :: n13 :: n14 :: N) sc k W) (hl : cellB sc n14 = true) (hs : swapsWith e (some (.Name n14 pos')) pos.line X.env = pure false) (h : WE X e (s0 :: s1 :: s2 :: s3 :: s4 :: s5 :: s6 :: s7 :: s8 :: s9 :: s10 :: s11 :: s12 :: s13 :: s14 :: τ) H fun v H1 => D.nx (s0 :: s1 :: s2 :: s3 :: s4 :: s5 :: s6 :: s7 :: s8 :: s9 :: s10 :: s11 :: s12 :: s13 :: some v :: τ) H1) : WS X (.Assign [.Name n14 pos'] e pos) D (s0 :: s1 :: s2 :: s3 :: s4 :: s5 :: s6 :: s7 :: s8 :: s9 :: s10 :: s11 :: s12 :: s13 :: s14 :: τ) H :=
  ws_set d 14 rfl (locs hl) hs h
theorem wg_n14 {n0 n1 n2 n3 n4 n5 n6 n7 n8 n9 n10 n11 n12 n13 n14 : Str} {s0 s1 s2 s3 s4 s5 s6 s7 s8 s9 s10 s11 s12 s13 s14 : Option V} {τ : L2.St} {R : L2.St → Hp → Prop} (d : Fr X G (n0 :: n1 :: n2 :: n3 :: n4 :: n5 :: n6 :: n7 :: n8 :: n9 :: n10 :: n11 :: n12 :: n13 :: n14 :: N) sc k W) (hl : cellB sc n14 = true) (q : R (s0 :: s1 :: s2 :: s3 :: s4 :: s5 :: s6 :: s7 :: s8 :: s9 :: s10 :: s11 :: s12 :: s13 :: some v :: τ) H) : WG X (.Name n14 pos) v (s0 :: s1 :: s2 :: s3 :: s4 :: s5 :: s6 :: s7 :: s8 :: s9 :: s10 :: s11 :: s12 :: s13 :: s14 :: τ) H R :=
  wg_name d.toDef 14 rfl (locs hl) (.inl (d.fn _)) q
theorem wg_b14 {n0 n1 n2 n3 n4 n5 n6 n7 n8 n9 n10 n11 n12 n13 n14 : Str} {s0 s1 s2 s3 s4 s5 s6 s7 s8 s9 s10 s11 s12 s13 s14 : Option V} {τ : L2.St} {R : L2.St → Hp → Prop} (d : Def X G (n0 :: n1 :: n2 :: n3 :: n4 :: n5 :: n6 :: n7 :: n8 :: n9 :: n10 :: n11 :: n12 :: n13 :: n14 :: N) sc k) (hl : locB sc n14 = true) (q : R (s0 :: s1 :: s2 :: s3 :: s4 :: s5 :: s6 :: s7 :: s8 :: s9 :: s10 :: s11 :: s12 :: s13 :: some v :: τ) H) : WG X (.Name n14 pos) v (s0 :: s1 :: s2 :: s3 :: s4 :: s5 :: s6 :: s7 :: s8 :: s9 :: s10 :: s11 :: s12 :: s13 :: s14 :: τ) H R :=
  wg_name d 14 rfl (.inl (loc_of hl)) (.inr (loc_of hl)) q
theorem we_n15 {n0 n1 n2 n3 n4 n5 n6 n7 n8 n9 n10 n11 n12 n13 n14 n15 : Str} {s0 s1 s2 s3 s4 s5 s6 s7 s8 s9 s10 s11 s12 s13 s14 : Option V} {τ : L2.St} (d : Def X G (n0 :: n1 :: n2 :: n3 :: n4 :: n5 :: n6 :: n7 :: n8 :: n9 :: n10 :: n11 :: n12 :: n13 :: n14 :: n15 :: N) sc k) (hv : visB sc n15 = true) (q : Q v H) (hd : (n15 == ("__debug__" : Str)) = false := by decide +kernel) (hc : (n15 == ("__classdict__" : Str)) = false := by decide +kernel) : WE X (.Name n15 pos) (s0 :: s1 :: s2 :: s3 :: s4 :: s5 :: s6 :: s7 :: s8 :: s9 :: s10 :: s11 :: s12 :: s13 :: s14 :: some v :: τ) H Q :=
  we_name d 15 rfl hv rfl q hd hc
theorem ws_s15 {n0 n1 n2 n3 n4 n5 n6 n7 n8 n9 n10 n11 n12 n13 n14 n15 : Str} {s0 s1 s2 s3 s4 s5 s6 s7 s8 s9 s10 s11 s12 s13 s14 s15 : Option V} {τ : L2.St} {pos' : Pos} (d : Fr X G (n0 :: n1 :: n2 :: n3 :: n4 :: n5 :: n6 :: n7 :: n8 :: n9 :: n10 :: n11 :: n12 :: n13 :: n14 :: n15 :: N) sc k W) (hl : cellB sc n15 = true) (hs : swapsWith e (some (.Name n15 pos')) pos.line X.env = pure false) (h : WE X e (s0 :: s1 :: s2 :: s3 :: s4 :: s5 :: s6 :: s7 :: s8 :: s9 :: s10 :: s11 :: s12 :: s13 :: s14 :: s15 :: τ) H fun v H1 => D.nx (s0 :: s1 :: s2 :: s3 :: s4 :: s5 :: s6 :: s7 :: s8 :: s9 :: s10 :: s11 :: s12 :: s13 :: s14 :: some v :: τ) H1) : WS X (.Assign [.Name n15 pos'] e pos) D (s0 :: s1 :: s2 :: s3 :: s4 :: s5 :: s6 :: s7 :: s8 :: s9 :: s10 :: s11 :: s12 :: s13 :: s14 :: s15 :: τ) H :=
  ws_set d 15 rfl (locs hl) hs h
theorem wg_n15 {n0 n1 n2 n3 n4 n5 n6 n7 n8 n9 n10 n11 n12 n13 n14 n15 : Str} {s0 s1 s2 s3 s4 s5 s6 s7 s8 s9 s10 s11 s12 s13 s14 s15 : Option V} {τ : L2.St} {R : L2.St → Hp → Prop} (d : Fr X G (n0 :: n1 :: n2 :: n3 :: n4 :: n5 :: n6 :: n7 :: n8 :: n9 :: n10 :: n11 :: n12 :: n13 :: n14 :: n15 :: N) sc k W) (hl : cellB sc n15 = true) (q : R (s0 :: s1 :: s2 :: s3 :: s4 :: s5 :: s6 :: s7 :: s8 :: s9 :: s10 :: s11 :: s12 :: s13 :: s14 :: some v :: τ) H) : WG X (.Name n15 pos) v (s0 :: s1 :: s2 :: s3 :: s4 :: s5 :: s6 :: s7 :: s8 :: s9 :: s10 :: s11 :: s12 :: s13 :: s14 :: s15 :: τ) H R :=
  wg_name d.toDef 15 rfl (locs hl) (.inl (d.fn _)) q
theorem wg_b15 {n0 n1 n2 n3 n4 n5 n6 n7 n8 n9 n10 n11 n12 n13 n14 n15 : Str} {s0 s1 s2 s3 s4 s5 s6 s7 s8 s9 s10 s11 s12 s13 s14 s15 : Option V} {τ : L2.St} {R : L2.St → Hp → Prop} (d : Def X G (n0 :: n1 :: n2 :: n3 :: n4 :: n5 :: n6 :: n7 :: n8 :: n9 :: n10 :: n11 :: n12 :: n13 :: n14 :: n15 :: N) sc k) (hl : locB sc n15 = true) (q : R (s0 :: s1 :: s2 :: s3 :: s4 :: s5 :: s6 :: s7 :: s8 :: s9 :: s10 :: s11 :: s12 :: s13 :: s14 :: some v :: τ) H) : WG X (.Name n15 pos) v (s0 :: s1 :: s2 :: s3 :: s4 :: s5 :: s6 :: s7 :: s8 :: s9 :: s10 :: s11 :: s12 :: s13 :: s14 :: s15 :: τ) H R :=
  wg_name d 15 rfl (.inl (loc_of hl)) (.inr (loc_of hl)) q
theorem we_n16 {n0 n1 n2 n3 n4 n5 n6 n7 n8 n9 n10 n11 n12 n13 n14 n15 n16 : Str} {s0 s1 s2 s3 s4 s5 s6 s7 s8 s9 s10 s11 s12 s13 s14 s15 : Option V} {τ : L2.St} (d : Def X G (n0 :: n1 :: n2 :: n3 :: n4 :: n5 :: n6 :: n7 :: n8 :: n9 :: n10 :: n11 :: n12 :: n13 :: n14 :: n15 :: n16 :: N) sc k) (hv : visB sc n16 = true) (q : Q v H) (hd : (n16 == ("__debug__" : Str)) = false := by decide +kernel) (hc : (n16 == ("__classdict__" : Str)) = false := by decide +kernel) : WE X (.Name n16 pos) (s0 :: s1 :: s2 :: s3 :: s4 :: s5 :: s6 :: s7 :: s8 :: s9 :: s10 :: s11 :: s12 :: s13 :: s14 :: s15 :: some v :: τ) H Q :=
  we_name d 16 rfl hv rfl q hd hc
theorem ws_s16 {n0 n1 n2 n3 n4 n5 n6 n7 n8 n9 n10 n11 n12 n13 n14 n15 n16 : Str} {s0 s1 s2 s3 s4 s5 s6 s7 s8 s9 s10 s11 s12 s13 s14 s15 s16 : Option V} {τ : L2.St} {pos' : Pos} (d : Fr X G (n0 :: n1 :: n2 :: n3 :: n4 :: n5 :: n6 :: n7 :: n8 :: n9 :: n10 :: n11 :: n12 :: n13 :: n14 :: n15 :: n16 :: N) sc k W) (hl : cellB sc n16 = true) (hs : swapsWith e (some (.Name n16 pos')) pos.line X.env = pure false) (h : WE X e (s0 :: s1 :: s2 :: s3 :: s4 :: s5 :: s6 :: s7 :: s8 :: s9 :: s10 :: s11 :: s12 :: s13 :: s14 :: s15 :: s16 :: τ) H fun v H1 => D.nx (s0 :: s1 :: s2 :: s3 :: s4 :: s5 :: s6 :: s7 :: s8 :: s9 :: s10 :: s11 :: s12 :: s13 :: s14 :: s15 :: some v :: τ) H1) : WS X (.Assign [.Name n16 pos'] e pos) D (s0 :: s1 :: s2 :: s3 :: s4 :: s5 :: s6 :: s7 :: s8 :: s9 :: s10 :: s11 :: s12 :: s13 :: s14 :: s15 :: s16 :: τ) H :=
  ws_set d 16 rfl (locs hl) hs h
theorem wg_n16 {n0 n1 n2 n3 n4 n5 n6 n7 n8 n9 n10 n11 n12 n13 n14 n15 n16 : Str} {s0 s1 s2 s3 s4 s5 s6 s7 s8 s9 s10 s11 s12 s13 s14 s15 s16 : Option V} {τ : L2.St} {R : L2.St → Hp → Prop} (d : Fr X G (n0 :: n1 :: n2 :: n3 :: n4 :: n5 :: n6 :: n7 :: n8 :: n9 :: n10 :: n11 :: n12 :: n13 :: n14 :: n15 :: n16 :: N) sc k W) (hl : cellB sc n16 = true) (q : R (s0 :: s1 :: s2 :: s3 :: s4 :: s5 :: s6 :: s7 :: s8 :: s9 :: s10 :: s11 :: s12 :: s13 :: s14 :: s15 :: some v :: τ) H) : WG X (.Name n16 pos) v (s0 :: s1 :: s2 :: s3 :: s4 :: s5 :: s6 :: s7 :: s8 :: s9 :: s10 :: s11 :: s12 :: s13 :: s14 :: s15 :: s16 :: τ) H R :=
  wg_name d.toDef 16 rfl (locs hl) (.inl (d.fn _)) q
theorem wg_b16 {n0 n1 n2 n3 n4 n5 n6 n7 n8 n9 n10 n11 n12 n13 n14 n15 n16 : Str} {s0 s1 s2 s3 s4 s5 s6 s7 s8 s9 s10 s11 s12 s13 s14 s15 s16 : Option V} {τ : L2.St} {R : L2.St → Hp → Prop} (d : Def X G (n0 :: n1 :: n2 :: n3 :: n4 :: n5 :: n6 :: n7 :: n8 :: n9 :: n10 :: n11 :: n12 :: n13 :: n14 :: n15 :: n16 :: N) sc k) (hl : locB sc n16 = true) (q : R (s0 :: s1 :: s2 :: s3 :: s4 :: s5 :: s6 :: s7 :: s8 :: s9 :: s10 :: s11 :: s12 :: s13 :: s14 :: s15 :: some v :: τ) H) : WG X (.Name n16 pos) v (s0 :: s1 :: s2 :: s3 :: s4 :: s5 :: s6 :: s7 :: s8 :: s9 :: s10 :: s11 :: s12 :: s13 :: s14 :: s15 :: s16 :: τ) H R :=
  wg_name d 16 rfl (.inl (loc_of hl)) (.inr (loc_of hl)) q
theorem we_n17 {n0 n1 n2 n3 n4 n5 n6 n7 n8 n9 n10 n11 n12 n13 n14 n15 n16 n17 : Str} {s0 s1 s2 s3 s4 s5 s6 s7 s8 s9 s10 s11 s12 s13 s14 s15 s16 : Option V} {τ : L2.St} (d : Def X G (n0 :: n1 :: n2 :: n3 :: n4 :: n5 :: n6 :: n7 :: n8 :: n9 :: n10 :: n11 :: n12 :: n13 :: n14 :: n15 :: n16 :: n17 :: N) sc k) (hv : visB sc n17 = true) (q : Q v H) (hd : (n17 == ("__debug__" : Str)) = false := by decide +kernel) (hc : (n17 == ("__classdict__" : Str)) = false := by decide +kernel) : WE X (.Name n17 pos) (s0 :: s1 :: s2 :: s3 :: s4 :: s5 :: s6 :: s7 :: s8 :: s9 :: s10 :: s11 :: s12 :: s13 :: s14 :: s15 :: s16 :: some v :: τ) H Q :=
  we_name d 17 rfl hv rfl q hd hc
theorem ws_s17 {n0 n1 n2 n3 n4 n5 n6 n7 n8 n9 n10 n11 n12 n13 n14 n15 n16 n17 : Str} {s0 s1 s2 s3 s4 s5 s6 s7 s8 s9 s10 s11 s12 s13 s14 s15 s16 s17 : Option V} {τ : L2.St} {pos' : Pos} (d : Fr X G (n0 :: n1 :: n2 :: n3 :: n4 :: n5 :: n6 :: n7 :: n8 :: n9 :: n10 :: n11 :: n12 :: n13 :: n14 :: n15 :: n16 :: n17 :: N) sc k W) (hl : cellB sc n17 = true) (hs : swapsWith e (some (.Name n17 pos')) pos.line X.env = pure false) (h : WE X e (s0 :: s1 :: s2 :: s3 :: s4 :: s5 :: s6 :: s7 :: s8 :: s9 :: s10 :: s11 :: s12 :: s13 :: s14 :: s15 :: s16 :: s17 :: τ) H fun v H1 => D.nx (s0 :: s1 :: s2 :: s3 :: s4 :: s5 :: s6 :: s7 :: s8 :: s9 :: s10 :: s11 :: s12 :: s13 :: s14 :: s15 :: s16 :: some v :: τ) H1) : WS X (.Assign [.Name n17 pos'] e pos) D (s0 :: s1 :: s2 :: s3 :: s4 :: s5 :: s6 :: s7 :: s8 :: s9 :: s10 :: s11 :: s12 :: s13 :: s14 :: s15 :: s16 :: s17 :: τ) H :=
  ws_set d 17 rfl (locs hl) hs h
theorem wg_n17 {n0 n1 n2 n3 n4 n5 n6 n7 n8 n9 n10 n11 n12 n13 n14 n15 n16 n17 : Str} {s0 s1 s2 s3 s4 s5 s6 s7 s8 s9 s10 s11 s12 s13 s14 s15 s16 s17 : Option V} {τ : L2.St} {R : L2.St → Hp → Prop} (d : Fr X G (n0 :: n1 :: n2 :: n3 :: n4 :: n5 :: n6 :: n7 :: n8 :: n9 :: n10 :: n11 :: n12 :: n13 :: n14 :: n15 :: n16 :: n17 :: N) sc k W) (hl : cellB sc n17 = true) (q : R (s0 :: s1 :: s2 :: s3 :: s4 :: s5 :: s6 :: s7 :: s8 :: s9 :: s10 :: s11 :: s12 :: s13 :: s14 :: s15 :: s16 :: some v :: τ) H) : WG X (.Name n17 pos) v (s0 :: s1 :: s2 :: s3 :: s4 :: s5 :: s6 :: s7 :: s8 :: s9 :: s10 :: s11 :: s12 :: s13 :: s14 :: s15 :: s16 :: s17 :: τ) H R :=
  wg_name d.toDef 17 rfl (locs hl) (.inl (d.fn _)) q
theorem wg_b17 {n0 n1 n2 n3 n4 n5 n6 n7 n8 n9 n10 n11 n12 n13 n14 n15 n16 n17 : Str} {s0 s1 s2 s3 s4 s5 s6 s7 s8 s9 s10 s11 s12 s13 s14 s15 s16 s17 : Option V} {τ : L2.St} {R : L2.St → Hp → Prop} (d : Def X G (n0 :: n1 :: n2 :: n3 :: n4 :: n5 :: n6 :: n7 :: n8 :: n9 :: n10 :: n11 :: n12 :: n13 :: n14 :: n15 :: n16 :: n17 :: N) sc k) (hl : locB sc n17 = true) (q : R (s0 :: s1 :: s2 :: s3 :: s4 :: s5 :: s6 :: s7 :: s8 :: s9 :: s10 :: s11 :: s12 :: s13 :: s14 :: s15 :: s16 :: some v :: τ) H) : WG X (.Name n17 pos) v (s0 :: s1 :: s2 :: s3 :: s4 :: s5 :: s6 :: s7 :: s8 :: s9 :: s10 :: s11 :: s12 :: s13 :: s14 :: s15 :: s16 :: s17 :: τ) H R :=
  wg_name d 17 rfl (.inl (loc_of hl)) (.inr (loc_of hl)) q
end
/-! ### operators by values -/
theorem ro_add (q : Q (.int (i + j)) H) : RO X (binaryOp .Add) (.int i) (.int j) H Q := ⟨_, op_add, i, j, rfl, rfl, q⟩
theorem ro_sub (q : Q (.int (i - j)) H) : RO X (binaryOp .Sub) (.int i) (.int j) H Q := ⟨_, op_sub, i, j, rfl, rfl, q⟩
theorem ro_mul (h : (-(2 ^ 64) < i ∧ i < 2 ^ 64) ∨ (-(2 ^ 64) < j ∧ j < 2 ^ 64)) (q : Q (.int (i * j)) H) : RO X (binaryOp .Mult) (.int i) (.int j) H Q := ⟨_, op_mul, i, j, rfl, rfl, h, q⟩
theorem ro_fdiv (h : 0 < j ∧ j < 1073741824) (q : Q (.int (i / j)) H) : RO X (binaryOp .FloorDiv) (.int i) (.int j) H Q := ⟨_, op_fdiv, i, j, rfl, rfl, h, q⟩
theorem ro_mod (h : 0 < j) (q : Q (.int (i % j)) H) : RO X (binaryOp .Mod) (.int i) (.int j) H Q := ⟨_, op_mod, i, j, rfl, rfl, h, q⟩
theorem ro_pow (h : 0 ≤ j ∧ j ≤ 1000000 ∧ i.natAbs < 2 ^ 64) (q : Q (.int (i ^ j.toNat)) H) : RO X (binaryOp .Pow) (.int i) (.int j) H Q := ⟨_, op_pow, i, j, rfl, rfl, h, q⟩
theorem ro_adds {z w : Str} (h : z.length + w.length ≤ sizeLine) (q : Q (.str (z ++ w)) H) : RO X (binaryOp .Add) (.str z) (.str w) H Q := ⟨_, op_add_str, z, w, rfl, rfl, h, q⟩
theorem ro_cat {p r : Addr} {xs ys : List V} (h1 : H p = some (.lst xs)) (h2 : H r = some (.lst ys)) (hl : xs.length + ys.length ≤ sizeLine) (q : ∀ l, H l = none → Q (.ref l) (upd H l (.lst (xs ++ ys)))) : RO X (binaryOp .Add) (.ref p) (.ref r) H Q :=
  ⟨_, op_cat, p, r, xs, ys, rfl, rfl, h1, h2, hl, q⟩
theorem ro_eq (h : scal x y = true) (q : Q (.bl (decide (x = y))) H) : RO X (compareOp .Eq) x y H Q := ⟨_, op_eq, h, q⟩
theorem ro_ne (h : scal x y = true) (q : Q (.bl (!decide (x = y))) H) : RO X (compareOp .NotEq) x y H Q := ⟨_, op_ne, h, q⟩
theorem dec_ii : decide (V.int i = V.int j) = decide (i = j) := by
  rw [Bool.eq_iff_iff]
  simp
theorem dec_ss {z w : Str} : decide (V.str z = V.str w) = decide (z = w) := by
  rw [Bool.eq_iff_iff]
  simp
theorem dec_bb {z w : Bool} : decide (V.bl z = V.bl w) = decide (z = w) := by
  rw [Bool.eq_iff_iff]
  simp
theorem ro_eqI (q : Q (.bl (decide (i = j))) H) : RO X (compareOp .Eq) (.int i) (.int j) H Q := ro_eq rfl (by rw [dec_ii]; exact q)
theorem ro_neI (q : Q (.bl (!decide (i = j))) H) : RO X (compareOp .NotEq) (.int i) (.int j) H Q := ro_ne rfl (by rw [dec_ii]; exact q)
theorem ro_eqS {z w : Str} (q : Q (.bl (decide (z = w))) H) : RO X (compareOp .Eq) (.str z) (.str w) H Q := ro_eq rfl (by rw [dec_ss]; exact q)
theorem ro_neS {z w : Str} (q : Q (.bl (!decide (z = w))) H) : RO X (compareOp .NotEq) (.str z) (.str w) H Q := ro_ne rfl (by rw [dec_ss]; exact q)
theorem ro_eqB {z w : Bool} (q : Q (.bl (decide (z = w))) H) : RO X (compareOp .Eq) (.bl z) (.bl w) H Q := ro_eq rfl (by rw [dec_bb]; exact q)
theorem ro_neB {z w : Bool} (q : Q (.bl (!decide (z = w))) H) : RO X (compareOp .NotEq) (.bl z) (.bl w) H Q := ro_ne rfl (by rw [dec_bb]; exact q)
theorem ro_lt (q : Q (.bl (decide (i < j))) H) : RO X (compareOp .Lt) (.int i) (.int j) H Q := ⟨_, op_lt, i, j, rfl, rfl, q⟩
theorem ro_le (q : Q (.bl (decide (i ≤ j))) H) : RO X (compareOp .LtE) (.int i) (.int j) H Q := ⟨_, op_le, i, j, rfl, rfl, q⟩
theorem ro_gt (q : Q (.bl (decide (j < i))) H) : RO X (compareOp .Gt) (.int i) (.int j) H Q := ⟨_, op_gt, i, j, rfl, rfl, q⟩
theorem ro_ge (q : Q (.bl (decide (j ≤ i))) H) : RO X (compareOp .GtE) (.int i) (.int j) H Q := ⟨_, op_ge, i, j, rfl, rfl, q⟩
theorem ro_isN (q : Q (.bl (decide (x = .non))) H) : RO X (compareOp .Is) x .non H Q := ⟨_, op_isN, rfl, q⟩
theorem ro_notN (q : Q (.bl (!decide (x = .non))) H) : RO X (compareOp .IsNot) x .non H Q := ⟨_, op_notN, rfl, q⟩
theorem ro_eqD (d : Def X G N sc k) {da db : PyData} (h1 : Dp G.K H x da) (h2 : Dp G.K H y db) (s1 : SeqAt.shaped da = true) (s2 : SeqAt.shaped db = true) (q : Q (.bl (PyData.eqv da db)) H) : RO X (compareOp .Eq) x y H Q :=
  ⟨_, op_eqD d.room.units, da, db, by rw [d.K]; exact h1, by rw [d.K]; exact h2, s1, s2, q⟩
theorem ro_neD (d : Def X G N sc k) {da db : PyData} (h1 : Dp G.K H x da) (h2 : Dp G.K H y db) (s1 : SeqAt.shaped da = true) (s2 : SeqAt.shaped db = true) (q : Q (.bl (!PyData.eqv da db)) H) : RO X (compareOp .NotEq) x y H Q :=
  ⟨_, op_neD d.room.units, da, db, by rw [d.K]; exact h1, by rw [d.K]; exact h2, s1, s2, q⟩
theorem ru_neg (q : Q (.int (-i)) H) : RU X (unaryOp .USub) (.int i) H Q := ⟨_, un_neg, i, rfl, q⟩

/-! ### built-ins by values -/
theorem rc_int (q : Q (.int i) H) : RC X (.type "int") [.int i] H Q := ⟨_, call_int1, .inl ⟨i, rfl, q⟩⟩
theorem rc_intB {z : Bool} (q : Q (.int (if z then 1 else 0)) H) : RC X (.type "int") [.bl z] H Q := ⟨_, call_int1, .inr ⟨z, rfl, q⟩⟩
theorem rc_abs (q : Q (.int (if i < 0 then -i else i)) H) : RC X (.builtin "abs") [.int i] H Q := ⟨_, call_abs, i, rfl, q⟩
theorem rc_lenL (d : Def X G N sc k) {p : Addr} {xs : List V} (h : SqL G.K H p xs) (q : Q (.int xs.length) H) : RC X (.builtin "len") [.ref p] H Q := ⟨_, call_len_seq, p, xs, rfl, .inl (by rw [d.K]; exact h), q⟩
theorem rc_lenT (d : Def X G N sc k) {p : Addr} {xs : List V} (h : SqT G.K H p xs) (q : Q (.int xs.length) H) : RC X (.builtin "len") [.ref p] H Q := ⟨_, call_len_seq, p, xs, rfl, .inr (by rw [d.K]; exact h), q⟩
theorem rc_lenS {z : Str} (h : z.length ≤ sizeLine) (q : Q (.int z.length) H) : RC X (.builtin "len") [.str z] H Q := ⟨_, call_len_str, z, rfl, h, q⟩
theorem rc_min2 (d : Def X G N sc k) (q : Q (.int (if j < i then j else i)) H) : RC X (.builtin "min") [.int i, .int j] H Q := ⟨_, call_min2 d.calm, i, j, rfl, q⟩
theorem rc_max2 (d : Def X G N sc k) (q : Q (.int (if j > i then j else i)) H) : RC X (.builtin "max") [.int i, .int j] H Q := ⟨_, call_max2 d.calm, i, j, rfl, q⟩
theorem rc_isi {cl : V} {t u : Value} {r : Bool} (d : Def X G N sc k) (h1 : ClsV cl u) (h2 : TyX G.K H x t) (h3 : PySem.W.kitOne G.K t u = some r) (q : Q (.bl r) H) : RC X (.builtin "isinstance") [x, cl] H Q :=
  ⟨_, call_isi, x, cl, t, u, r, rfl, h1, by rw [d.K]; exact h2, by rw [d.K]; exact h3, q⟩
theorem rc_isiT {tp : Addr} {cs : List V} {t : Value} {us : List Value} {r : Bool} (d : Def X G N sc k) (h0 : H tp = some (.tup cs)) (h1 : Paired ClsV cs us) (h2 : TyX G.K H x t) (h3 : PySem.W.kitAny G.K t us = some r) (q : Q (.bl r) H) : RC X (.builtin "isinstance") [x, .ref tp] H Q :=
  ⟨_, call_isiT, x, tp, cs, t, us, r, rfl, h0, h1, by rw [d.K]; exact h2, by rw [d.K]; exact h3, q⟩

/-! ### methods by values -/
theorem rm_append {l : Addr} {xs : List V} (h : H l = some (.lst xs)) (hl : xs.length < sizeLine) (q : Q .non (upd H l (.lst (xs ++ [y])))) : RM X "list.append" (.ref l) [y] H Q := ⟨_, mt_append, l, xs, y, rfl, rfl, h, hl, q⟩
theorem rm_pop0 {l : Addr} {y : V} {xs : List V} (h : H l = some (.lst (y :: xs))) (q : Q y (upd H l (.lst xs))) : RM X "list.pop" (.ref l) [.int 0] H Q :=
  ⟨_, mt_popAt, l, y :: xs, 0, 0, y, rfl, rfl, h, by decide, by decide, by unfold seqIndex?; simp, rfl, q⟩
theorem rm_insert {l : Addr} {xs : List V} (h : H l = some (.lst xs)) (hl : xs.length < sizeLine) (h0 : 0 ≤ i) (h1 : i < 2 ^ 63) (q : Q .non (upd H l (.lst (xs.take i.toNat ++ [y] ++ xs.drop i.toNat)))) : RM X "list.insert" (.ref l) [.int i, y] H Q :=
  ⟨_, mt_insert, l, xs, i, y, rfl, rfl, h, hl, h0, h1, q⟩
theorem ty_list {K : PySem.W.Frag} {l : Addr} {xs : List V} (h : H l = some (.lst xs)) : tyV K "list" (.ref l) H := .inl ⟨rfl, xs, SqL.of h⟩
theorem ite_t {A B : Prop} (h : A) : if true = true then A else B := by rw [if_pos rfl]; exact h
theorem ite_f {A B : Prop} (h : B) : if false = true then A else B := by rw [if_neg Bool.false_ne_true]; exact h
theorem ite_b {A B : Prop} {z : Bool} (h1 : z = true → A) (h2 : z = false → B) : if z = true then A else B := by
  cases z with
  | true => exact ite_t (h1 rfl)
  | false => exact ite_f (h2 rfl)
end
end Wx

namespace Wx
open PySem L2
/-- the library's rule for a def, said in these words: the body's wish at the parameters' values -/
theorem fn_by {G : Gb} {x qual : Str} {st : Stmt} {f : Addr} {fd : FuncData} {N ps : List Str} {k : Nat} {sp : Sp} (F : Fun G.K x qual st f fd) (S : FnScope N ps (defScope st)) (len : ∀ vs H Q E, sp vs H Q E → vs.length = ps.length)
    (body : ∀ (X : Cx) (vs : List V) (H : Hp) (Q : VK) (E : XK), Fr X G N (defScope st) k (fun c o _ H' => E c o H') → sp vs H Q E → WB X (defBody st) { nx := fun _ H' => Q .non H', rt := Q } (start N vs) H) :
    FnOk G.prog G.w G.K G.mg G.base (L2.CX G.prog G.w) (k + 1) f fd ps sp := by
  refine F.okX S len fun cdv A outer s H vs Q E hr h => ⟨_, pss_wb, body _ vs H Q E ?_ h⟩
  exact { prog := rfl, w := rfl, K := rfl, mg := rfl, base := rfl, n := rfl, sc := rfl, nd := S.nd, calm := rfl, room := hr, fn := fun _ => rfl, own := passes_of rfl, tk := takes_of rfl rfl rfl rfl, stk := rfl, frm := rfl, ex := rfl }
/-- a def of the text that stands at its name, with its parameters -/
structure Top (G : Gb) (x : Str) (st : Stmt) (ps : List Str) : Prop where
  is : ∃ (f : Addr) (fd : FuncData), G.mg x = some (.ref f) ∧ Fun G.K x x st f fd ∧ Binds G.K fd ps []
  pn : ps = (defArgs st).args.map (·.arg)
theorem Top.names {G : Gb} {x : Str} {st : Stmt} {ps : List Str} {f : Addr} {fd : FuncData} (T : Top G x st ps) (F : Fun G.K x x st f fd) : ps = fd.params.args.map (·.arg) := by
  obtain ⟨_, _, _, _, _, _, _, _, _, e, _, _⟩ := F.ex
  rw [e]
  exact T.pn
theorem Top.fn {G : Gb} {x : Str} {st : Stmt} {N ps : List Str} {k : Nat} {sp : Sp} (T : Top G x st ps) (S : FnScope N ps (defScope st)) (len : ∀ vs H Q E, sp vs H Q E → vs.length = ps.length)
    (body : ∀ (X : Cx) (vs : List V) (H : Hp) (Q : VK) (E : XK), Fr X G N (defScope st) k (fun c o _ H' => E c o H') → sp vs H Q E → WB X (defBody st) { nx := fun _ H' => Q .non H', rt := Q } (start N vs) H) :
    Fn G x ps.length (k + 1) sp := by
  obtain ⟨f, fd, h, F, b⟩ := T.is
  exact ⟨f, fd, ps, h, F.kp, fn_by F S len body, b, rfl, T.names F, _, F⟩
theorem fun_one {K : PySem.W.Frag} {x y : Str} {st st' : Stmt} {f : Addr} {fd fd' : FuncData} (F : Fun K x x st f fd) (F' : Fun K y y st' f fd') : fd = fd' := by
  obtain ⟨_, _, _, _, _, _, _, _, _, _, l, _⟩ := F.ex
  obtain ⟨_, _, _, _, _, _, _, _, _, _, l', _⟩ := F'.ex
  have e := l.symm.trans l'
  injection e with e
  injection e with _ _ e _
  injection e
/-- the def at its name, called with keywords -/
theorem Top.fnk {G : Gb} {x : Str} {st : Stmt} {ps ks : List Str} {n k : Nat} {sp : Sp} {gV : List V → List V → List V} (T : Top G x st ps) (F : Fn G x n k sp) (g : List Value → List Value → List Value)
    (hb : ∀ (kV doc pm : Value) (an : Option Addr) (cdv ct : Value) (us ws : List Value), (g us ws).length = ps.length → bindArgs (PySem.W.fnOf x x (defArgs st) (defBody st) (defScope st) .none kV doc pm an cdv ct) { pos := us, kw := ks.zip ws } = pure (ps.zip (g us ws)))
    (rel : ∀ {vs : List V} {us : List Value} {zs : List V} {ws : List Value}, Vals vs us → Vals zs ws → Vals (gV vs zs) (g us ws)) : FnK G x ks gV k sp := by
  obtain ⟨f, fd, h, F1, _⟩ := T.is
  obtain ⟨f', fd', ps', h', kp, ok, _, _, e2, st', F2⟩ := F.is
  have e := h.symm.trans h'
  injection e with e
  injection e with e
  subst e
  have e3 := fun_one F1 F2
  subst e3
  have e4 : ps' = ps := e2.trans (T.names F1).symm
  subst e4
  refine ⟨f, fd, ps', g, h, kp, ok, ⟨fun s us ws _ hl => ?_, rel⟩⟩
  obtain ⟨_, _, kV, doc, pm, an, cdv, ct, _, e, _, _⟩ := F1.ex
  rw [e]
  exact BindsTo.of_eq (hb kV doc pm an cdv ct us ws hl)
end Wx

namespace Wx
open PySem L2
/-- the built-in names that no def of the text shadows -/
structure Bi (mg : Str → Option Value) : Prop where
  b_int : mg "int" = none
  b_bool : mg "bool" = none
  b_str : mg "str" = none
  b_list : mg "list" = none
  b_tuple : mg "tuple" = none
  b_set : mg "set" = none
  b_dict : mg "dict" = none
  b_type : mg "type" = none
  b_len : mg "len" = none
  b_isinstance : mg "isinstance" = none
  b_abs : mg "abs" = none
  b_min : mg "min" = none
  b_max : mg "max" = none
  b_any : mg "any" = none
  b_all : mg "all" = none
  b_sum : mg "sum" = none
  b_sorted : mg "sorted" = none
  b_repr : mg "repr" = none
  b_range : mg "range" = none
  b_enumerate : mg "enumerate" = none
  b_zip : mg "zip" = none
  b_reversed : mg "reversed" = none
  b_ValueError : mg "ValueError" = none
section
variable {X : Cx} {e : Expr} {es : List Expr} {σ : L2.St} {H : Hp} {Q : VK} {pos p : Pos} {G : Gb} {N : List Str} {sc : Scope} {k : Nat}
theorem we_c_int (d : Def X G N sc k) (b : Bi G.mg) (hg : glB sc "int" = true) (he : ns e = true) (hpl : nss es = true) (h : WA X (e :: es) σ H fun vs H1 => RC X (.type "int") vs H1 Q) : WE X (.Call (.Name "int" p) (e :: es) [] pos) σ H Q := we_callTy d hg b.b_int (by decide +kernel) he hpl h
theorem we_c_bool (d : Def X G N sc k) (b : Bi G.mg) (hg : glB sc "bool" = true) (he : ns e = true) (hpl : nss es = true) (h : WA X (e :: es) σ H fun vs H1 => RC X (.type "bool") vs H1 Q) : WE X (.Call (.Name "bool" p) (e :: es) [] pos) σ H Q := we_callTy d hg b.b_bool (by decide +kernel) he hpl h
theorem we_c_str (d : Def X G N sc k) (b : Bi G.mg) (hg : glB sc "str" = true) (he : ns e = true) (hpl : nss es = true) (h : WA X (e :: es) σ H fun vs H1 => RC X (.type "str") vs H1 Q) : WE X (.Call (.Name "str" p) (e :: es) [] pos) σ H Q := we_callTy d hg b.b_str (by decide +kernel) he hpl h
theorem we_c_list (d : Def X G N sc k) (b : Bi G.mg) (hg : glB sc "list" = true) (he : ns e = true) (hpl : nss es = true) (h : WA X (e :: es) σ H fun vs H1 => RC X (.type "list") vs H1 Q) : WE X (.Call (.Name "list" p) (e :: es) [] pos) σ H Q := we_callTy d hg b.b_list (by decide +kernel) he hpl h
theorem we_c_tuple (d : Def X G N sc k) (b : Bi G.mg) (hg : glB sc "tuple" = true) (he : ns e = true) (hpl : nss es = true) (h : WA X (e :: es) σ H fun vs H1 => RC X (.type "tuple") vs H1 Q) : WE X (.Call (.Name "tuple" p) (e :: es) [] pos) σ H Q := we_callTy d hg b.b_tuple (by decide +kernel) he hpl h
theorem we_c_set (d : Def X G N sc k) (b : Bi G.mg) (hg : glB sc "set" = true) (he : ns e = true) (hpl : nss es = true) (h : WA X (e :: es) σ H fun vs H1 => RC X (.type "set") vs H1 Q) : WE X (.Call (.Name "set" p) (e :: es) [] pos) σ H Q := we_callTy d hg b.b_set (by decide +kernel) he hpl h
theorem we_c_dict (d : Def X G N sc k) (b : Bi G.mg) (hg : glB sc "dict" = true) (he : ns e = true) (hpl : nss es = true) (h : WA X (e :: es) σ H fun vs H1 => RC X (.type "dict") vs H1 Q) : WE X (.Call (.Name "dict" p) (e :: es) [] pos) σ H Q := we_callTy d hg b.b_dict (by decide +kernel) he hpl h
theorem we_c_type (d : Def X G N sc k) (b : Bi G.mg) (hg : glB sc "type" = true) (he : ns e = true) (hpl : nss es = true) (h : WA X (e :: es) σ H fun vs H1 => RC X (.type "type") vs H1 Q) : WE X (.Call (.Name "type" p) (e :: es) [] pos) σ H Q := we_callTy d hg b.b_type (by decide +kernel) he hpl h
theorem we_c_len (d : Def X G N sc k) (b : Bi G.mg) (hg : glB sc "len" = true) (he : ns e = true) (hpl : nss es = true) (h : WA X (e :: es) σ H fun vs H1 => RC X (.builtin "len") vs H1 Q) : WE X (.Call (.Name "len" p) (e :: es) [] pos) σ H Q := we_callB d hg b.b_len (by decide +kernel) he hpl h
theorem we_c_isinstance (d : Def X G N sc k) (b : Bi G.mg) (hg : glB sc "isinstance" = true) (he : ns e = true) (hpl : nss es = true) (h : WA X (e :: es) σ H fun vs H1 => RC X (.builtin "isinstance") vs H1 Q) : WE X (.Call (.Name "isinstance" p) (e :: es) [] pos) σ H Q := we_callB d hg b.b_isinstance (by decide +kernel) he hpl h
theorem we_c_abs (d : Def X G N sc k) (b : Bi G.mg) (hg : glB sc "abs" = true) (he : ns e = true) (hpl : nss es = true) (h : WA X (e :: es) σ H fun vs H1 => RC X (.builtin "abs") vs H1 Q) : WE X (.Call (.Name "abs" p) (e :: es) [] pos) σ H Q := we_callB d hg b.b_abs (by decide +kernel) he hpl h
theorem we_c_min (d : Def X G N sc k) (b : Bi G.mg) (hg : glB sc "min" = true) (he : ns e = true) (hpl : nss es = true) (h : WA X (e :: es) σ H fun vs H1 => RC X (.builtin "min") vs H1 Q) : WE X (.Call (.Name "min" p) (e :: es) [] pos) σ H Q := we_callB d hg b.b_min (by decide +kernel) he hpl h
theorem we_c_max (d : Def X G N sc k) (b : Bi G.mg) (hg : glB sc "max" = true) (he : ns e = true) (hpl : nss es = true) (h : WA X (e :: es) σ H fun vs H1 => RC X (.builtin "max") vs H1 Q) : WE X (.Call (.Name "max" p) (e :: es) [] pos) σ H Q := we_callB d hg b.b_max (by decide +kernel) he hpl h
theorem we_c_any (d : Def X G N sc k) (b : Bi G.mg) (hg : glB sc "any" = true) (he : ns e = true) (hpl : nss es = true) (h : WA X (e :: es) σ H fun vs H1 => RC X (.builtin "any") vs H1 Q) : WE X (.Call (.Name "any" p) (e :: es) [] pos) σ H Q := we_callB d hg b.b_any (by decide +kernel) he hpl h
theorem we_c_all (d : Def X G N sc k) (b : Bi G.mg) (hg : glB sc "all" = true) (he : ns e = true) (hpl : nss es = true) (h : WA X (e :: es) σ H fun vs H1 => RC X (.builtin "all") vs H1 Q) : WE X (.Call (.Name "all" p) (e :: es) [] pos) σ H Q := we_callB d hg b.b_all (by decide +kernel) he hpl h
theorem we_c_sum (d : Def X G N sc k) (b : Bi G.mg) (hg : glB sc "sum" = true) (he : ns e = true) (hpl : nss es = true) (h : WA X (e :: es) σ H fun vs H1 => RC X (.builtin "sum") vs H1 Q) : WE X (.Call (.Name "sum" p) (e :: es) [] pos) σ H Q := we_callB d hg b.b_sum (by decide +kernel) he hpl h
theorem we_c_sorted (d : Def X G N sc k) (b : Bi G.mg) (hg : glB sc "sorted" = true) (he : ns e = true) (hpl : nss es = true) (h : WA X (e :: es) σ H fun vs H1 => RC X (.builtin "sorted") vs H1 Q) : WE X (.Call (.Name "sorted" p) (e :: es) [] pos) σ H Q := we_callB d hg b.b_sorted (by decide +kernel) he hpl h
theorem we_c_repr (d : Def X G N sc k) (b : Bi G.mg) (hg : glB sc "repr" = true) (he : ns e = true) (hpl : nss es = true) (h : WA X (e :: es) σ H fun vs H1 => RC X (.builtin "repr") vs H1 Q) : WE X (.Call (.Name "repr" p) (e :: es) [] pos) σ H Q := we_callB d hg b.b_repr (by decide +kernel) he hpl h
end
end Wx

namespace Wx
open PySem L2
/-! ### the laws' draw: a dict of two lists and two numbers -/
def D4 (aw ac : Addr) (r t : Int) : List (Key × V) := [(.inr "wide", .ref aw), (.inr "cells", .ref ac), (.inr "rest", .int r), (.inr "turn", .int t)]
theorem d4_wide {aw ac : Addr} {r t : Int} : valV (D4 aw ac r t) (.inr "wide") = some (.ref aw) := rfl
theorem d4_cells {aw ac : Addr} {r t : Int} : valV (D4 aw ac r t) (.inr "cells") = some (.ref ac) := rfl
theorem d4_rest {aw ac : Addr} {r t : Int} : valV (D4 aw ac r t) (.inr "rest") = some (.int r) := rfl
theorem d4_turn {aw ac : Addr} {r t : Int} : valV (D4 aw ac r t) (.inr "turn") = some (.int t) := rfl
theorem d4_put_rest {aw ac : Addr} {r t z : Int} : putK (D4 aw ac r t) (.inr "rest") (.int z) = D4 aw ac z t := rfl
theorem d4_put_turn {aw ac : Addr} {r t z : Int} : putK (D4 aw ac r t) (.inr "turn") (.int z) = D4 aw ac r z := rfl
theorem d4_make {aw ac : Addr} {r t : Int} : mergeK [] [(Sum.inr ("wide" : Str), V.ref aw), (Sum.inr ("cells" : Str), V.ref ac), (Sum.inr ("rest" : Str), V.int r), (Sum.inr ("turn" : Str), V.int t)] = D4 aw ac r t := rfl
/-- the draw at d, its lists apart from all that H0 knows; t turns of at most B -/
structure DrawIs (H : Hp) (d aw ac : Addr) (ws cs : List Int) (r t : Int) (B : Nat) : Prop where
  hd : H d = some (.dK (D4 aw ac r t))
  hw : H aw = some (.lst (ws.map V.int))
  hc : H ac = some (.lst (cs.map V.int))
  t0 : 0 ≤ t
  tB : t ≤ B
  cB : ∀ c ∈ cs, 0 ≤ c ∧ c < 2147483648
  wl : ws.length ≤ 63
  ne : aw ≠ ac
structure DrawAt (H0 H : Hp) (d : Addr) (B : Nat) : Prop where
  same : Same H0 H
  nd : H0 d = none
  is : ∃ (aw ac : Addr) (ws cs : List Int) (r t : Int), H0 aw = none ∧ H0 ac = none ∧ DrawIs H d aw ac ws cs r t B
theorem DrawAt.mono {H0 H : Hp} {d : Addr} {B C : Nat} (h : DrawAt H0 H d B) (l : B ≤ C) : DrawAt H0 H d C := by
  obtain ⟨s, n, aw, ac, ws, cs, r, t, n1, n2, I⟩ := h
  exact ⟨s, n, aw, ac, ws, cs, r, t, n1, n2, { I with tB := by have := I.tB; omega }⟩
/-- an object is laid beside the draw -/
theorem DrawAt.laid {H0 H : Hp} {d : Addr} {B : Nat} (h : DrawAt H0 H d B) {p : Addr} {o : HO} (hp : H p = none) : DrawAt (upd H0 p o) (upd H p o) d B := by
  obtain ⟨s, n, aw, ac, ws, cs, r, t, n1, n2, I⟩ := h
  have e1 : d ≠ p := ne_of_none I.hd hp
  have e2 : aw ≠ p := ne_of_none I.hw hp
  have e3 : ac ≠ p := ne_of_none I.hc hp
  refine ⟨fun b u q => ?_, by rw [upd_ne e1]; exact n, aw, ac, ws, cs, r, t, by rw [upd_ne e2]; exact n1, by rw [upd_ne e3]; exact n2, ⟨by rw [upd_ne e1]; exact I.hd, by rw [upd_ne e2]; exact I.hw, by rw [upd_ne e3]; exact I.hc, I.t0, I.tB, I.cB, I.wl, I.ne⟩⟩
  by_cases e : b = p
  · subst e
    rw [upd_same] at q ⊢
    exact q
  · rw [upd_ne e] at q ⊢
    exact s b u q
/-- .. or forgotten -/
theorem DrawAt.less {H0 H1 H : Hp} {d : Addr} {B : Nat} (h : DrawAt H1 H d B) (s : Same H0 H1) : DrawAt H0 H d B := by
  obtain ⟨s1, n, aw, ac, ws, cs, r, t, n1, n2, I⟩ := h
  exact ⟨s.trans s1, s.free n, aw, ac, ws, cs, r, t, s.free n1, s.free n2, I⟩
/-- all that stands stays: the draw too -/
theorem DrawAt.keep {H0 H H' : Hp} {d : Addr} {B : Nat} (h : DrawAt H0 H d B) (s : Same H H') : DrawAt H0 H' d B := by
  obtain ⟨s1, n, aw, ac, ws, cs, r, t, n1, n2, I⟩ := h
  exact ⟨s1.trans s, n, aw, ac, ws, cs, r, t, n1, n2, ⟨s _ _ I.hd, s _ _ I.hw, s _ _ I.hc, I.t0, I.tB, I.cB, I.wl, I.ne⟩⟩
/-- take(draw, many): some number from 0 to below many, one turn more at most -/
def spTake : Sp := fun vs H Q _ => ∃ (H0 : Hp) (d : Addr) (B : Nat) (many : Int), vs = [.ref d, .int many] ∧ DrawAt H0 H d B ∧ B < 1000000000000 ∧ 0 < many ∧ many < 1073741824 ∧
  ∀ (n : Int) (H' : Hp), 0 ≤ n → n < many → DrawAt H0 H' d (B + 1) → Q (.int n) H'
/-- mixed(draw): some number -/
def spMixed : Sp := fun vs H Q _ => ∃ (d aw ac : Addr) (ws cs : List Int) (r t : Int) (B : Nat), vs = [.ref d] ∧ DrawIs H d aw ac ws cs r t B ∧ B < 2000000000000 ∧
  ∀ (n : Int) (H' : Hp), Same (upd H d (.dK (D4 aw ac r (t + 1)))) H' → Q (.int n) H'
end Wx
namespace Wx
open PySem L2
section
variable {X : Cx} {G : Gb} {N : List Str} {sc : Scope} {k : Nat} {W : WX} {σ : L2.St} {H : Hp} {D : Ends} {a b : Expr} {x y : Str} {pos : Pos}
theorem env_sc {P : Env → Prop} {sc : Scope} (h : ∀ env : Env, P { env with scope := sc }) {env : Env} (e : env.scope = sc) : P env := by
  have q := h env
  rw [← e] at q
  exact q
theorem ws_par2 (d : Fr X G N sc k W) (i j : Nat) {px py pt : Pos} {kt k2 pt2} (h1 : N[i]? = some x) (h2 : N[j]? = some y) (hij : i ≠ j) (hx : locB sc x = true) (hy : locB sc y = true)
    (hw : ∀ env : Env, swappedStores [.Tuple [.Name x px, .Name y py] kt pt] (.Tuple [a, b] k2 pt2) { env with scope := sc } = pure (some [x, y]))
    (hs : swapsWithSole [.Tuple [.Name x px, .Name y py] kt pt] (.Tuple [a, b] k2 pt2) pos.line X.env = pure false)
    (h : WE X a σ H fun v H1 => WE X b σ H1 fun w H2 => D.nx ((σ.set i (some v)).set j (some w)) H2) (sa : ns a = true) (sb : ns b = true) : WS X (.Assign [.Tuple [.Name x px, .Name y py] kt pt] (.Tuple [a, b] k2 pt2) pos) D σ H := by
  refine ws_of (ps_par (i := i) (j := j) (ta := WA X [a, b]) d.calm (by rw [d.n]; exact d.nd) (by rw [d.n]; exact h1) (by rw [d.n]; exact h2) hij (by rw [d.sc]; exact loc_of hx) (by rw [d.sc]; exact loc_of hy) pa_wa
    (env_sc (P := fun env => swappedStores [.Tuple [.Name x px, .Name y py] kt pt] (.Tuple [a, b] k2 pt2) env = pure (some [x, y])) hw d.sc) hs) ?_
  show WA X [a, b] σ H _
  refine wa_cons sa (we_mono (fun v H1 q => wa_cons sb (we_mono (fun w H2 q => wa_nil ⟨v, w, rfl, q⟩) q)) h)

theorem dgk {kvs : List (Key × V)} {p : Addr} {z : Str} {v : V} (e : H p = some (.dK kvs)) (hv : valV kvs (Sum.inr z) = some v) : DGet H p (.str z) (some v) := by rw [← hv]; exact DGet.k (k := Sum.inr z) e
theorem dpk {kvs kvs' : List (Key × V)} {p : Addr} {z : Str} {v : V} (e : H p = some (.dK kvs)) (hl : kvs.length < sizeLine) (hp : putK kvs (Sum.inr z) v = kvs') : DPut H p (.str z) v (upd H p (.dK kvs')) := by rw [← hp]; exact DPut.k (k := Sum.inr z) e hl
theorem d4_len {aw ac : Addr} {r t : Int} : (D4 aw ac r t).length < sizeLine := by show 4 < sizeLine; decide
theorem len_le {n : Nat} (h : n ≤ 100000) : n ≤ sizeLine := Nat.le_trans h (by decide)
theorem len_lt {n : Nat} (h : n < 100000) : n < sizeLine := Nat.lt_of_lt_of_le h (by decide)
theorem same_new {H : Hp} {p : Addr} {o : HO} (h : H p = none) : Same H (upd H p o) := fun b u e => by
  rw [upd_ne (ne_of_none e h)]
  exact e
/-- the draw behind a change of its dict alone, all else kept -/
theorem DrawIs.step {H H' : Hp} {d aw ac : Addr} {ws cs : List Int} {r t r' t' : Int} {B C : Nat} (I : DrawIs H d aw ac ws cs r t B) (h0 : 0 ≤ t') (hB : t' ≤ C) (k : Same (upd H d (.dK (D4 aw ac r' t'))) H') : DrawIs H' d aw ac ws cs r' t' C := by
  have e1 : aw ≠ d := ne_of I.hw I.hd (by intro q; cases q)
  have e2 : ac ≠ d := ne_of I.hc I.hd (by intro q; cases q)
  exact ⟨k _ _ upd_same, k _ _ (by rw [upd_ne e1]; exact I.hw), k _ _ (by rw [upd_ne e2]; exact I.hc), h0, hB, I.cB, I.wl, I.ne⟩
/-- .. behind a pop of its wide numbers -/
theorem DrawIs.pop {H H' : Hp} {d aw ac : Addr} {z : Int} {ws cs : List Int} {r t r' : Int} {B : Nat} (I : DrawIs H d aw ac (z :: ws) cs r t B) (k : Same (upd (upd H aw (.lst (ws.map V.int))) d (.dK (D4 aw ac r' t))) H') : DrawIs H' d aw ac ws cs r' t B := by
  have e1 : aw ≠ d := ne_of I.hw I.hd (by intro q; cases q)
  have e2 : ac ≠ d := ne_of I.hc I.hd (by intro q; cases q)
  exact ⟨k _ _ upd_same, k _ _ (by rw [upd_ne e1, upd_same]), k _ _ (by rw [upd_ne e2, upd_ne I.ne.symm]; exact I.hc), I.t0, I.tB, I.cB, by have := I.wl; rw [List.length_cons] at this; omega, I.ne⟩
theorem DrawIs.keep {H H' : Hp} {d aw ac : Addr} {ws cs : List Int} {r t : Int} {B C : Nat} (I : DrawIs H d aw ac ws cs r t B) (hB : B ≤ C) (k : Same H H') : DrawIs H' d aw ac ws cs r t C :=
  ⟨k _ _ I.hd, k _ _ I.hw, k _ _ I.hc, I.t0, by have := I.tB; omega, I.cB, I.wl, I.ne⟩
theorem same_upd {H0 H : Hp} {p : Addr} {o : HO} (s : Same H0 H) (n : H0 p = none) : Same H0 (upd H p o) := fun b u e => by
  rw [upd_ne (ne_of_none e n)]
  exact s b u e
theorem dp_ints {K : PySem.W.Frag} {H : Hp} {a : Addr} {ns : List Int} (h : SqL K H a (ns.map V.int)) : Dp K H (.ref a) (.list (ns.map PyData.int)) := by
  refine .lst h ?_
  clear h
  induction ns with
  | nil => exact .nil
  | cons n ns ih => exact .cons (.int n) ih
theorem lay_ints : ∀ (ns : List Int), PyData.canLayAll0 (ns.map PyData.int) = true ∧ PyData.depthAll (ns.map PyData.int) = 0
  | [] => ⟨rfl, rfl⟩
  | n :: ns => by
    obtain ⟨h1, h2⟩ := lay_ints ns
    refine ⟨?_, ?_⟩
    · show (true && PyData.canLayAll0 (ns.map PyData.int)) = true
      rw [h1] <;> rfl
    · show max 0 (PyData.depthAll (ns.map PyData.int)) = 0
      rw [h2] <;> rfl
theorem shaped_ints (ns : List Int) : SeqAt.shaped (.list (ns.map PyData.int)) = true := by
  obtain ⟨h1, h2⟩ := lay_ints ns
  show (PyData.canLayAll0 (ns.map PyData.int) && decide (PyData.depthAll (ns.map PyData.int) + 1 ≤ 64)) = true
  rw [h1, h2] <;> rfl
theorem eqv_nil {ns : List Int} : PyData.eqv (.list (ns.map PyData.int)) (.list []) = ns.isEmpty := by
  cases ns <;> rfl
/-- pick(draw, some): one item of the list -/
def spPick (K : PySem.W.Frag) : Sp := fun vs H Q _ => ∃ (H0 : Hp) (d l : Addr) (B : Nat) (xs : List V), vs = [.ref d, .ref l] ∧ DrawAt H0 H d B ∧ B < 1000000000000 ∧ SqL K H0 l xs ∧ 0 < xs.length ∧ xs.length < 1073741824 ∧
  ∀ (i : Nat) (x : V) (H' : Hp), xs[i]? = some x → DrawAt H0 H' d (B + 1) → Q x H'
/-- begun(script): a new draw, no turn taken -/
def spBegun (K : PySem.W.Frag) : Sp := fun vs H Q _ => ∃ (a : Addr) (ns : List Int), vs = [.ref a] ∧ SqL K H a (ns.map V.int) ∧ ns.length ≤ 63 ∧ ∀ (d : Addr) (H' : Hp), DrawAt H H' d 0 → Q (.ref d) H'
theorem int_of_map {ns : List Int} {i : Nat} {x : V} (h : (ns.map V.int)[i]? = some x) : ∃ n, ns[i]? = some n ∧ x = .int n := by
  rw [List.getElem?_map] at h
  cases e : ns[i]? with
  | none => rw [e] at h; cases h
  | some n => rw [e] at h; exact ⟨n, rfl, (Option.some.inj h).symm⟩
theorem map_app {ns : List Int} {n : Int} : ns.map V.int ++ [V.int n] = (ns ++ [n]).map V.int := by rw [List.map_append] <;> rfl
end
end Wx

/-! A caught exception as a value: behind the clause its object is tracked, by its class and its own dict. -/
namespace Wx
open PySem L2
/-- the exception object at a: its class, its own dict -/
def ExV (a : Addr) (cls : Value) (d : Option Addr) : HO :=
  .ext fun h => ∃ (oe : Obj) (vs : Array Value), h.get? a = some oe ∧ Zc cls d oe ∧ oe.data = .fields vs
theorem exV_ok {P : Program} {w : World} {H : Hp} {h : Heap} {a : Addr} {cls : Value} {d : Option Addr} {oe : Obj} {vs : Array Value} (e : h.get? a = some oe) (z : Zc cls d oe) (f : oe.data = .fields vs) :
    ObjOk P w H h a (ExV a cls d) :=
  ⟨⟨oe, vs, e, z, f⟩, ⟨oe, e⟩, fun h1 h2 ⟨ob, us, e1, z1, f1⟩ keep => ⟨ob, us, keep _ e1, z1, f1⟩⟩
section
variable {X : Cx} {pins : List (Addr × Obj)} {σ : L2.St} {H : Hp} {sI s : Shared}
/-- an exception's object that came after the state sI is tracked from now on -/
theorem track {a : Addr} {cls : Value} {d : Option Addr} {oe : Obj} {vs : Array Value} (I : L2.Inv X pins σ H sI) (J : L2.Inv X pins σ H s) (hx : X.ex = []) (new : sI.heap.get? a = none) (na : H a = none) (nL : a ≠ X.env.locals)
    (e : s.heap.get? a = some oe) (z : Zc cls d oe) (f : oe.data = .fields vs) : L2.Inv X pins σ (upd H a (ExV a cls d)) s := by
  have old : X.s_0.heap.get? a = none := by
    cases q : X.s_0.heap.get? a with
    | none => rfl
    | some o =>
      obtain ⟨o', q'⟩ := I.base.there a o q (by rw [hx]; exact List.not_mem_nil)
      rw [new] at q'
      cases q'
  have apart : ∀ b o, X.s_0.heap.get? b = some o → b ≠ a := fun b o q n => by
    rw [n, old] at q
    cases q
  have cellNe : ∀ x c, X.env.cells.lookup x = some c → c ≠ a := fun x c q n => by
    obtain ⟨v, oc, h1, h2⟩ := J.cell x c q
    rw [n, e] at h1
    cases h1
    rw [f] at h2
    cases h2
  refine { J with base := ?_, free := ?_, freeC := fun x c q => ?_, pin := fun p hp => ?_, hok := fun b o q => ?_ }
  · exact { J.base with
      free := fun b o q n x => by rw [upd_ne (apart b o q)]; exact J.base.free b o q n x
      tups := fun b xs q => by rw [upd_ne (ne_of_none (J.base.tups b xs q) na)]; exact J.base.tups b xs q
      frzs := fun b o u q => by rw [upd_ne (ne_of_none (J.base.frzs b o u q) na)]; exact J.base.frzs b o u q
      tbls := fun b ps q => by
        obtain ⟨more, q'⟩ := J.base.tbls b ps q
        exact ⟨more, by rw [upd_ne (ne_of_none q' na)]; exact q'⟩ }
  · rw [upd_ne nL.symm]
    exact J.free
  · rw [upd_ne (cellNe x c q)]
    exact J.freeC x c q
  · obtain ⟨h1, h2, h3, h4, h5⟩ := J.pin p hp
    refine ⟨h1, ?_, h3, h4, h5⟩
    have ne : p.1 ≠ a := fun n => by
      have q := (I.pin p hp).1
      rw [n, new] at q
      cases q
    rw [upd_ne ne]
    exact h2
  · by_cases n : b = a
    · subst n
      rw [upd_same] at q
      cases q
      exact exV_ok e z f
    · rw [upd_ne n] at q
      exact (J.hok b o q).stay (fun _ _ _ q => q) (fun c q => by rw [upd_ne (ne_of_none q na)]; exact q) fun c xs q => by
        rw [upd_ne (ne_of_none q na)]
        exact q
/-- what such a clause wishes of an exception of the body: it is of the class c, and what follows goes on with the exception at a in the slot m (the clause's own name, slot i, is gone) -/
def wV (K : PySem.W.Frag) (c : Value) (i m : Nat) (D : Ends) : WX := fun cls d σ H => PySem.W.exmOne K cls c = some true ∧
  ∀ a, H a = none → D.nx (((σ.set i (some (.ref a))).set m (some (.ref a))).set i none) (upd H a (ExV a cls d))
variable {G : Gb} {N : List Str} {sc : Scope} {k : Nat} {W : WX} {D : Ends}
theorem Fr.suiteInv (d : Fr X G N sc k W) {a : Addr} (J : L2.Inv X pins σ H s) : L2.Inv (X.suite a (X.pn ++ pins)) [] σ H s :=
  ⟨J.ok.suite _ _, J.os, J.bare, J.base, J.loc, J.cell, J.free, J.freeC, fun p hp => J.pin p (by rw [List.append_nil] at hp; exact hp), J.hok, J.len⟩
theorem unsuiteInv {a : Addr} {pn' : List (Addr × Obj)} (J : L2.Inv (X.suite a (X.pn ++ pins)) pn' σ H s) (ok : X.Ok) : L2.Inv X pins σ H s :=
  ⟨ok, J.os, J.bare, J.base, J.loc, J.cell, J.free, J.freeC, fun p hp => J.pin p (List.mem_append_left _ hp), J.hok, J.len⟩
/-- try: body / except x as n: y = n -/
theorem ws_tryVt {body : List Stmt} {x n y : Str} {np yp np2 ap pos pos' : Pos} {c : Value} (d : Fr X G N sc k W) (i m : Nat) (hi : N[i]? = some n) (hm : N[m]? = some y) (hn : sc.names.lookup n = some .local) (hy : L2.Loc sc y) (hg : glB sc x = true) (gC : G.mg x = some c)
    (hb : ∀ pn xe, Fr (X.tr pn xe) G N sc k (wV G.K c i m D) → WB (X.tr pn xe) body D σ H) (hdb : (x == ("__debug__" : Str)) = false := by decide +kernel) (h1 : (n == ("__debug__" : Str)) = false := by decide +kernel) (h2 : (n == ("__classdict__" : Str)) = false := by decide +kernel) :
    WS X (.Try body [.ExceptHandler (some (.Name x np)) (some n) [.Assign [.Name y yp] (.Name n np2) ap] pos'] [] [] pos) D σ H := by
  intro pins s I
  have ok := I.ok
  have frames : X.A.frames = some (X.env :: X.outer) := ok.frames.trans (congrArg some d.stk)
  have kn : X.env.kindOf n = some .local := by
    unfold Env.kindOf
    rw [d.sc]
    exact hn
  refine wpAny_Try_except ?_
  have own : ∀ {Ex : Value → Shared → Prop} {Ke : Value → Shared → Prop}, PassesOwn (model X.prog X.w) X.A X.env fun e s' => wpAny (model X.prog X.w) X.A (noteFrame e X.env) (fun _ s'' => Ke e s'') Ex s' := PassesOwn.looking
  refine wpAny_mono (hb (X.pn ++ pins) _ { prog := d.prog, w := d.w, K := d.K, mg := d.mg, base := d.base, n := d.n, sc := d.sc, nd := d.nd, calm := d.calm, room := d.room, fn := d.fn, own := own, tk := ?_, stk := d.stk, frm := d.frm, ex := d.ex } [] s (I.toTry _)) (fun f s1 q => ?_) fun _ _ z => z
  · -- the catch
    rintro u s' ⟨a, B, sI, ps, τ, H1, cls, dd, rfl, J0, ground, up, sky, na, hos, gens, ex1, hq⟩
    have J : L2.Inv X pins τ H1 sI := J0.ofTry ok
    have sky' : Sky B (X.env :: X.outer) a (Zc cls dd) X.env.locals s'.heap := by
      rw [← d.stk]
      exact sky
    show wpAny _ X.A (noteFrame (.ref a) X.env) _ _ s'
    refine Sky.land Zc.steady frames d.frm sky' fun hp3 fly up3 => ?_
    obtain ⟨o3, v3, at3, z3, f3⟩ := fly.there
    have notFrame : a ∉ frs (X.env :: X.outer) := fun hmem => by
      obtain ⟨_, o', q, nofields⟩ := fly.2.2.1.mem hmem
      rw [at3] at q
      cases q
      exact nofields _ f3
    have new : sI.heap.get? a = none := by
      cases q : sI.heap.get? a with
      | none => rfl
      | some o =>
        have q' := ground a o q (by
          show a ∉ frs X.stack
          rw [d.stk]
          exact notFrame)
        rw [fly.2.1] at q'
        cases q'
    have nL : a ≠ X.env.locals := fun e => notFrame (by
      rw [e]
      exact List.mem_filterMap.mpr ⟨X.env, List.mem_cons_self, d.frm⟩)
    have J3 : L2.Inv X pins τ H1 { s' with heap := hp3 } := J.landed ground fly.1 (up.trans up3) hos gens
    have T3 := track J J3 d.ex new na nL at3 z3 f3
    refine wpAny_handleBy_cons (codeAny_handlers_test ?_) (fun e => nomatch e)
    have ty : PySem.W.Looks (model X.prog X.w) hp3 (typeOf (.ref a)) cls := fun _ _ _ _ keep q => wpAny_typeOf_ref (keep _ _ at3) (by rw [z3.1]; exact q)
    have seen := PySem.W.exm_one (M := model X.prog X.w) J3.kIn ty (by rw [d.K]; exact ex1)
    refine ld_glob (X := X.suite a (X.pn ++ pins)) (d.suiteInv T3) (by
      show X.env.kindOf x = _
      exact d.toDef.gl hg) (by
      show X.mg x = _
      rw [d.mg]
      exact gC) ?_ hdb
    refine seen.here ?_
    refine codeAny_handlers_suite_as ?_
    refine HandSPX.lands_againZ fly fun hp4 fly4 up4 => ?_
    obtain ⟨o4, v4, at4, z4, f4⟩ := fly4.there
    have J4 : L2.Inv X pins τ H1 { s' with heap := hp4 } := J.landed ground fly4.1 ((up.trans up3).trans up4) hos gens
    have T4 := d.suiteInv (a := a) (track J J4 d.ex new na nL at4 z4 f4)
    refine store_ok (X := X.suite a (X.pn ++ pins)) (i := i) (v := .ref a) T4 (by show X.N.Nodup; rw [d.n]; exact d.nd) (by show X.N[i]? = _; rw [d.n]; exact hi) (.inl kn) rfl (fun s5 S5 => ?_) (.inr kn)
    have run : PSs (X.suite a (X.pn ++ pins)) [.Assign [.Name y yp] (.Name n np2) ap] (tAsg (tVar i) (gName m)) :=
      pss_one (ps_set (i := m) (by show X.N.Nodup; rw [d.n]; exact d.nd) (by show X.N[m]? = _; rw [d.n]; exact hm) (by show L2.Loc X.env.scope y; rw [d.sc]; exact hy)
        (pe_var (i := i) (by show X.N[i]? = _; rw [d.n]; exact hi) (by show Vis X.env.scope n; rw [d.sc]; exact .inl hn) h1 h2) rfl (.inl (d.fn y)))
    have len : i < τ.length := by
      have e := J.len
      rw [d.n] at e
      rw [e]
      exact (List.getElem?_eq_some_iff.mp hi).1
    refine wpAny_mono (run.run [] s5 _ _ { nx := fun σ' H' => D.nx (σ'.set i none) H', rt := fun _ _ => False } S5 ⟨.ref a, List.getElem?_set_self len, hq a na⟩) (fun f s6 q => ?_) fun _ _ z => z.elim
    cases f with
    | next =>
      obtain ⟨σ6, H6, S6, q6⟩ := q
      exact gone_ok (unsuiteInv S6 ok) (by rw [d.n]; exact d.nd) (by rw [d.n]; exact hi) kn fun s7 J7 => ⟨_, _, J7, q6⟩
    | brk =>
      obtain ⟨_, _, _, q6⟩ := q
      exact q6.elim
    | cont =>
      obtain ⟨_, _, _, q6⟩ := q
      exact q6.elim
    | ret u =>
      obtain ⟨_, _, _, _, _, q6⟩ := q
      exact q6.elim
  · cases f with
    | next =>
      obtain ⟨σ', H', J', q'⟩ := q
      exact wpAny_execs_nil ⟨σ', H', J'.ofTry ok, q'⟩
    | brk =>
      obtain ⟨σ', H', J', q'⟩ := q
      exact ⟨σ', H', J'.ofTry ok, q'⟩
    | cont =>
      obtain ⟨σ', H', J', q'⟩ := q
      exact ⟨σ', H', J'.ofTry ok, q'⟩
    | ret u =>
      obtain ⟨v, σ', H', J', r, q'⟩ := q
      exact ⟨v, σ', H', J'.ofTry ok, r, q'⟩

theorem ws_tryV {body : List Stmt} {x n y : Str} {np yp np2 ap pos pos' : Pos} {c : Value} (d : Fr X G N sc k W) (i m : Nat) (hi : N[i]? = some n) (hm : N[m]? = some y) (hn : sc.names.lookup n = some .local) (hy : L2.Loc sc y) (hg : glB sc x = true) (gC : G.mg x = some c)
    (hb : ∀ X', Fr X' G N sc k (wV G.K c i m D) → WB X' body D σ H) (hdb : (x == ("__debug__" : Str)) = false := by decide +kernel) (h1 : (n == ("__debug__" : Str)) = false := by decide +kernel) (h2 : (n == ("__classdict__" : Str)) = false := by decide +kernel) :
    WS X (.Try body [.ExceptHandler (some (.Name x np)) (some n) [.Assign [.Name y yp] (.Name n np2) ap] pos'] [] [] pos) D σ H := ws_tryVt d i m hi hm hn hy hg gC (fun pn xe => hb _) hdb h1 h2
/-! ### own exception classes without own __init__ -/
/-- what the text's top has left of the exception class x, at C -/
structure ExC (G : Gb) (x : Str) (C : Addr) : Prop where
  gC : G.mg x = some (.ref C)
  xC : PySem.W.excIn G.K C [.type "ValueError", .type "Exception", .type "BaseException", .type "object"] "ValueError.__new__" = true
  kC : PySem.W.keepIn G.K (.ref C) = true
  bC : PySem.W.subIn G.K (.ref C) (.type "BaseException") = some true
  tC : PySem.W.typeIn G.K (.ref C) = some (.type "type")
/-- a class that an except clause names: errors of the class at C are of it -/
structure ExM (G : Gb) (x : Str) (S C : Addr) : Prop where
  hd : PySem.W.hasDictIn G.K S = true
  bS : PySem.W.subIn G.K (.ref S) (.type "BaseException") = some true
  tS : PySem.W.typeIn G.K (.ref S) = some (.type "type")
  sC : PySem.W.subIn G.K (.ref C) (.ref S) = some true
theorem ExM.one {x : Str} {S C : Addr} (h : ExM G x S C) : PySem.W.exmOne G.K (.ref C) (.ref S) = some true := PySem.W.exm_ref h.bS h.hd h.tS h.sC
theorem ws_raise (d : Fr X G N sc k W) {x m : Str} {C : Addr} {j : Nat} {p p2 pos pos' : Pos} (F : ExC G x C) (hg : glB sc x = true) (q : W (.ref C) none σ H) (hdb : (x == ("__debug__" : Str)) = false := by decide +kernel) :
    WS X (.Raise (some (.Call (.Name x p) [.Constant (.str m) j p2] [] pos)) none pos') D σ H :=
  ws_of (ps_raise d.calm d.tk (pmk_own PySem.F.excBase_ValueError (by rw [d.K]; exact F.xC) (by rw [d.mg]; exact F.gC) (by rw [d.K]; exact F.kC) (raises_own (by rw [d.K]; exact F.bC) (by rw [d.K]; exact F.tC)) (d.toDef.gl hg) hdb)) q
/-- isinstance(e, c), e an exception's value (without a dict of its own) -/
theorem rc_isV {x : V} {C a : Addr} {c : V} {u : Value} {r : Bool} {Q : VK} (d : Def X G N sc k) (E : ExcC G.K C) (hc : ClsV c u) (h : H a = some (ExV a (.ref C) none)) (e : PySem.W.kitOne G.K (.ref C) u = some r) (q : Q (.bl r) H) : RC X (.builtin "isinstance") [.ref a, c] H Q := by
  refine ⟨fun vs H' Q' => vs = [.ref a, c] ∧ H' a = some (ExV a (.ref C) none) ∧ Q' (.bl r) H', ?_, rfl, h, q⟩
  intro pins s τ H1 xs us Q1 I rr hh
  obtain ⟨rfl, h1, q1⟩ := hh
  obtain ⟨u1, u2, rfl, r1, r2⟩ := vals2 rr
  cases (show u1 = Value.ref a from r1)
  have e2 := hc.eq r2
  subst e2
  obtain ⟨⟨oe, vs, at1, z1, f1⟩, _, _⟩ := I.hok a _ h1
  have J : PySem.W.InstAt s.heap a oe C none := by
    obtain ⟨oc, od, oda, osl⟩ := oe
    obtain ⟨rfl, rfl⟩ := z1
    cases f1
    exact ⟨at1, rfl, rfl, trivial⟩
  have K0 : G.K.In s.heap := by
    rw [← d.K]
    exact I.kIn
  exact PySem.W.kia_one (PySem.W.handS_kitx_exc E.hg E.hk E.hs E.hd E.ha E.hn E.ht E.hm) K0 J e (fun z => nomatch z) fun tk => ⟨.bl r, H1, I.kept (t' := tk) fun _ _ z => z, rfl, q1⟩
theorem kit_self {K : PySem.W.Frag} {C : Addr} : PySem.W.kitOne K (.ref C) (.ref C) = some true := by
  unfold PySem.W.kitOne
  rw [if_pos (beq_self_eq_true _)]
end
end Wx

/-! Data: values that stand for nested lists and tuples of None, bools, ints, texts. -/
namespace Wx
open PySem L2
section
variable {K : PySem.W.Frag} {H H' : Hp} {a : Addr} {xs : List V} {v : V} {d : PyData}
theorem _root_.L2.Same.tup (e : Same H H') (h : SqT K H a xs) : SqT K H' a xs := by
  rcases h with (h | ⟨o, h⟩) | h
  · exact .inl (.inl (e _ _ h))
  · exact .inl (.inr ⟨o, e _ _ h⟩)
  · exact .inr h
mutual
theorem _root_.L2.Same.dp (e : Same H H') : ∀ (d : PyData) (v : V), Dp K H v d → Dp K H' v d
  | .none, _, h => by cases h; exact .non
  | .bool _, _, h => by cases h; exact .bl _
  | .int _, _, h => by cases h; exact .int _
  | .str _, _, h => by cases h; exact .str _
  | .list ds, _, h => by
    cases h with
    | lst h1 h2 => exact .lst (e.seq h1) (L2.Same.dpAll e ds _ h2)
  | .tuple ds, _, h => by
    cases h with
    | tup h1 h2 => exact .tup (L2.Same.tup e h1) (L2.Same.dpAll e ds _ h2)
  | .dict _, _, h => by cases h
theorem _root_.L2.Same.dpAll (e : Same H H') : ∀ (ds : List PyData) (vs : List V), DpAll K H vs ds → DpAll K H' vs ds
  | [], _, h => by cases h; exact .nil
  | d :: ds, _, h => by
    cases h with
    | cons h1 h2 => exact .cons (L2.Same.dp e d _ h1) (L2.Same.dpAll e ds _ h2)
end
def tyD : PyData → String
  | .none => "NoneType" | .bool _ => "bool" | .int _ => "int" | .str _ => "str" | .list _ => "list" | .tuple _ => "tuple" | .dict _ => "dict"
theorem ty_seqL (h : SqL K H a xs) : TyX K H (.ref a) (.type "list") := by
  rcases h with (h | ⟨o, h⟩) | ⟨o, its, n, h1, h2, _⟩
  · exact .base (.lst h)
  · exact .base (.frz h)
  · exact .kList h1 h2
theorem ty_seqT (h : SqT K H a xs) : TyX K H (.ref a) (.type "tuple") := by
  rcases h with (h | ⟨o, h⟩) | ⟨o, its, n, h1, h2, _⟩
  · exact .base (.tup h)
  · exact .fTuple h
  · exact .kTuple h1 h2
theorem dp_ty (h : Dp K H v d) : TyX K H v (.type (tyD d)) := by
  cases h with
  | non => exact .base .non
  | bl b => exact .base (.bl b)
  | int i => exact .base (.int i)
  | str x => exact .base (.str x)
  | lst h _ => exact ty_seqL h
  | tup h _ => exact ty_seqT h
theorem _root_.L2.DpAll.len : ∀ {vs : List V} {ds : List PyData}, DpAll K H vs ds → vs.length = ds.length
  | _, _, .nil => rfl
  | _, _, .cons _ h => congrArg Nat.succ h.len
theorem _root_.L2.DpAll.get : ∀ {vs : List V} {ds : List PyData} {i : Nat} {v : V}, DpAll K H vs ds → vs[i]? = some v → ∃ d, ds[i]? = some d ∧ Dp K H v d
  | _, _, _, _, .nil, e => by simp at e
  | _, _, 0, _, .cons h _, e => by
    cases e
    exact ⟨_, rfl, h⟩
  | _, _, i + 1, v, .cons _ h, e => h.get (i := i) (v := v) e
theorem kit_bt {a b : String} {r : Bool} (h : kitB a b = some r) : PySem.W.kitOne K (.type a) (.type b) = some r := kit_ty h
theorem kit_bt2 {a b c : String} {r s : Bool} (h1 : kitB a b = some r) (h2 : kitB a c = some s) : PySem.W.kitAny K (.type a) [.type b, .type c] = some (r || s) := by
  refine kitAny_cons (kit_ty h1) (fun e => kitAny_cons (kit_ty h2) (fun e2 => ?_) (fun e2 => ?_)) (fun e => ?_)
  · rw [e, e2] <;> exact kitAny_nil
  · rw [e2, Bool.or_true]
  · rw [e, Bool.true_or]
end
section
variable {X : Cx} {σ : L2.St} {H : Hp} {Q : VK} {pos : Pos} {G : Gb} {N : List Str} {sc : Scope} {k : Nat}
theorem we_t_int (d : Def X G N sc k) (b : Bi G.mg) (hg : glB sc "int" = true) (q : Q (.ty "int") H) : WE X (.Name "int" pos) σ H Q := we_blt (v := .ty "int") (u := .type "int") d hg b.b_int (by decide +kernel) rfl q
theorem we_t_bool (d : Def X G N sc k) (b : Bi G.mg) (hg : glB sc "bool" = true) (q : Q (.ty "bool") H) : WE X (.Name "bool" pos) σ H Q := we_blt (v := .ty "bool") (u := .type "bool") d hg b.b_bool (by decide +kernel) rfl q
theorem we_t_str (d : Def X G N sc k) (b : Bi G.mg) (hg : glB sc "str" = true) (q : Q (.ty "str") H) : WE X (.Name "str" pos) σ H Q := we_blt (v := .ty "str") (u := .type "str") d hg b.b_str (by decide +kernel) rfl q
theorem we_t_list (d : Def X G N sc k) (b : Bi G.mg) (hg : glB sc "list" = true) (q : Q (.ty "list") H) : WE X (.Name "list" pos) σ H Q := we_blt (v := .ty "list") (u := .type "list") d hg b.b_list (by decide +kernel) rfl q
theorem we_t_tuple (d : Def X G N sc k) (b : Bi G.mg) (hg : glB sc "tuple" = true) (q : Q (.ty "tuple") H) : WE X (.Name "tuple" pos) σ H Q := we_blt (v := .ty "tuple") (u := .type "tuple") d hg b.b_tuple (by decide +kernel) rfl q
theorem we_t_dict (d : Def X G N sc k) (b : Bi G.mg) (hg : glB sc "dict" = true) (q : Q (.ty "dict") H) : WE X (.Name "dict" pos) σ H Q := we_blt (v := .ty "dict") (u := .type "dict") d hg b.b_dict (by decide +kernel) rfl q
/-- any, all of a list of truths; min, max, of a list of numbers -/
theorem rc_any (d : Def X G N sc k) {a : Addr} {bs : List Bool} (h : SqL G.K H a (bs.map V.bl)) (q : Q (.bl (bs.any id)) H) : RC X (.builtin "any") [.ref a] H Q := ⟨_, cr_any d.calm, a, bs, rfl, by rw [d.K]; exact h, q⟩
theorem rc_all (d : Def X G N sc k) {a : Addr} {bs : List Bool} (h : SqL G.K H a (bs.map V.bl)) (q : Q (.bl (bs.all id)) H) : RC X (.builtin "all") [.ref a] H Q := ⟨_, cr_all d.calm, a, bs, rfl, by rw [d.K]; exact h, q⟩
theorem rc_minL (d : Def X G N sc k) {a : Addr} {ns : List Int} (h : SqL G.K H a (ns.map V.int)) (h0 : 0 < ns.length) (q : ∀ m, m ∈ ns → (∀ y, y ∈ ns → m ≤ y) → Q (.int m) H) : RC X (.builtin "min") [.ref a] H Q := ⟨_, cr_min d.calm, a, ns, rfl, by rw [d.K]; exact h, h0, q⟩
theorem rc_maxL (d : Def X G N sc k) {a : Addr} {ns : List Int} (h : SqL G.K H a (ns.map V.int)) (h0 : 0 < ns.length) (q : ∀ m, m ∈ ns → (∀ y, y ∈ ns → y ≤ m) → Q (.int m) H) : RC X (.builtin "max") [.ref a] H Q := ⟨_, cr_max d.calm, a, ns, rfl, by rw [d.K]; exact h, h0, q⟩
theorem rc_listOf (d : Def X G N sc k) {a : Addr} {xs : List V} (h : SqL G.K H a xs ∨ SqT G.K H a xs) (q : ∀ l, H l = none → Q (.ref l) (upd H l (.lst xs))) : RC X (.type "list") [.ref a] H Q := ⟨_, call_list_of, a, xs, rfl, by rw [d.K]; exact h, q⟩
theorem rc_tupleL (d : Def X G N sc k) {a : Addr} {xs : List V} (h : SqL G.K H a xs) (q : ∀ l, H l = none → Q (.ref l) (upd H l (.tup xs))) : RC X (.type "tuple") [.ref a] H Q := ⟨_, call_tuple_of, a, xs, rfl, .inl ⟨by rw [d.K]; exact h, q⟩⟩
theorem ro_in (d : Def X G N sc k) {x : V} {a : Addr} {xs : List V} (h : SqL G.K H a xs ∨ SqT G.K H a xs) (hx : flatV x = true) (hs : xs.all flatV = true) (q : Q (.bl (inV x xs)) H) : RO X (compareOp .In) x (.ref a) H Q := ⟨_, op_in_seq, a, xs, rfl, by rw [d.K]; exact h, hx, hs, q⟩
theorem ro_notIn (d : Def X G N sc k) {x : V} {a : Addr} {xs : List V} (h : SqL G.K H a xs ∨ SqT G.K H a xs) (hx : flatV x = true) (hs : xs.all flatV = true) (q : Q (.bl (!inV x xs)) H) : RO X (compareOp .NotIn) x (.ref a) H Q := ⟨_, op_notIn_seq, a, xs, rfl, by rw [d.K]; exact h, hx, hs, q⟩
end
end Wx

namespace Wx
open PySem L2
section
variable {X : Cx} {σ : L2.St} {H : Hp} {Q : VK} {D : Ends} {pos : Pos} {G : Gb} {N : List Str} {sc scope : Scope} {k : Nat} {W : WX} {tg elt iter : Expr} {ifs : List Expr} {vs : List Nat}
/-- a turn of a comprehension's block, by what comes of it: an item more, or none -/
def Turn (X : Cx) (G : Gb) (N : List Str) (sc scope : Scope) (k : Nat) (tg elt : Expr) (ifs : List Expr) (vs : List Nat) (σ : L2.St) (x : V) (H : Hp) (R : Option V → Hp → Prop) : Prop :=
  Blk X G N sc scope k fun X' => WG X' tg x (wipe σ vs) H fun σ2 H2 => wipe σ2 vs = wipe σ vs ∧ Blk X G N sc scope k fun X' => WTs X' ifs σ2 H2 fun b H3 =>
    if b = true then Blk X G N sc scope k fun X' => WE X' elt σ2 H3 fun y H4 => R (some y) H4 else R none H3
/-- .. over a list; over a tuple: Pv by the turn and the heap, the new list at L within -/
def LcT (X : Cx) (G : Gb) (N : List Str) (sc scope : Scope) (k : Nat) (tg elt : Expr) (ifs : List Expr) (vs : List Nat) (σ : L2.St) (y : V) (H1 : Hp) (Q : VK) : Prop :=
  ∃ (a : Addr) (xs : List V), y = .ref a ∧ SqT G.K H1 a xs ∧ ∀ L, H1 L = none → ∃ Pv : Nat → Hp → Prop, Pv 0 (upd H1 L (.lst [])) ∧ (∀ i H, i ≤ xs.length → Pv i H → SqT G.K H a xs) ∧
    (∀ i x H, xs[i]? = some x → Pv i H → Blk X G N sc scope k fun X' => WG X' tg x (wipe σ vs) H fun σ2 H2 => wipe σ2 vs = wipe σ vs ∧ Blk X G N sc scope k fun X' => WTs X' ifs σ2 H2 fun b H3 =>
      if b = true then Blk X G N sc scope k fun X' => WE X' elt σ2 H3 fun y H4 => ∃ acc, H4 L = some (.lst acc) ∧ acc.length < sizeLine ∧ Pv (i + 1) (upd H4 L (.lst (acc ++ [y]))) else Pv (i + 1) H3) ∧ ∀ H, Pv xs.length H → Q (.ref L) H
theorem lcT_core (d : Def X G N sc k) (h : WE X iter σ H fun y H1 => LcT X G N sc scope k tg elt ifs vs σ y H1 Q) :
    tLc (iTup X.K (WE X iter)) (fun v σ H R => Blk X G N sc scope k fun X' => WG X' tg v σ H R) (fun σ H R => Blk X G N sc scope k fun X' => WTs X' ifs σ H R) (fun σ H R => Blk X G N sc scope k fun X' => WE X' elt σ H R) vs σ H Q := by
  show WE X iter σ H _
  refine we_mono (fun y H1 q => ?_) h
  obtain ⟨a, xs, e, hq, q⟩ := q
  refine ⟨a, e, ⟨xs, by rw [d.K]; exact hq⟩, fun L hL => ?_⟩
  obtain ⟨Pv, h0, hl, hst, hd⟩ := q L hL
  rw [d.K]
  exact lc_tup (K := G.K) (a := a) (xs := xs) (σ := σ) (vs := vs) (H1 := H1) (D := L) (g := fun v σ H R => Blk X G N sc scope k fun X' => WG X' tg v σ H R) (tt := fun σ H R => Blk X G N sc scope k fun X' => WTs X' ifs σ H R)
    (te := fun σ H R => Blk X G N sc scope k fun X' => WE X' elt σ H R) (Qd := fun H => Q (.ref L) H) Pv h0 hl hst hd
theorem we_lcT (d : Def X G N sc k) (own : List (Str × Nat)) (ok : blkC N sc scope own = true) (hs : ∀ x, foldedSetIterable iter X.env x = pure x)
    (h : WE X iter σ H fun y H1 => LcT X G N sc scope k tg elt ifs (own.map (·.2)) σ y H1 Q) : WE X (.ListComp elt [⟨tg, iter, ifs, 0⟩] scope pos) σ H Q :=
  we_of (pe_lcW d (pi_tup pe_we) (blkOk_by ok) hs) (lcT_core d h)
theorem ws_lcT (d : Fr X G N sc k W) (i : Nat) {y : Str} {py spos : Pos} (own : List (Str × Nat)) (hy : N[i]? = some y) (hyl : sc.names.lookup y = some .local) (ok : blkC N sc scope own = true) (hs : ∀ x, foldedSetIterable iter X.env x = pure x)
    (hl : (py.line == pos.line) = true) (ha : (scope.names.any fun (n, k) => n == y && (k == .local || k == .cell)) = false)
    (h : WE X iter σ H fun z H1 => LcT X G N sc scope k tg elt ifs (own.map (·.2)) σ z H1 fun v H2 => D.nx (σ.set i (some v)) H2) : WS X (.Assign [.Name y py] (.ListComp elt [⟨tg, iter, ifs, 0⟩] scope pos) spos) D σ H := by
  intro pins s I
  have P := ps_setLc (X := X) (i := i) (own := own) (elt := elt) (pos := pos) (spos := spos) (py := py) (wi := iTup X.K (WE X iter)) (g := fun v σ H R => Blk X G N sc scope k fun X' => WG X' tg v σ H R) (tt := fun σ H R => Blk X G N sc scope k fun X' => WTs X' ifs σ H R) (te := fun σ H R => Blk X G N sc scope k fun X' => WE X' elt σ H R)
    d.calm (by rw [d.n]; exact d.nd) (by rw [d.n]; exact hy) (by rw [d.sc]; exact hyl) (sw_true I.ok.kind (by rw [d.sc]; exact hyl) hl ha) (pi_tup pe_we) (by rw [d.n, d.sc]; exact blkOk_by ok)
    (fun s H C cl fp => ⟨fun pins s σ H v u Q I r h => h _ (d.toDef.blk _ _ _ _ _) pins s u I r⟩) (fun s H C cl fp => ⟨fun pins s σ H Q I h => h _ (d.toDef.blk _ _ _ _ _) pins s I⟩) (fun s H C cl fp => ⟨fun pins s σ H Q I h => h _ (d.toDef.blk _ _ _ _ _) pins s I⟩) hs
  exact P.run pins s σ H D I (lcT_core (Q := fun v H2 => D.nx (σ.set i (some v)) H2) d.toDef h)
theorem take_succ {α : Type} {l : List α} {i : Nat} {x : α} (h : l[i]? = some x) : l.take (i + 1) = l.take i ++ [x] := by
  rw [List.take_succ, h]
  rfl
theorem map_at {α : Type} {zs : List α} {g : α → V} {i : Nat} {x : V} (h : (zs.map g)[i]? = some x) : ∃ z, zs[i]? = some z ∧ x = g z := by
  rw [List.getElem?_map] at h
  cases e : zs[i]? with
  | none => rw [e] at h; cases h
  | some z => rw [e] at h; exact ⟨z, rfl, (Option.some.inj h).symm⟩
/-- what a turn has come to, told for the list at L: xs the source's items, f what each one gives -/
def Done {α : Type} (zs : List α) (f : α → Option V) (H1 : Hp) (L : Addr) (i : Nat) (o : Option V) (H' : Hp) : Prop := match o with
  | some y => ∃ acc, H' L = some (.lst acc) ∧ acc.length < sizeLine ∧ (Same H1 (upd H' L (.lst (acc ++ [y]))) ∧ (upd H' L (.lst (acc ++ [y]))) L = some (.lst ((zs.take (i + 1)).filterMap f)))
  | none => Same H1 H' ∧ H' L = some (.lst ((zs.take (i + 1)).filterMap f))
theorem done {α : Type} {zs : List α} {z : α} {i : Nat} {L : Addr} {H1 H : Hp} {f : α → Option V} (hL : H1 L = none) (hx : zs[i]? = some z) (hn : zs.length < 100000) (s : Same H1 H) (hH : H L = some (.lst ((zs.take i).filterMap f))) :
    ∀ H', Same H H' → Done zs f H1 L i (f z) H' := by
  intro H' s'
  have e : (zs.take (i + 1)).filterMap f = (zs.take i).filterMap f ++ (match f z with | some y => [y] | none => []) := by
    rw [take_succ hx, List.filterMap_append, List.filterMap_cons]
    cases f z <;> rfl
  have hi : i < zs.length := (List.getElem?_eq_some_iff.mp hx).1
  have hl : ((zs.take i).filterMap f).length ≤ i := Nat.le_trans (List.length_filterMap_le _ _) (by rw [List.length_take]; omega)
  unfold Done
  rw [e]
  cases f z with
  | some y => exact ⟨_, s' _ _ hH, len_lt (by omega), same_upd (s.trans s') hL, upd_same⟩
  | none => exact ⟨s.trans s', by rw [List.append_nil]; exact s' _ _ hH⟩
theorem lcL_map {α : Type} {a : Addr} {zs : List α} (g : α → V) (f : α → Option V) (hq : SqL G.K H a (zs.map g)) (hn : zs.length < 100000)
    (turn : ∀ z ∈ zs, ∀ H', Same H H' → ∀ R : Option V → Hp → Prop, (∀ H2, Same H' H2 → R (f z) H2) → Turn X G N sc scope k tg elt ifs vs σ (g z) H' R)
    (fin : ∀ L H', H L = none → Same H H' → H' L = some (.lst (zs.filterMap f)) → Q (.ref L) H') : LcL X G N sc scope k tg elt ifs vs σ (.ref a) H Q := by
  refine ⟨a, _, rfl, hq, fun L hL => ⟨fun i H' => Same H H' ∧ H' L = some (.lst ((zs.take i).filterMap f)), ⟨same_new hL, upd_same⟩, fun i H' _ h => h.1.seq hq, fun i x H' hx h => ?_, fun H' h => ?_⟩⟩
  · obtain ⟨z, hz, rfl⟩ := map_at hx
    exact turn z (List.mem_of_getElem? hz) H' h.1 (Done zs f H L i) (done hL hz hn h.1 h.2)
  · obtain ⟨h1, h2⟩ := h
    rw [List.length_map, List.take_length] at h2
    exact fin L H' hL h1 h2
theorem lcT_map {α : Type} {a : Addr} {zs : List α} (g : α → V) (f : α → Option V) (hq : SqT G.K H a (zs.map g)) (hn : zs.length < 100000)
    (turn : ∀ z ∈ zs, ∀ H', Same H H' → ∀ R : Option V → Hp → Prop, (∀ H2, Same H' H2 → R (f z) H2) → Turn X G N sc scope k tg elt ifs vs σ (g z) H' R)
    (fin : ∀ L H', H L = none → Same H H' → H' L = some (.lst (zs.filterMap f)) → Q (.ref L) H') : LcT X G N sc scope k tg elt ifs vs σ (.ref a) H Q := by
  refine ⟨a, _, rfl, hq, fun L hL => ⟨fun i H' => Same H H' ∧ H' L = some (.lst ((zs.take i).filterMap f)), ⟨same_new hL, upd_same⟩, fun i H' _ h => h.1.tup hq, fun i x H' hx h => ?_, fun H' h => ?_⟩⟩
  · obtain ⟨z, hz, rfl⟩ := map_at hx
    exact turn z (List.mem_of_getElem? hz) H' h.1 (Done zs f H L i) (done hL hz hn h.1 h.2)
  · obtain ⟨h1, h2⟩ := h
    rw [List.length_map, List.take_length] at h2
    exact fin L H' hL h1 h2
theorem truL (d : Def X G N sc k) {p : Addr} {xs : List V} (h : SqL G.K H p xs) : TruV X.K (.ref p) H (!xs.isEmpty) := .inl ⟨xs, by rw [d.K]; exact h, rfl⟩
theorem truT (d : Def X G N sc k) {p : Addr} {xs : List V} (h : SqT G.K H p xs) : TruV X.K (.ref p) H (!xs.isEmpty) := .inr (.inl ⟨xs, by rw [d.K]; exact h, rfl⟩)
theorem truD (d : Def X G N sc k) {p : Addr} {kvs : List (Key × V)} (h : H p = some (.dK kvs)) : TruV X.K (.ref p) H (!kvs.isEmpty) := .inr (.inr ⟨kvs, h, rfl⟩)
end
end Wx

/-! Written data: displays of constants, lists and tuples. A frame says what is known of the heap beside what others hold. -/
namespace Wx
open PySem L2
/-- a frame that new objects may join -/
structure Frm (Fm : Hp → Hp → Prop) : Prop where
  laid : ∀ {H0 H : Hp} {p : Addr} {o : HO}, Fm H0 H → H p = none → Fm (upd H0 p o) (upd H p o)
  same : ∀ {H0 H : Hp}, Fm H0 H → Same H0 H
theorem frm_draw {d : Addr} {B : Nat} : Frm fun H0 H => DrawAt H0 H d B := ⟨fun A hp => A.laid hp, fun A => A.same⟩
theorem frm_same : Frm Same := ⟨fun {H0 H p o} s hp b u e => by
  by_cases hb : b = p
  · subst hb
    rw [upd_same] at e ⊢
    exact e
  · rw [upd_ne hb] at e ⊢
    exact s b u e, fun s => s⟩
mutual
/-- the data that a display of constants is -/
inductive Lit : Expr → PyData → Prop
  | non {j p} : Lit (.Constant .none j p) .none
  | bl {b j p} : Lit (.Constant (.bool b) j p) (.bool b)
  | int {i j p} : Lit (.Constant (.int i) j p) (.int i)
  | str {z j p} : Lit (.Constant (.str z) j p) (.str z)
  | tup {es ds a b} : Lits es ds → decide (es.length ≤ 1000) = true → Lit (.Tuple es a b) (.tuple ds)
  | lst {es ds a} : Lits es ds → decide (es.length ≤ 1000) = true → Lit (.List es a) (.list ds)
inductive Lits : List Expr → List PyData → Prop
  | nil : Lits [] []
  | cons {e d es ds} : Lit e d → Lits es ds → Lits (e :: es) (d :: ds)
end
theorem Lits.len : ∀ {es : List Expr} {ds : List PyData}, Lits es ds → ds.length = es.length
  | _, _, .nil => rfl
  | _, _, .cons _ h => congrArg Nat.succ h.len
theorem star_lit {e : Expr} {d : PyData} (h : Lit e d) : ns e = true := by cases h <;> rfl
variable {X : Cx} {σ : L2.St} {G : Gb} {N : List Str} {sc : Scope} {k : Nat} {Fm : Hp → Hp → Prop}
mutual
theorem we_lit (F : Frm Fm) : ∀ {e : Expr} {d : PyData} (_ : Lit e d) {H0 H : Hp} {Q : VK}, Fm H0 H → (∀ v H0' H', Same H0 H0' → Fm H0' H' → Dp G.K H0' v d → Q v H') → WE X e σ H Q
  | _, _, .non, _, _, _, f, q => we_non (q _ _ _ (Same.refl _) f .non)
  | _, _, .bl, _, _, _, f, q => we_bl (q _ _ _ (Same.refl _) f (.bl _))
  | _, _, .int, _, _, _, f, q => we_int (q _ _ _ (Same.refl _) f (.int _))
  | _, _, .str, _, _, _, f, q => we_str (q _ _ _ (Same.refl _) f (.str _))
  | _, _, .tup hs hl, H0, H, Q, f, q => by
    refine we_tup (wa_lit F hs f fun vs H1' H1 s1 f1 h1 => ⟨?_, fun p hp => ?_⟩)
    · rw [h1.len, hs.len]
      have := of_decide_eq_true hl
      exact len_le (by omega)
    · have n0 := (F.same f1).free hp
      exact q _ _ _ (s1.trans (same_new n0)) (F.laid f1 hp) (.tup (SqT.of upd_same) ((same_new n0).dpAll _ _ h1))
  | _, _, .lst hs hl, H0, H, Q, f, q => by
    refine we_lst (wa_lit F hs f fun vs H1' H1 s1 f1 h1 => ⟨?_, fun p hp => ?_⟩)
    · rw [h1.len, hs.len]
      have := of_decide_eq_true hl
      exact len_le (by omega)
    · have n0 := (F.same f1).free hp
      exact q _ _ _ (s1.trans (same_new n0)) (F.laid f1 hp) (.lst (SqL.of upd_same) ((same_new n0).dpAll _ _ h1))
theorem wa_lit (F : Frm Fm) : ∀ {es : List Expr} {ds : List PyData} (_ : Lits es ds) {H0 H : Hp} {Q : List V → Hp → Prop}, Fm H0 H → (∀ vs H0' H', Same H0 H0' → Fm H0' H' → DpAll G.K H0' vs ds → Q vs H') → WA X es σ H Q
  | _, _, .nil, _, _, _, f, q => wa_nil (q _ _ _ (Same.refl _) f .nil)
  | _, _, .cons h hs, H0, H, Q, f, q =>
    wa_cons (star_lit h) (we_lit F h f fun v H1' H1 s1 f1 d1 => wa_lit F hs f1 fun vs H2' H2 s2 f2 d2 => q _ _ _ (s1.trans s2) f2 (.cons (s2.dp _ _ d1) d2))
end
/-- a tracked object of the frame changes -/
theorem _root_.Wx.DrawAt.put {H0 H : Hp} {d p : Addr} {B : Nat} {o o' : HO} (h : DrawAt H0 H d B) (hp : H0 p = some o) : DrawAt (upd H0 p o') (upd H p o') d B := by
  obtain ⟨s, n, aw, ac, ws, cs, r, t, n1, n2, I⟩ := h
  have e1 : d ≠ p := fun q => by rw [q, hp] at n; cases n
  have e2 : aw ≠ p := fun q => by rw [q, hp] at n1; cases n1
  have e3 : ac ≠ p := fun q => by rw [q, hp] at n2; cases n2
  refine ⟨fun b u q => ?_, by rw [upd_ne e1]; exact n, aw, ac, ws, cs, r, t, by rw [upd_ne e2]; exact n1, by rw [upd_ne e3]; exact n2, ⟨by rw [upd_ne e1]; exact I.hd, by rw [upd_ne e2]; exact I.hw, by rw [upd_ne e3]; exact I.hc, I.t0, I.tB, I.cB, I.wl, I.ne⟩⟩
  by_cases e : b = p
  · subst e
    rw [upd_same] at q ⊢
    exact q
  · rw [upd_ne e] at q ⊢
    exact s b u q
theorem at_last {α : Type} {xs : List α} {x : α} (h : xs.getLast? = some x) : atI xs (-1) = some x := by
  obtain ⟨ys, rfl⟩ := List.getLast?_eq_some_iff.mp h
  exact atI_last ys x
theorem we_newD {Q : VK} {H : Hp} {pos : Pos} (h : ∀ p, H p = none → Q (.ref p) (upd H p (.dK []))) : WE X (.Dict [] [] pos) σ H Q := we_of pe_dnewK h
end Wx

namespace Wx
open PySem L2
variable {X : Cx} {σ : L2.St} {H : Hp} {Q : VK} {G : Gb} {N : List Str} {sc : Scope} {k : Nat} {e1 e2 : Expr}
/-- list(range(a, b)) -/
theorem we_listRg (d : Def X G N sc k) (b : Bi G.mg) {p rp rp2 pos : Pos} (hg : glB sc "list" = true) (hr : glB sc "range" = true) (h1 : ns e1 = true) (h2 : ns e2 = true)
    (h : WE X e1 σ H fun x H1 => WE X e2 σ H1 fun y H2 => ∃ i j : Int, x = .int i ∧ y = .int j ∧ RgOk i j ∧ ∀ q, H2 q = none → Q (.ref q) (upd H2 q (.lst (rgV i j)))) :
    WE X (.Call (.Name "list" p) [.Call (.Name "range" rp) [e1, e2] [] rp2] [] pos) σ H Q := by
  refine we_of (pe_listRg d.calm (d.gl hg) (by rw [d.mg]; exact b.b_list) (prg_2 (d.gl hr) (by rw [d.mg]; exact b.b_range) pe_we pe_we (star_ns h1) (star_ns h2) ?_)) h
  rw [star_ns h2]
  rfl
theorem ne_self {α : Type} [DecidableEq α] {x : α} : (!decide (x = x)) = false := by rw [decide_eq_true rfl]; rfl
theorem inV_noB (bs : List Bool) : inV (.bl false) (bs.map V.bl) = bs.any (!·) := by
  unfold inV
  rw [List.any_map]
  congr 1
  funext b
  cases b <;> rfl
end Wx

/-! Defs that keep their promise where no repr is under way. -/
namespace Wx
open PySem L2
section
variable {X : Cx} {e : Expr} {es : List Expr} {σ : L2.St} {H : Hp} {Q : VK} {pos p : Pos} {x : Str} {G : Gb} {N : List Str} {sc : Scope} {k : Nat} {W : WX}
structure FnG (P : Program) (w : World) (K : PySem.W.Frag) (mg : Str → Option Value) (base : Heap) (k : Nat) (f : Addr) (fd : FuncData) (ps : List Str) (sp : Sp) : Prop where
  len : ∀ vs H Q E, sp vs H Q E → vs.length = ps.length
  run : ∀ (A : Around) (outer : List Env) (s : Shared) (H : Hp) (args : Args) (us : List Value) (vs : List V) (Q : VK) (E : XK), Room k A → A.guards = some [] → Env0 P w K mg base A outer s H →
    BindsTo s fd args (ps.zip us) → Vals vs us → sp vs H Q E → codeAny (model P w) A (.call (.ref f) args) (CR (L2.CX P w) outer P w H s Q E) s
theorem FnG.of {P : Program} {w : World} {K : PySem.W.Frag} {mg : Str → Option Value} {base : Heap} {f : Addr} {fd : FuncData} {ps : List Str} {sp : Sp} (F : FnOk P w K mg base (L2.CX P w) k f fd ps sp) : FnG P w K mg base k f fd ps sp :=
  ⟨F.len, fun A outer s H args us vs Q E hr _ => F.run A outer s H args us vs Q E hr⟩
/-- such a def of the text at the module's name x -/
structure FnR (G : Gb) (x : Str) (n k : Nat) (sp : Sp) : Prop where
  is : ∃ (f : Addr) (fd : FuncData) (ps : List Str), G.mg x = some (.ref f) ∧ PySem.W.keepIn G.K (.ref f) = true ∧ FnG G.prog G.w G.K G.mg G.base k f fd ps sp ∧ Binds G.K fd ps [] ∧ ps.length = n ∧ ps = fd.params.args.map (·.arg) ∧ ∃ st, Fun G.K x x st f fd
/-- the callee's end, seen from the caller -/
theorem after_call {pins : List (Addr × Obj)} {s : Shared} {E : XK} {code : Code} (hx : PassesAt (L2.CX X.prog X.w) X σ E) (I : Inv X pins σ H s) (h : codeAny (model X.prog X.w) X.A code (CR (L2.CX X.prog X.w) X.stack X.prog X.w H s Q E) s) :
    codeAny (model X.prog X.w) X.A code (fun r s' => match r with | .ok (.ret u) => EP X pins σ Q u s' | .ok _ => False | .error e => X.xe e s') s := by
  refine codeAny_mono h fun r s' q => ?_
  rcases r with e | fl
  · exact hx pins H s e s' I q
  · cases fl <;> first | exact I.after q | exact q
theorem run_g {pins : List (Addr × Obj)} {s : Shared} {E : XK} {j : Nat} {f : Addr} {fd : FuncData} {ps : List Str} {sp : Sp} {us : List Value} {kw : List (Str × Value)} {vs : List V} {ws : List Value} (d : Def X G N sc k) (gd : X.A.guards = some []) (F : FnG G.prog G.w G.K G.mg G.base j f fd ps sp) (hj : j ≤ k)
    (hx : PassesAt (L2.CX X.prog X.w) X σ E) (I : Inv X pins σ H s) (hb : BindsTo s fd ⟨us, kw⟩ (ps.zip ws)) (r : Vals vs ws) (h : sp vs H Q E) :
    wpAny (model X.prog X.w) X.A (call (.ref f) us kw) (EP X pins σ Q) X.xe s := by
  have e0 := I.env0
  have z : codeAny (model X.prog X.w) X.A (.call (.ref f) ⟨us, kw⟩) (CR (L2.CX X.prog X.w) X.stack X.prog X.w H s Q E) s := by
    rw [d.prog, d.w] at e0 ⊢
    rw [d.K, d.mg, d.base] at e0
    exact F.run X.A X.stack s H ⟨us, kw⟩ ws vs Q E (d.room.mono hj) gd e0 hb r h
  refine wpAny_call (codeAny_mono (after_call hx I z) fun r s' q => ?_)
  rcases r with e | fl
  · exact q
  · cases fl <;> first | exact q | exact q.elim
theorem we_callRP {E : XK} (d : Def X G N sc k) (gd : X.A.guards = some []) {n j : Nat} {sp : Sp} (F : FnR G x n j sp) (hj : j ≤ k) (hg : glB sc x = true) (hx : PassesAt (L2.CX G.prog G.w) X σ E)
    (he : ns e = true) (hpl : nss es = true) (h : WA X (e :: es) σ H fun vs H1 => sp vs H1 Q E) (hdb : (x == ("__debug__" : Str)) = false := by decide +kernel) :
    WE X (.Call (.Name x p) (e :: es) [] pos) σ H Q := by
  obtain ⟨f, fd, ps, h1, h2, h3, h4, _⟩ := F.is
  rw [← d.prog, ← d.w] at hx
  intro pins s I
  refine wpAny_Call_Name_kw (ld_glob I (d.gl hg) (by rw [d.mg]; exact h1) ?_ hdb)
  refine PySem.W.callWith_K (h₀ := X.base) I.ok.mod.kin (by rw [d.K]; exact h2) (thn (h pos pins s I) fun us s1 ⟨vs, H1, I1, r, q⟩ => ⟨I1.kIn, ?_⟩) (star_ns he) (hpl_ns hpl)
  have hl : us.length = ps.length := by rw [← r.length]; exact h3.len _ _ _ _ q
  have hk : G.K.In s1.heap := by rw [← d.K]; exact I1.kIn
  have hb := h4 s1 us hk (by rw [List.append_nil]; exact hl)
  rw [List.append_nil] at hb
  exact run_g d gd h3 hj hx I1 hb r q
theorem we_callR (d : Def X G N sc k) (gd : X.A.guards = some []) {n j : Nat} {sp : Sp} (F : FnR G x n j sp) (hj : j ≤ k) (hg : glB sc x = true)
    (he : ns e = true) (hpl : nss es = true) (h : WA X (e :: es) σ H fun vs H1 => sp vs H1 Q E0) (hdb : (x == ("__debug__" : Str)) = false := by decide +kernel) :
    WE X (.Call (.Name x p) (e :: es) [] pos) σ H Q := we_callRP d gd F hj hg (fun pins H s e s' I q => (by rw [← d.prog, ← d.w] at q; exact passL pins σ H s e s' I q)) he hpl h hdb
end
/-- a def's promise by the body's wish at the parameters' values; no repr is under way; the def's own code and name besides -/
theorem fn_byG {G : Gb} {x qual : Str} {st : Stmt} {f : Addr} {fd : FuncData} {N ps : List Str} {k : Nat} {sp : Sp} (F : Fun G.K x qual st f fd) (S : FnScope N ps (defScope st)) (len : ∀ vs H Q E, sp vs H Q E → vs.length = ps.length)
    (body : ∀ (X : Cx) (vs : List V) (H : Hp) (Q : VK) (E : XK), Fr X G N (defScope st) k (fun c o _ H' => E c o H') → X.A.guards = some [] → X.env.qual = qual ++ ".<locals>." → X.env.code = fd.code → sp vs H Q E → WB X (defBody st) { nx := fun _ H' => Q .non H', rt := Q } (start N vs) H) :
    FnG G.prog G.w G.K G.mg G.base (k + 1) f fd ps sp := by
  obtain ⟨oc, od, kV, doc, pm, an, cdv, ct, osl, rfl, lk, hcd⟩ := F.ex
  refine ⟨len, fun A outer s H args us vs Q E hr hgd he hb r h => ?_⟩
  refine LamX.run_ofS lk hcd S hr he hb r (len _ _ _ _ h) fun hr2 => ⟨_, pss_wb, body _ vs H Q E ?_ hgd rfl rfl h⟩
  exact { prog := rfl, w := rfl, K := rfl, mg := rfl, base := rfl, n := rfl, sc := rfl, nd := S.nd, calm := rfl, room := hr2, fn := fun _ => rfl, own := passes_of rfl, tk := takes_of rfl rfl rfl rfl, stk := rfl, frm := rfl, ex := rfl }
/-- .. and where a repr may be under way -/
theorem fn_byQ {G : Gb} {x qual : Str} {st : Stmt} {f : Addr} {fd : FuncData} {N ps : List Str} {k : Nat} {sp : Sp} (F : Fun G.K x qual st f fd) (S : FnScope N ps (defScope st)) (len : ∀ vs H Q E, sp vs H Q E → vs.length = ps.length)
    (body : ∀ (X : Cx) (vs : List V) (H : Hp) (Q : VK) (E : XK), Fr X G N (defScope st) k (fun c o _ H' => E c o H') → X.env.qual = qual ++ ".<locals>." → X.env.code = fd.code → sp vs H Q E → WB X (defBody st) { nx := fun _ H' => Q .non H', rt := Q } (start N vs) H) :
    FnOk G.prog G.w G.K G.mg G.base (L2.CX G.prog G.w) (k + 1) f fd ps sp := by
  obtain ⟨oc, od, kV, doc, pm, an, cdv, ct, osl, rfl, lk, hcd⟩ := F.ex
  refine ⟨len, fun A outer s H args us vs Q E hr he hb r h => ?_⟩
  refine LamX.run_ofS lk hcd S hr he hb r (len _ _ _ _ h) fun hr2 => ⟨_, pss_wb, body _ vs H Q E ?_ rfl rfl h⟩
  exact { prog := rfl, w := rfl, K := rfl, mg := rfl, base := rfl, n := rfl, sc := rfl, nd := S.nd, calm := rfl, room := hr2, fn := fun _ => rfl, own := passes_of rfl, tk := takes_of rfl rfl rfl rfl, stk := rfl, frm := rfl, ex := rfl }
theorem Top.fnR {G : Gb} {x : Str} {st : Stmt} {N ps : List Str} {k : Nat} {sp : Sp} (T : Top G x st ps) (S : FnScope N ps (defScope st)) (len : ∀ vs H Q E, sp vs H Q E → vs.length = ps.length)
    (body : ∀ (X : Cx) (vs : List V) (H : Hp) (Q : VK) (E : XK), Fr X G N (defScope st) k (fun c o _ H' => E c o H') → X.A.guards = some [] → sp vs H Q E → WB X (defBody st) { nx := fun _ H' => Q .non H', rt := Q } (start N vs) H) :
    FnR G x ps.length (k + 1) sp := by
  obtain ⟨f, fd, h, F, b⟩ := T.is
  exact ⟨f, fd, ps, h, F.kp, fn_byG F S len fun X vs H Q E d g _ _ q => body X vs H Q E d g q, b, rfl, T.names F, _, F⟩
/-- a def whose code object is known to stand at c -/
theorem Top.fnQ {G : Gb} {x : Str} {st : Stmt} {N ps : List Str} {k : Nat} {sp : Sp} {c : Addr} (T : Top G x st ps) (hc : ∀ (f : Addr) (fd : FuncData), G.mg x = some (.ref f) → Fun G.K x x st f fd → fd.code = .ref c) (S : FnScope N ps (defScope st)) (len : ∀ vs H Q E, sp vs H Q E → vs.length = ps.length)
    (body : ∀ (X : Cx) (vs : List V) (H : Hp) (Q : VK) (E : XK), Fr X G N (defScope st) k (fun c o _ H' => E c o H') → X.env.qual = x ++ ".<locals>." → X.env.code = .ref c → sp vs H Q E → WB X (defBody st) { nx := fun _ H' => Q .non H', rt := Q } (start N vs) H) :
    Fn G x ps.length (k + 1) sp := by
  obtain ⟨f, fd, h, F, b⟩ := T.is
  exact ⟨f, fd, ps, h, F.kp, fn_byQ F S len fun X vs H Q E d g1 g2 q => body X vs H Q E d g1 (by rw [g2]; exact hc f fd h F) q, b, rfl, T.names F, _, F⟩
end Wx

/-! The end of a law: its promise at the heap behind the top, no repr under way, the code tables of the defs that make lambdas told. -/
namespace Wx
open PySem PySem.Spec PyProof.Rows L2 LamX
/-- what is told first: the tables' places, the script unless it is the text's own -/
def firstH (Ts : List Addr) (a : Addr) (so : Option HO) : Hp := fun b => if b ∈ Ts then some (.tbl #[]) else if b = a then so else none
theorem firstH_tab {Ts : List Addr} {a : Addr} {so : Option HO} {b : Addr} (h : b ∈ Ts) : firstH Ts a so b = some (.tbl #[]) := by
  unfold firstH
  exact if_pos h
theorem firstH_at {Ts : List Addr} {a : Addr} {so : Option HO} (h : a ∉ Ts) : firstH Ts a so a = so := by
  unfold firstH
  rw [if_neg h, if_pos rfl]
theorem firstH_off {Ts : List Addr} {a b : Addr} {so : Option HO} (h : b ∉ Ts) (n : b ≠ a) : firstH Ts a so b = none := by
  unfold firstH
  rw [if_neg h, if_neg n]
theorem firstH_some {Ts : List Addr} {a b : Addr} {so : Option HO} {u : HO} (e : firstH Ts a so b = some u) : (b ∈ Ts ∧ u = .tbl #[]) ∨ (b ∉ Ts ∧ b = a ∧ so = some u) := by
  unfold firstH at e
  by_cases h : b ∈ Ts
  · rw [if_pos h] at e
    exact .inl ⟨h, (Option.some.inj e).symm⟩
  · rw [if_neg h] at e
    by_cases n : b = a
    · rw [if_pos n] at e
      exact .inr ⟨h, n, e⟩
    · rw [if_neg n] at e
      cases e
section
variable {P : Program} {w : World} {K : PySem.W.Frag} {mg mb : Str → Option Value} {k : Nat} {fa a : Addr} {cs : List (Addr × Addr)} {fd : FuncData} {x : Str} {sp : Sp} {s₁ : Shared} {vs : List Value} {ns : List Int}
/-- the script's list object -/
abbrev scriptObj (vs : List Value) : Obj := { cls := .type "list", data := .seq vs.toArray }
abbrev emptyTab : Obj := { cls := .none, data := .fields #[] }
theorem law_run (KX : K.In s₁.heap) (hns : s₁.heap.Ns mainGlobals mg) (hb : s₁.heap.Ns builtinsNs mb) (hbb : ∀ y : Str, y ≠ "__name__" → mb y = bootBuiltins y) (hlim : s₁.heap.NoLimit) (hg : s₁.gens = #[])
    (hT : ∀ p ∈ cs, s₁.heap.get? p.2 = some emptyTab) (nT : ∀ p ∈ cs, K.lookup p.2 = none) (C : ∀ p ∈ cs, PySem.W.CodeHd s₁.heap p.1 p.2)
    (hbm : ∃ (bm : Addr) (ob : Obj), mg "__builtins__" = some (.ref bm) ∧ bm ≠ builtinsNs ∧ s₁.heap.get? bm = some ob ∧ ob.cls = .type "module" ∧ ob.dict = some builtinsNs ∧ ob.data = .plain)
    (ha : s₁.heap.get? a = some (scriptObj vs)) (hi : IntsAre vs ns) (hl : ns.length ≤ sizeLine) (hr : Room k callerA)
    (F : ∀ base : Heap, K.In base → base.Ns mainGlobals mg → (∀ p ∈ cs, TabB base mg p.1 p.2) → FnG P w K mg base k fa fd [x] sp) (hbind : ∀ (s : Shared) (u : Value), BindsTo s fd ⟨[u], []⟩ [(x, u)])
    (hsp : ∀ H : Hp, (∀ p ∈ cs, H p.2 = some (.tbl #[])) → SqL K H a (ns.map V.int) → sp [.ref a] H (fun v _ => v = .bl true) fun _ _ _ => False)
    (hCX : ∀ H e s', L2.CX P w [] H s₁ (fun _ _ _ => False) e s' → False) :
    codeAny (model P w) callerA (.call (.ref fa) ⟨[.ref a], []⟩) (fun r s' => r = .ok (.ret (.bool true)) ∧ OldK s₁.heap s'.heap ∧ s'.os = s₁.os ∧ AllBare s'.gens) s₁ := by
  have rv := vals_ints hi
  have isT : ∀ b : Addr, b ∈ cs.map (·.2) → s₁.heap.get? b = some emptyTab := fun b hb => by
    obtain ⟨p, hp, rfl⟩ := List.mem_map.mp hb
    exact hT p hp
  have inT : ∀ p ∈ cs, p.2 ∈ cs.map (·.2) := fun p hp => List.mem_map.mpr ⟨p, hp, rfl⟩
  have aT : a ∉ cs.map (·.2) := fun z => by
    have q := (isT a z).symm.trans ha
    have q := congrArg (fun o : Option Obj => o.map (·.cls)) q
    cases q
  -- the script, told or the text's own
  obtain ⟨so, hso⟩ : ∃ so : Option HO, (so = none ∧ ∃ o, K.lookup a = some o) ∨ (so = some (.frz (scriptObj vs) (.lst (ns.map V.int))) ∧ K.lookup a = none) := by
    cases q : K.lookup a with
    | some o => exact ⟨none, .inl ⟨rfl, o, rfl⟩⟩
    | none => exact ⟨_, .inr ⟨rfl, rfl⟩⟩
  have hsoK : so ≠ none → K.lookup a = none := fun n => by
    rcases hso with ⟨e, _⟩ | ⟨_, e⟩
    · exact absurd e n
    · exact e
  have hsoV : ∀ u, so = some u → u = .frz (scriptObj vs) (.lst (ns.map V.int)) := fun u e => by
    rcases hso with ⟨e2, _⟩ | ⟨e2, _⟩
    · rw [e2] at e; cases e
    · rw [e2] at e; exact (Option.some.inj e).symm
  have hH : ∀ p ∈ cs, firstH (cs.map (·.2)) a so p.2 = some (.tbl #[]) := fun p hp => firstH_tab (inT p hp)
  have hS : SqL K (firstH (cs.map (·.2)) a so) a (ns.map V.int) := by
    rcases hso with ⟨e, o, q⟩ | ⟨e, _⟩
    · have e2 := KX a o q
      rw [ha] at e2
      cases e2
      exact .inr ⟨_, vs.toArray, _, q, rfl, rfl, rfl, by rw [List.size_toArray, hi.length]; exact hl, by simpa using rv⟩
    · exact .inl (.inr ⟨scriptObj vs, by rw [firstH_at aT]; exact e⟩)
  have hok : HOk P w (firstH (cs.map (·.2)) a so) s₁.heap := fun b u e => by
    rcases firstH_some e with ⟨m, rfl⟩ | ⟨_, rfl, e2⟩
    · exact isT b m
    · rw [hsoV u e2]
      exact ⟨ha, by rw [List.length_map]; exact hl, vs, _, rv, ha⟩
  -- what is no list and no table is not told
  have free : ∀ {b : Addr} {o : Obj}, s₁.heap.get? b = some o → o ≠ emptyTab → o ≠ scriptObj vs → firstH (cs.map (·.2)) a so b = none := fun {b o} e n1 n2 => by
    cases q : firstH (cs.map (·.2)) a so b with
    | none => rfl
    | some u =>
      rcases firstH_some q with ⟨m, _⟩ | ⟨_, rfl, _⟩
      · exact absurd (Option.some.inj (e.symm.trans (isT b m))) n1
      · exact absurd (Option.some.inj (e.symm.trans ha)) n2
  have up : ∀ {b : Addr} {o : Obj}, s₁.heap.get? b = some o → o ≠ emptyTab → o ≠ scriptObj vs → (hidT s₁.heap (firstH (cs.map (·.2)) a so)).get? b = some o := fun e n1 n2 => hidT_get e (free e n1 n2)
  have upNs : ∀ {b : Addr} {m : Str → Option Value}, s₁.heap.Ns b m → (hidT s₁.heap (firstH (cs.map (·.2)) a so)).Ns b m := fun {b m} ⟨o, es, ep, e, d, r⟩ =>
    ⟨o, es, ep, up e (fun z => by rw [z] at d; cases d) (fun z => by rw [z] at d; cases d), d, r⟩
  have KB : K.In (hidT s₁.heap (firstH (cs.map (·.2)) a so)) := fun b o e => by
    refine hidT_get (KX b o e) ?_
    cases q : firstH (cs.map (·.2)) a so b with
    | none => rfl
    | some u =>
      rcases firstH_some q with ⟨m, _⟩ | ⟨_, rfl, e2⟩
      · obtain ⟨p, hp, rfl⟩ := List.mem_map.mp m
        rw [nT p hp] at e
        cases e
      · rw [hsoK (by rw [e2]; simp)] at e
        cases e
  have MB : L2.Mod K mg (hidT s₁.heap (firstH (cs.map (·.2)) a so)) := ⟨KB, upNs hns, ⟨mb, upNs hb, hbb⟩, (hlim : ∃ _, _).elim fun mc h => ⟨mc, upNs h.1, h.2⟩⟩
  have TB : ∀ p ∈ cs, TabB (hidT s₁.heap (firstH (cs.map (·.2)) a so)) mg p.1 p.2 := fun p hp => by
    refine ⟨?_, ?_, fun z => ?_⟩
    · obtain ⟨o, us, file, tf, flags, tg, inF, text, tt, e1, r1, r2, rest⟩ := C p hp
      exact ⟨o, us, file, tf, flags, tg, inF, text, tt, up e1 (fun z => by rw [z] at r1; cases r1) (fun z => by rw [z] at r2; cases r2), r1, r2, rest⟩
    · obtain ⟨bm, ob, b1, b2, b3, b4, b5, b6⟩ := hbm
      refine ⟨bm, ob, b1, b2, fun q => ?_, fun q => ?_, up b3 (fun z => by rw [z] at b4; cases b4) (fun z => by rw [z] at b6; cases b6), b4, b5, b6⟩
      · obtain ⟨o, es, ep, e, hd, _⟩ := hns
        rw [← q, b3] at e
        cases e
        rw [hd] at b6
        cases b6
      · rw [q, hT p hp] at b3
        cases b3
        cases b6
    · obtain ⟨o, es, ep, e, hd, _⟩ := hns
      rw [z, hT p hp] at e
      cases e
      cases hd
  have e0 : Env0 P w K mg (hidT s₁.heap (firstH (cs.map (·.2)) a so)) callerA [] s₁ (firstH (cs.map (·.2)) a so) :=
    ⟨rfl, MB, fun b o e => of_hidT e, Nat.le_of_eq (hidT_size _ _), trivial, fun b hb => absurd (show b ∈ ([] : List Addr) from hb) (by simp), hok, .of_eq hg⟩
  refine codeAny_mono ((F _ KB (upNs hns) TB).run callerA [] s₁ _ ⟨[.ref a], []⟩ [.ref a] [.ref a] _ _ hr rfl e0 (hbind s₁ (.ref a)) (.cons rfl .nil) (hsp _ hH hS)) fun r s' h => ?_
  rcases r with e | fl
  · exact (hCX _ e s' h).elim
  cases fl with
  | next => exact h.elim
  | brk => exact h.elim
  | cont => exact h.elim
  | ret u =>
    obtain ⟨v, H', os, bare, un, hok', r', q⟩ := h
    cases (show v = .bl true from q)
    cases (show u = Value.bool true from r')
    have same : ∀ b o, b ∉ cs.map (·.2) → s₁.heap.get? b = some o → s'.heap.get? b = some o := fun b o nb e => by
      cases q : firstH (cs.map (·.2)) a so b with
      | none => exact un.keep b o e q (fun z => absurd (show b ∈ ([] : List Addr) from z) (by simp)) (by simp)
      | some u =>
        rcases firstH_some q with ⟨m, _⟩ | ⟨_, _, e2⟩
        · exact absurd m nb
        · rw [hsoV u e2] at q
          have z2 := (hok' b _ (un.frzs b _ _ q)).1
          have z1 := (hok b _ q).1
          rw [e] at z1
          cases z1
          exact z2
    have more : ∀ p ∈ cs, ∃ m : Array Value, s'.heap.get? p.2 = some { cls := .none, data := .fields m } := fun p hp => by
      obtain ⟨m, z⟩ := un.tbls p.2 #[] (hH p hp)
      exact ⟨_, hok' p.2 _ z⟩
    refine ⟨rfl, ⟨fun b o e => ?_, fun b o e => ?_⟩, os, bare⟩
    · by_cases hb : b ∈ cs.map (·.2)
      · obtain ⟨p, hp, rfl⟩ := List.mem_map.mp hb
        obtain ⟨m, hm⟩ := more p hp
        rw [hT p hp] at e
        cases e
        exact .inr (.inl ⟨((C p hp).tab (hT p hp)).isCodeTable, rfl, #[], m, rfl, by rw [Array.empty_append]; exact hm⟩)
      · exact .inl (same b o hb e)
    · by_cases hb : b ∈ cs.map (·.2)
      · obtain ⟨p, hp, rfl⟩ := List.mem_map.mp hb
        obtain ⟨m, hm⟩ := more p hp
        exact ⟨_, hm⟩
      · exact ⟨o, same b o hb e⟩
end
end Wx

/-! Lambdas without parameters, handed to a def that calls them within a try and hands back what was caught. -/
namespace Wx
open PySem L2 LamX
/-- what the text's top has left of the code of a def that makes lambdas: its code object at c, the table at P -/
structure LamAt (K : PySem.W.Frag) (x : Str) (c P : Addr) : Prop where
  is : ∃ (f : Addr) (o : Obj) (fd : FuncData) (e : Value) (dd : Option Addr) (vs : Array Value) (sl : Array (Option Value)), PySem.W.nsIn K mainGlobals x = some (some (.ref f)) ∧ K.lookup f = some o ∧ o.data = .func fd ∧ fd.code = .ref c ∧ K.lookup c = some ⟨e, dd, .fields vs, sl⟩ ∧ vs[11]? = some (.ref P)
  hd : PySem.W.codeHdIn K c P = true
  nP : K.lookup P = none
theorem lamAt_mk {K : PySem.W.Frag} {x : Str} {f c P : Addr} {o : Obj} {fd : FuncData} {e : Value} {dd : Option Addr} {vs : Array Value} {sl : Array (Option Value)} (h1 : PySem.W.nsIn K mainGlobals x = some (some (.ref f))) (h2 : K.lookup f = some o) (h3 : o.data = .func fd) (h4 : fd.code = .ref c)
    (h5 : K.lookup c = some ⟨e, dd, .fields vs, sl⟩) (h6 : vs[11]? = some (.ref P)) (h7 : PySem.W.codeHdIn K c P = true) (h8 : K.lookup P = none) : LamAt K x c P := ⟨⟨f, o, fd, e, dd, vs, sl, h1, h2, h3, h4, h5, h6⟩, h7, h8⟩
theorem LamAt.tab {K : PySem.W.Frag} {x : Str} {c P : Addr} {q : Program} {loose : List Str} {mean : ExcName → Option Value} {mg mb : Str → Option Value} {h : Heap} (L : LamAt K x c P) (X : K.In h) (T : PyProof.Rows.Top q loose mean mg mb h)
    (hrec : ((PyProof.Rows.recsOf q).any fun e => e.name == x) = true) : h.get? P = some emptyTab := by
  obtain ⟨⟨f, o, fd, e, dd, vs, sl, h1, h2, h3, h4, h5, h6⟩, _, _⟩ := L
  obtain ⟨dL, hm, hn⟩ := List.any_eq_true.mp hrec
  obtain ⟨f', o', fd', c', P', a1, a2, a3, a4, a5, a6⟩ := T.tab dL hm
  rw [beq_iff_eq.mp hn, PySem.W.mg_of X T.g h1] at a1
  cases a1
  rw [X _ _ h2] at a2
  cases a2
  rw [h3] at a3
  cases a3
  rw [h4] at a4
  cases a4
  obtain ⟨⟨oc, vc, e1, _, e3, e4⟩, hP⟩ := a6
  rw [X _ _ h5] at e1
  cases e1
  cases e3
  rw [h6] at e4
  cases e4
  exact hP
/-- the code of the def that stands at x -/
theorem LamAt.code {G : Gb} {x : Str} {c P : Addr} {st : Stmt} {f : Addr} {fd : FuncData} {h : Heap} (L : LamAt G.K x c P) (X : G.K.In h) (M : h.Ns mainGlobals G.mg) (hf : G.mg x = some (.ref f)) (F : Fun G.K x x st f fd) : fd.code = .ref c := by
  obtain ⟨⟨f', o, fd', e, dd, vs, sl, h1, h2, h3, h4, h5, h6⟩, _, _⟩ := L
  rw [PySem.W.mg_of X M h1] at hf
  cases hf
  obtain ⟨_, _, _, _, _, _, _, _, _, _, l, _⟩ := F.ex
  rw [h2] at l
  cases l
  cases h3
  exact h4
/-- the def that calls what it got within a try: what was caught, or None -/
def tCaught (K : PySem.W.Frag) (S : Addr) (tl : XK → Hp → VK → Prop) (H : Hp) (Q : VK) : Prop :=
  tl (fun cls d H' => PySem.W.exmOne K cls (.ref S) = some true ∧ ∀ a, H' a = none → Q (.ref a) (upd H' a (ExV a cls d))) H fun _ H' => Q .non H'
variable {X : Cx} {G : Gb} {N : List Str} {sc scope : Scope} {k : Nat} {σ : L2.St} {H : Hp} {Q : VK}
theorem cellB_of {x : Str} (h : locB sc x = true) : cellB sc x = true := by
  unfold cellB
  rw [loc_of h]
theorem visB_of {x : Str} (h : locB sc x = true) : visB sc x = true := by
  unfold visB
  rw [loc_of h]
/-- the slots are as many as the names -/
theorem wb_len {sts : List Stmt} {D : Ends} (d : Def X G N sc k) (h : σ.length = N.length → WB X sts D σ H) : WB X sts D σ H := fun pins s I => h (by rw [I.len, d.n]) pins s I
theorem caught_gives {Ng : List Str} {x q a y e n : Str} {sg : Scope} {g S : Addr} {cdg : Value} {yp yp2 np2 np p1 p2 p3 p5 p6 p7 p8 pa ap pc : Pos} {j0} (d : Def X G N sc (k + 1)) (nd : Ng.Nodup) (hN : Ng = [a, y, n]) (ha : cellB sg a = true) (hy : locB sg y = true) (hn : locB sg n = true) (he : glB sg e = true)
    (gS : G.mg e = some (.ref S)) (hdb : (e == ("__debug__" : Str)) = false := by decide +kernel) (hn1 : (n == ("__debug__" : Str)) = false := by decide +kernel) (hn2 : (n == ("__classdict__" : Str)) = false := by decide +kernel) (hy1 : (y == ("__debug__" : Str)) = false := by decide +kernel) (hy2 : (y == ("__classdict__" : Str)) = false := by decide +kernel) :
    GivesTo X Ng x sg g cdg [.Assign [.Name y yp] (.Constant .none j0 pc) pa, .Try [.Expr (.Call (.Name a p1) [] [] p2) p3] [.ExceptHandler (some (.Name e np)) (some n) [.Assign [.Name y yp2] (.Name n np2) ap] p5] [] [] p6, .Return (some (.Name y p7)) p8] a q (tCaught G.K S) := by
  intro f c' s H Q tl act hc h
  subst hN
  refine ⟨_, pss_wb, ?_⟩
  have fr : Fr (cxOf C8.CX0 X.prog X.w X.K X.mg X.base [a, y, n] x sg g cdg X.A X.stack s H C8.E0).nox G [a, y, n] sg k (fun _ _ _ _ => False) :=
    { prog := d.prog, w := d.w, K := d.K, mg := d.mg, base := d.base, n := rfl, sc := rfl, nd := nd, calm := rfl, room := d.room.deeper _, fn := fun _ => rfl, own := PassesOwn.never, tk := L2.takes0, stk := rfl, frm := rfl, ex := rfl }
  show WB _ _ _ [some (.ref f), none, none] H
  refine wb_cons ?_
  refine ws_s1 fr (cellB_of hy) (by with_unfolding_all rfl) ?_
  refine we_non ?_
  refine wb_cons ?_
  refine ws_tryVt fr 2 1 rfl rfl (loc_of hn) (.inl (loc_of hy)) he gS (fun pn xe fr2 => ?_) hdb hn1 hn2
  refine wb_one (ws_expr rfl ?_)
  refine we_mono (fun _ H1 q => ?_) (we_of (act _ pn xe _ p1 p2 fr2.tk (fun cls d σ' H' q => ⟨q.1, fun b hb => ?_⟩)) (Q := fun _ H' => Q .non H') ⟨rfl, hc, h⟩)
  · refine wb_one (ws_ret ?_)
    exact we_n1 fr.toDef (visB_of hy) q hy1 hy2
  · refine wb_len fr.toDef fun hl => ?_
    rw [List.length_set, List.length_set, List.length_set] at hl
    match σ', hl with
    | [s0, s1, s2], _ =>
      refine wb_one (ws_ret ?_)
      exact we_n1 fr.toDef (visB_of hy) (q.2 b hb) hy1 hy2
/-- x(lambda: body), x such a def: what the body gives goes by, what it raises is caught -/
theorem we_lam {T : List (Addr × Str)} {x a y e n q : Str} {st : Stmt} {Ng : List Str} {c P S : Addr} {params : Arguments} {body : Expr} {p lpos pos yp yp2 np2 np p1 p2 p3 p5 p6 p7 p8 pa ap pc : Pos} {j0} (d : Def X G N sc (k + 3)) (TC : Top G x st [a]) (Sg : FnScope Ng [a] (defScope st)) (hN : Ng = [a, y, n])
    (hbody : defBody st = [.Assign [.Name y yp] (.Constant .none j0 pc) pa, .Try [.Expr (.Call (.Name a p1) [] [] p2) p3] [.ExceptHandler (some (.Name e np)) (some n) [.Assign [.Name y yp2] (.Name n np2) ap] p5] [] [] p6, .Return (some (.Name y p7)) p8])
    (ha : cellB (defScope st) a = true) (hy : locB (defScope st) y = true) (hn : locB (defScope st) n = true) (he : glB (defScope st) e = true) (gS : G.mg e = some (.ref S))
    (hg : glB sc x = true) (hq : X.env.qual = q) (hcode : X.env.code = .ref c) (TB : TabB G.base G.mg c P) (hmT : (P, q ++ "<lambda>") ∈ T) (hu : ∀ z ∈ T, z.1 = P → z.2 = q ++ "<lambda>") (L : lamSB sc scope = true) (hdef : defaultsOf params X.env = ([], []))
    (hbind : ∀ (q : Str) (cl : List (Str × Addr)) (pm cv ctv : Value), bindArgs (PySem.W.kla_fn "<lambda>" q params body scope cl pm cv ctv) ⟨[], []⟩ = pure [])
    (hT : Tabs T H) (h : ∀ H1, ExtN H H1 → Tabs T H1 → ∀ (X' : Cx) (E : XK), Def X' G N scope k → Passes (L2.CX G.prog G.w) X' E → E = (fun cls d H' => PySem.W.exmOne G.K cls (.ref S) = some true ∧ ∀ a, H' a = none → Q (.ref a) (upd H' a (ExV a cls d))) → WE X' body σ H1 fun _ H' => Q .non H')
    (hxd : (x == ("__debug__" : Str)) = false := by decide +kernel) (had : (a == ("__debug__" : Str)) = false := by decide +kernel) (hac : (a == ("__classdict__" : Str)) = false := by decide +kernel)
    (hdb : (e == ("__debug__" : Str)) = false := by decide +kernel) (hn1 : (n == ("__debug__" : Str)) = false := by decide +kernel) (hn2 : (n == ("__classdict__" : Str)) = false := by decide +kernel) (hy1 : (y == ("__debug__" : Str)) = false := by decide +kernel) (hy2 : (y == ("__classdict__" : Str)) = false := by decide +kernel) :
    WE X (.Call (.Name x p) [.Lambda params body scope lpos] [] pos) σ H Q := by
  obtain ⟨g, fd, hm, F, hb⟩ := TC.is
  have hk := F.kp
  obtain ⟨oc, od, kV, doc, pm, an, cdv, ct, osl, rfl, lk, hcd⟩ := F.ex
  subst hq
  refine we_of (pe_lamcall (T := T) (TT := tCaught G.K S) (k := k) (t := fun E σ H Q => ∀ (X' : Cx), Def X' G N scope k → Passes (L2.CX G.prog G.w) X' E → WE X' body σ H Q) (d.gl hg) (by rw [d.mg]; exact hm) (by rw [d.K]; exact hk) (by rw [d.K]; exact lk) (by rw [d.K]; exact hcd) (by rw [d.K]; exact hb) Sg (by rw [hN]; rfl) (vis_of ?_)
    ?_ (by rw [d.base, d.mg]; exact TB) hcode hmT hu (d.room.mono (by omega)) (lamS_by (by rw [d.sc]; exact L)) hdef hbind (fun A outer s H E f c' hr => ?_) hxd had hac) ⟨hT, fun H1 eN T1 X' d' hp => ?_⟩
  · unfold visB
    unfold cellB at ha
    split at ha <;> first | (rename_i z; rw [z]) | cases ha
  · rw [hbody]
    have d1 : Def X G N sc (k + 1) := ⟨d.prog, d.w, d.K, d.mg, d.base, d.n, d.sc, d.nd, d.calm, d.room.mono (by omega)⟩
    exact caught_gives d1 Sg.nd hN ha hy hn he gS hdb hn1 hn2 hy1 hy2
  · refine ⟨fun pins s' σ H' Q' I q => q (lamCx X A outer s H E scope f c') ⟨d.prog, d.w, d.K, d.mg, d.base, d.n, rfl, d.nd, rfl, hr⟩ ?_ pins s' I⟩
    rw [← d.prog, ← d.w]
    exact passes_call (takes_of rfl rfl rfl rfl) fun _ _ _ _ z => z
  · exact h H1 eN T1 X' _ d' hp rfl
end Wx

/-! Texts, by their signs; repr; further rules by values. -/
namespace Wx
open PySem L2
/-- the text of these signs -/
def tx (l : List Nat) : Str := ⟨l.toArray⟩
@[simp] theorem tx_list (l : List Nat) : (tx l).cps.toList = l := by unfold tx; simp
@[simp] theorem tx_len (l : List Nat) : (tx l).length = l.length := by
  show (tx l).cps.size = _
  unfold tx
  simp
theorem tx_of (z : Str) : tx z.cps.toList = z := by
  obtain ⟨a⟩ := z
  unfold tx
  simp
theorem tx_inj {a b : List Nat} : tx a = tx b ↔ a = b := ⟨fun h => by rw [← tx_list a, h, tx_list], fun h => by rw [h]⟩
theorem tx_one {c : Nat} : (⟨#[c]⟩ : Str) = tx [c] := rfl
theorem tx_app (a b : List Nat) : tx a ++ tx b = tx (a ++ b) := by
  rw [← tx_of (tx a ++ tx b)]
  congr 1
  show ((tx a).cps ++ (tx b).cps).toList = _
  rw [Array.toList_append, tx_list, tx_list]
section
variable {X : Cx} {e e1 e2 : Expr} {es : List Expr} {σ : L2.St} {H : Hp} {Q : VK} {D : Ends} {pos p p2 : Pos} {x y v : V} {G : Gb} {N : List Str} {sc scope : Scope} {k : Nat} {W : WX} {i j : Int}
/-! ### operators -/
def leL (a b : List Nat) : Bool := !decide (b < a)
theorem ro_leZ {z w : Str} (q : Q (.bl (leL z.cps.toList w.cps.toList)) H) : RO X (compareOp .LtE) (.str z) (.str w) H Q := ⟨_, op_le_str, _, _, rfl, rfl, q⟩
theorem leL_one {a c : Nat} : leL [a] [c] = decide (a ≤ c) := by
  unfold leL
  rw [← decide_not, decide_eq_decide]
  constructor
  · intro h
    apply Nat.le_of_not_lt
    intro z
    exact h (List.Lex.rel z)
  · intro h z
    cases z with
    | rel z => omega
    | cons z => cases z
theorem leL_nil {a : Nat} : leL [a] [] = false := by
  unfold leL
  have h : ([] : List Nat) < [a] := List.Lex.nil
  rw [decide_eq_true h]
  rfl
theorem ro_leS {a b : List Nat} (q : Q (.bl (leL a b)) H) : RO X (compareOp .LtE) (.str (tx a)) (.str (tx b)) H Q := ⟨_, op_le_str, _, _, rfl, rfl, by rw [tx_list, tx_list]; exact q⟩
theorem ro_eqT {a b : List Nat} (q : Q (.bl (decide (a = b))) H) : RO X (compareOp .Eq) (.str (tx a)) (.str (tx b)) H Q := ro_eqS (by rw [decide_eq_decide.mpr tx_inj]; exact q)
theorem ro_neT {a b : List Nat} (q : Q (.bl (!decide (a = b))) H) : RO X (compareOp .NotEq) (.str (tx a)) (.str (tx b)) H Q := ro_neS (by rw [decide_eq_decide.mpr tx_inj]; exact q)
theorem ro_addT {a b : List Nat} (h : a.length + b.length ≤ sizeLine) (q : Q (.str (tx (a ++ b))) H) : RO X (binaryOp .Add) (.str (tx a)) (.str (tx b)) H Q := ro_adds (by rw [tx_len, tx_len]; exact h) (by rw [tx_app]; exact q)
theorem ro_notInSign {c : Nat} {l : List Nat} (q : Q (.bl (!decide (c ∈ l))) H) : RO X (compareOp .NotIn) (.str (tx [c])) (.str (tx l)) H Q := ⟨_, op_notIn_sign, c, tx l, rfl, rfl, by rw [tx_list]; exact q⟩
theorem ro_isB {a b : Bool} (q : Q (.bl (decide (a = b))) H) : RO X (compareOp .Is) (.bl a) (.bl b) H Q := ⟨_, op_is_bl, a, b, rfl, rfl, q⟩
theorem ro_isnotB {a b : Bool} (q : Q (.bl (!decide (a = b))) H) : RO X (compareOp .IsNot) (.bl a) (.bl b) H Q := ⟨_, op_isnot_bl, a, b, rfl, rfl, q⟩
theorem ro_rep {l : Addr} {xs : List V} (h : H l = some (.lst xs)) (h0 : -(2 ^ 63) ≤ i) (h1 : i < 2 ^ 63) (hl : xs.length * i.toNat ≤ sizeLine) (q : ∀ p, H p = none → Q (.ref p) (upd H p (.lst (List.replicate i.toNat xs).flatten))) : RO X (binaryOp .Mult) (.ref l) (.int i) H Q :=
  ⟨_, op_rep, l, i, xs, rfl, rfl, h, h0, h1, hl, q⟩
theorem rx_tx {l : List Nat} {c : Nat} (hl : l.length ≤ 100000) (ha : atI l i = some c) (q : Q (.str (tx [c])) H) : RX X (.str (tx l)) (.int i) H Q := rx_str (by rw [tx_len]; exact len_le hl) (by rw [tx_list]; exact ha) q
/-! ### slices -/
def WO (X : Cx) (e : Option Expr) (σ : L2.St) (H : Hp) (Q : Option Int → Hp → Prop) : Prop :=
  match e with
  | none => Q none H
  | some e => WE X e σ H fun x H1 => ∃ i, x = .int i ∧ Q (some i) H1
theorem po_wo {e : Option Expr} : PO X e (WO X e) := by
  cases e with
  | none => exact po_none
  | some e => exact po_some pe_we
def RSl (X : Cx) (x : V) (lo hi : Option Int) (H : Hp) (Q : VK) : Prop := ∃ r, SlR X r ∧ r x lo hi H Q
theorem rsl_ok : SlR X (RSl X) := by
  intro pins s σ H x v vl vu lo hi sl Q I rx hs pl pu h
  obtain ⟨r, ho, hr⟩ := h
  exact ho pins s σ H x v vl vu lo hi sl Q I rx hs pl pu hr
theorem we_slice {lo hi : Option Expr} (h : WE X e σ H fun x H1 => WO X lo σ H1 fun a H2 => WO X hi σ H2 fun b H3 => RSl X x a b H3 Q) : WE X (.Subscript e (.Slice lo hi none p2) pos) σ H Q := we_of (pe_slice rsl_ok pe_we po_wo po_wo) h
theorem wo_none {QO : Option Int → Hp → Prop} (q : QO none H) : WO X none σ H QO := q
theorem wo_some {QO : Option Int → Hp → Prop} (h : WE X e σ H fun x H1 => ∃ i, x = .int i ∧ QO (some i) H1) : WO X (some e) σ H QO := h
def cutL (l : List Nat) (lo hi : Option Int) : List Nat := (l.drop (HT.sIx l.length 0 lo)).take (HT.sIx l.length l.length hi - HT.sIx l.length 0 lo)
theorem cutS_tx (l : List Nat) (lo hi : Option Int) : cutS (tx l) lo hi = tx (cutL l lo hi) := by
  unfold cutS cutL
  rw [tx_list, tx_len]
  rfl
theorem rsl_tx {l : List Nat} {lo hi : Option Int} (hl : l.length ≤ 100000) (q : Q (.str (tx (cutL l lo hi))) H) : RSl X (.str (tx l)) lo hi H Q := ⟨_, sl_str, tx l, rfl, by rw [tx_len]; exact len_le hl, by rw [cutS_tx]; exact q⟩
/-! ### methods -/
theorem rm_starts {a b : Str} (q : Q (.bl (Txt.startswith a b)) H) : RM X "str.startswith" (.str a) [.str b] H Q := ⟨_, mt_startswith, a, b, rfl, rfl, q⟩
theorem rm_join (d : Def X G N sc k) {a : Str} {p : Addr} {ys : List Str} (h : SqL G.K H p (ys.map V.str)) (hl : (ys.map (·.length)).sum + ys.length * a.length ≤ 16777216) (q : Q (.str (Txt.join a ys)) H) : RM X "str.join" (.str a) [.ref p] H Q :=
  ⟨_, mt_join, a, p, ys, rfl, rfl, .inl (by rw [d.K]; exact h), hl, q⟩
/-! ### x += e -/
theorem ws_aug {op : Operator} {n : Str} (d : Fr X G N sc k W) (m : Nat) (hN : N[m]? = some n) (hl : cellB sc n = true) {v : V} (hv : σ[m]? = some (some v)) {ti : TIp} (hi : PIp X op ti) (h : WE X e σ H fun y H1 => ti v y H1 fun z H2 => D.nx (σ.set m (some z)) H2) : WS X (.AugAssign (.Name n p) op e pos) D σ H :=
  ws_of (ps_aug (i := m) (by rw [d.n]; exact d.nd) (by rw [d.n]; exact hN) (by rw [d.sc]; exact locs hl) pe_we hi (.inl (d.fn n))) ⟨v, hv, h⟩
/-! ### repr -/
theorem rc_reprB {b : Bool} (q : Q (.str (if b then "True" else "False")) H) : RC X (.builtin "repr") [.bl b] H Q := by
  refine ⟨fun vs H' Q' => vs = [.bl b] ∧ Q' (.str (if b then "True" else "False")) H', ?_, rfl, q⟩
  intro pins s σ H1 xs us Q1 I r h
  obtain ⟨rfl, q1⟩ := h
  obtain ⟨u, rfl, rfl⟩ := vals1 r
  exact PySem.P.repr_of_bool ⟨.str _, H1, I.tok _, ⟨_, rfl⟩, q1⟩
/-- .. of a list or a tuple, where no repr is under way -/
theorem rc_reprD (d : Def X G N sc k) (gd : X.A.guards = some []) {a : Addr} {da : PyData} (h : Dp G.K H (.ref a) da) (hs : da.showable = true) (hd : da.hasDict = false) (hu : da.depth + 1 ≤ 64) (hl : da.shown.length ≤ sizeLine) (q : Q (.str da.shown) H) : RC X (.builtin "repr") [.ref a] H Q := by
  refine ⟨fun vs H' Q' => vs = [.ref a] ∧ Dp G.K H' (.ref a) da ∧ Q' (.str da.shown) H', ?_, rfl, h, q⟩
  intro pins s σ H1 xs us Q1 I r h
  obtain ⟨rfl, h1, q1⟩ := h
  obtain ⟨u, rfl, r1⟩ := vals1 r
  rw [← d.K] at h1
  obtain ⟨as, rd⟩ := Dp.reads I da _ _ h1 r1
  obtain rfl : u = Value.ref a := r1
  refine PySem.repr_of_reads' rd hs (PyData.noDict_hsm hd) gd ?_ (fun _ _ e => e) (fun h' u tk hk => ⟨.str _, H1, I.kept (t' := tk) hk, ⟨_, rfl⟩, q1⟩) hl
  have := d.room.units
  omega
end
end Wx

/-! Comprehensions over texts; errors with fields. -/
namespace Wx
open PySem L2
section
variable {X : Cx} {e : Expr} {es : List Expr} {σ : L2.St} {H : Hp} {Q : VK} {D : Ends} {pos p : Pos} {x : Str} {v : V} {G : Gb} {N : List Str} {sc scope : Scope} {k : Nat} {W : WX} {tg elt iter : Expr} {ifs : List Expr} {vs : List Nat}
/-- .. over a text, sign by sign -/
def LcS (X : Cx) (G : Gb) (N : List Str) (sc scope : Scope) (k : Nat) (tg elt : Expr) (ifs : List Expr) (vs : List Nat) (σ : L2.St) (y : V) (H1 : Hp) (Q : VK) : Prop :=
  ∃ l : List Nat, True ∧ y = .str (tx l) ∧ ∀ L, H1 L = none → ∃ Pv : Nat → Hp → Prop, Pv 0 (upd H1 L (.lst [])) ∧
    (∀ i c H, l[i]? = some c → Pv i H → Turn X G N sc scope k tg elt ifs vs σ (.str (tx [c])) H fun o H4 => match o with
      | some y => ∃ acc, H4 L = some (.lst acc) ∧ acc.length < sizeLine ∧ Pv (i + 1) (upd H4 L (.lst (acc ++ [y])))
      | none => Pv (i + 1) H4) ∧ ∀ H, Pv l.length H → Q (.ref L) H
theorem lcS_core (d : Def X G N sc k) (h : WE X iter σ H fun y H1 => LcS X G N sc scope k tg elt ifs vs σ y H1 Q) :
    tLc (iStr (WE X iter)) (fun v σ H R => Blk X G N sc scope k fun X' => WG X' tg v σ H R) (fun σ H R => Blk X G N sc scope k fun X' => WTs X' ifs σ H R) (fun σ H R => Blk X G N sc scope k fun X' => WE X' elt σ H R) vs σ H Q := by
  show WE X iter σ H _
  refine we_mono (fun y H1 q => ?_) h
  obtain ⟨l, _, e, q⟩ := q
  refine ⟨tx l, e, fun L hL => ?_⟩
  obtain ⟨Pv, h0, hst, hd⟩ := q L hL
  have hsz : (tx l).cps.size = l.length := tx_len l
  refine ⟨fun i m H => m = l.length - i ∧ i ≤ l.length ∧ Pv i H, ⟨l.length, rfl, Nat.zero_le _, h0⟩, ?_⟩
  rintro i m H2 ⟨rfl, hi, hp⟩
  by_cases hlt : i < l.length
  · refine .inr ⟨(by rw [← hsz] at hlt; exact hlt), Pv (i + 1), fun H' p' => ⟨_, by omega, rfl, hlt, p'⟩, fun x H' y => ?_⟩
    obtain ⟨rfl, c, hc, rfl⟩ := y
    have hc' : l[i]? = some c := by
      have z : (tx l).cps.toList[i]? = some c := by rw [Array.getElem?_toList]; exact hc
      rw [tx_list] at z
      exact z
    exact hst i c _ hc' hp
  · have e2 : i = l.length := by omega
    subst e2
    exact .inl ⟨by show (tx l).cps.size ≤ _; rw [hsz]; exact Nat.le_refl _, hd _ hp⟩
theorem we_lcS (d : Def X G N sc k) (own : List (Str × Nat)) (ok : blkC N sc scope own = true) (hs : ∀ x, foldedSetIterable iter X.env x = pure x)
    (h : WE X iter σ H fun y H1 => LcS X G N sc scope k tg elt ifs (own.map (·.2)) σ y H1 Q) : WE X (.ListComp elt [⟨tg, iter, ifs, 0⟩] scope pos) σ H Q :=
  we_of (pe_lcW d (pi_str pe_we) (blkOk_by ok) hs) (lcS_core d h)
theorem lcS_map {l : List Nat} (f : Nat → Option V) (hn : l.length < 100000)
    (turn : ∀ c ∈ l, ∀ H', Same H H' → ∀ R : Option V → Hp → Prop, (∀ H2, Same H' H2 → R (f c) H2) → Turn X G N sc scope k tg elt ifs vs σ (.str (tx [c])) H' R)
    (fin : ∀ L H', H L = none → Same H H' → H' L = some (.lst (l.filterMap f)) → Q (.ref L) H') : LcS X G N sc scope k tg elt ifs vs σ (.str (tx l)) H Q := by
  refine ⟨l, trivial, rfl, fun L hL => ⟨fun i H' => Same H H' ∧ H' L = some (.lst ((l.take i).filterMap f)), ⟨same_new hL, upd_same⟩, fun i c H' hc h => ?_, fun H' h => ?_⟩⟩
  · exact turn c (List.mem_of_getElem? hc) H' h.1 (Done l f H L i) (done hL hc hn h.1 h.2)
  · obtain ⟨h1, h2⟩ := h
    rw [List.take_length] at h2
    exact fin L H' hL h1 h2
/-! ### errors with fields -/
/-- what the text's top has left of an error's class that has its own __init__, at C -/
structure OxC (G : Gb) (x : Str) (C : Addr) (n k : Nat) (sp : Sp) : Prop where
  gC : G.mg x = some (.ref C)
  T : OexC G.K C
  init : ∃ (fI : Addr) (fd : FuncData) (ps : List Str), PySem.W.findIn G.K (.ref C) "__init__" = some (some (.ref fI)) ∧ PySem.W.typeIn G.K (.ref fI) = some (.type "function") ∧ FnOk G.prog G.w G.K G.mg G.base (L2.CX G.prog G.w) k fI fd ps sp ∧ Binds G.K fd ps []
/-- self.f = e, in such an __init__ -/
theorem ws_ost {o : Expr} {f : Str} {p' : Pos} (d : Def X G N sc k) (hs : swapsWith e (some (.Attribute o f p')) pos.line X.env = pure false)
    (h : WE X e σ H fun y H1 => WE X o σ H1 fun x H2 => ∃ a C : Addr, x = .ref a ∧ OexC G.K C ∧ PySem.W.findIn G.K (.ref C) f = some none ∧
      ((H2 a = some (exo a C none) ∧ ∀ dx, H2 dx = none → dx ≠ a → D.nx σ (upd (upd H2 dx (exd dx [(f, y)])) a (exo a C (some dx)))) ∨
        ∃ (dx : Addr) (fs : List (Str × V)), H2 a = some (exo a C (some dx)) ∧ H2 dx = some (exd dx fs) ∧ fs.length ≤ 900 ∧ D.nx σ (upd H2 dx (exd dx ((f, y) :: fs))))) : WS X (.Assign [.Attribute o f p'] e pos) D σ H :=
  ws_of (ps_ost pe_we pe_we hs) (by rw [← d.K] at h; exact h)
/-- raise x(e, ..) -/
theorem ws_raiseO (d : Fr X G N sc k W) {C : Addr} {n j : Nat} {sp : Sp} {p pos pos' : Pos} (F : OxC G x C n j sp) (hj : j + 1 ≤ k) (hg : glB sc x = true) (he : ns e = true) (hpl : nss es = true)
    (h : WA X (e :: es) σ H fun vs H1 => vs.length ≤ 1000 ∧ ∀ a, H1 a = none → sp (.ref a :: vs) (upd H1 a (exo a C none)) (fun v H2 => v = .non ∧ ∃ (d : Addr) (fs : List (Str × V)), H2 a = some (exo a C (some d)) ∧ H2 d = some (exd d fs) ∧ H1 d = none ∧ W (.ref C) (some d) σ (upd (del H2 a) d (.xd fs))) (fun _ _ _ => False))
    (hdb : (x == ("__debug__" : Str)) = false := by decide +kernel) : WS X (.Raise (some (.Call (.Name x p) (e :: es) [] pos)) none pos') D σ H := by
  obtain ⟨fI, fd, ps, h1, h2, h3, h4⟩ := F.init
  refine ws_of (ps_raise d.calm d.tk (pmk_oex (CX := L2.CX G.prog G.w) (k := j) (fI := fI) (fd := fd) (ps := ps) (sp := sp) (ds := []) (dvs := []) (by rw [d.K]; exact F.T) (by rw [d.K]; exact h1) (by rw [d.K]; exact h2) ?_ (d.room.mono hj) (by rw [d.K]; exact h4) .nil
    (by rw [← d.prog, ← d.w]; exact passL) (d.toDef.gl hg) (by rw [d.mg]; exact F.gC) pa_wa hdb (star_ns he) (hpl_ns hpl))) ?_
  · rw [d.prog, d.w, d.K, d.mg, d.base]
    exact h3
  · show WA X (e :: es) σ H _
    refine wa_mono (fun vs H1 q => ⟨q.1, fun a ha => ?_⟩) h
    rw [List.append_nil]
    exact q.2 a ha
/-- the exception's own dict and class stand; its field n -/
theorem we_exAttr {a C dd : Addr} {fs : List (Str × V)} {n : Str} (d : Def X G N sc k) (ga : PySem.W.findIn G.K (.ref C) "__getattribute__" = some (some (.builtin "BaseException.__getattribute__"))) (gg : PySem.W.findIn G.K (.ref C) "__getattr__" = some none)
    (exC : PySem.W.subIn G.K (.ref C) (.type "BaseException") = some true) (hdC : PySem.W.hasDictIn G.K C = true) (hno : PySem.W.findIn G.K (.ref C) n = some none) (hb : attributeBase e n X.env (eval e X.env) = eval e X.env)
    (h : WE X e σ H fun y H1 => y = .ref a ∧ H1 a = some (ExV a (.ref C) (some dd)) ∧ H1 dd = some (.xd fs) ∧ ∃ v, fs.lookup n = some v ∧ Q v H1) : WE X (.Attribute e n pos) σ H Q := by
  intro pins s I
  refine attr_of hb (thn (h pins s I) fun u s1 hh => ?_)
  obtain ⟨y, H1, I1, rx, ey, ha, hd, v, hl, q⟩ := hh
  subst ey
  obtain rfl : u = Value.ref a := rx
  obtain ⟨⟨oe, vs, at1, z1, f1⟩, _, _⟩ := I1.hok a _ ha
  have hx : ObjOk X.prog X.w H1 s1.heap dd (.xd fs) := I1.hok dd _ hd
  obtain ⟨mA, hns, hr⟩ := hx
  obtain ⟨od, ho, hlk⟩ := lookIn_ns hns
  obtain ⟨u, hu, ru⟩ := RelO.some_of (v := v) (o := mA n) (by rw [← hl]; exact hr n)
  have J : PySem.W.InstAt s1.heap a oe C (some od) := ⟨at1, z1.1, by unfold PySem.W.notCls; rw [f1] <;> rfl, by rw [z1.2]; exact ho⟩
  have K1 := I1.kIn
  rw [d.K] at K1
  exact HandSPX.exc_get K1 J ga gg exC (PySem.W.findObj_own hdC hno rfl (by rw [hlk, hu])) (handed_of ru) ⟨v, H1, I1.tok _, ru, q⟩
/-! ### isinstance of an exception that may have fields -/
theorem rc_isX {C a : Addr} {dd : Option Addr} {c : V} {u : Value} {r : Bool} (d : Def X G N sc k) (E : ExcC G.K C) (hc : ClsV c u) (h : H a = some (ExV a (.ref C) dd)) (hdd : ∀ b, dd = some b → ∃ fs, H b = some (.xd fs)) (e : PySem.W.kitOne G.K (.ref C) u = some r) (q : Q (.bl r) H) : RC X (.builtin "isinstance") [.ref a, c] H Q := by
  refine ⟨fun vs H' Q' => vs = [.ref a, c] ∧ H' a = some (ExV a (.ref C) dd) ∧ (∀ b, dd = some b → ∃ fs, H' b = some (.xd fs)) ∧ Q' (.bl r) H', ?_, rfl, h, hdd, q⟩
  intro pins s τ H1 xs us Q1 I rr hh
  obtain ⟨rfl, h1, hdd, q1⟩ := hh
  obtain ⟨u1, u2, rfl, r1, r2⟩ := vals2 rr
  cases (show u1 = Value.ref a from r1)
  have e2 := hc.eq r2
  subst e2
  obtain ⟨⟨oe, vs, at1, z1, f1⟩, _, _⟩ := I.hok a _ h1
  obtain ⟨od, J⟩ : ∃ od, PySem.W.InstAt s.heap a oe C od := by
    cases dd with
    | none =>
      refine ⟨none, at1, z1.1, by unfold PySem.W.notCls; rw [f1] <;> rfl, ?_⟩
      rw [z1.2]
      trivial
    | some b =>
      obtain ⟨fs, hb⟩ := hdd b rfl
      have hx : ObjOk X.prog X.w H1 s.heap b (.xd fs) := I.hok b _ hb
      obtain ⟨mA, hns, hr⟩ := hx
      obtain ⟨od, ho, hlk⟩ := lookIn_ns hns
      exact ⟨some od, at1, z1.1, by unfold PySem.W.notCls; rw [f1] <;> rfl, by rw [z1.2]; exact ho⟩
  have K0 : G.K.In s.heap := by
    rw [← d.K]
    exact I.kIn
  have hcl : (PySem.W.clsIn G.K C).isSome = true := by
    have z := E.hd
    unfold PySem.W.hasDictIn at z
    cases q : PySem.W.clsIn G.K C with
    | none => rw [q] at z; cases z
    | some _ => rfl
  refine PySem.W.kia_one (PySem.W.kitx_exc hcl E.hg E.hk E.hs E.ha E.hn E.ht E.hm) K0 J e (fun z => nomatch z) fun tk => ⟨.bl r, H1, I.kept (t' := tk) fun _ _ z => z, rfl, q1⟩
end
/-! ### further -/
section
variable {X : Cx} {e : Expr} {es : List Expr} {σ : L2.St} {H : Hp} {Q : VK} {D : Ends} {pos p : Pos} {x : Str} {v : V} {G : Gb} {N : List Str} {sc scope : Scope} {k : Nat} {W : WX}
theorem we_callK0E {E : XK} (d : Def X G N sc k) {ks : List Str} {gV : List V → List V → List V} {kws : List Keyword} {j : Nat} {sp : Sp} (F : FnK G x ks gV j sp) (hj : j ≤ k) (hg : glB sc x = true) (hx : Passes (L2.CX G.prog G.w) X E)
    (hall : (backToKw pos (keywordEach kws X.env)).all (·.1.isSome) = true) (hks : (backToKw pos (keywordEach kws X.env)).filterMap (·.1) = ks)
    (hpl : ((backTo pos (starEach [] X.env)).any (·.1) || (backToKw pos (keywordEach kws X.env)).any (·.1.isNone)) = false)
    (h : WK X kws σ H fun zs H2 => sp (gV [] zs) H2 Q E) (hdb : (x == ("__debug__" : Str)) = false := by decide +kernel) : WE X (.Call (.Name x p) [] kws pos) σ H Q := by
  obtain ⟨f, fd, ps, g, h1, h2, h3, h4⟩ := F.is
  intro pins s I
  have F' : FnOk X.prog X.w X.K X.mg X.base (L2.CX G.prog G.w) j f fd ps sp := by
    rw [d.prog, d.w, d.K, d.mg, d.base]
    exact h3
  refine PySem.wpAny_Call_Name_kw (ld_glob I (d.gl hg) (by rw [d.mg]; exact h1) ?_ hdb)
  refine PySem.W.callWith_KW0 (h₀ := X.base) I.ok.mod.kin (by rw [d.K]; exact h2) hall ?_ hpl
  refine thn (h pos pins s I) fun ws s2 ⟨zs, H2, I2, rz, q2⟩ => ⟨I2.kIn, ?_⟩
  rw [hks]
  exact run_fnk (us := []) (vs := []) F' (d.room.mono hj) (by rw [d.K]; exact h4) hx I2 .nil rz q2
theorem rc_sortedS (d : Def X G N sc k) {a : Addr} {ss : List Str} (h : SqL G.K H a (ss.map V.str)) (hl : ss.length < 64) (q : ∀ (ys : List Str) (p : Addr), ys.Perm ss → PyProof.Rows.sortedS ys = true → H p = none → Q (.ref p) (upd H p (.lst (ys.map V.str)))) : RC X (.builtin "sorted") [.ref a] H Q :=
  ⟨_, cr_sortedS, a, ss, rfl, by rw [d.K]; exact h, hl, q⟩
end
end Wx

section
open PySem L2 Wx
local macro_rules | `(tactic| walk_at "wn") => `(tactic| first
  | with_reducible refine we_n0 (by assumption) (by decide +kernel) ?_
  | with_reducible refine we_n1 (by assumption) (by decide +kernel) ?_
  | with_reducible refine we_n2 (by assumption) (by decide +kernel) ?_
  | with_reducible refine we_n3 (by assumption) (by decide +kernel) ?_
  | with_reducible refine we_n4 (by assumption) (by decide +kernel) ?_
  | with_reducible refine we_n5 (by assumption) (by decide +kernel) ?_
  | with_reducible refine we_n6 (by assumption) (by decide +kernel) ?_
  | with_reducible refine we_n7 (by assumption) (by decide +kernel) ?_
  | with_reducible refine we_n8 (by assumption) (by decide +kernel) ?_
  | with_reducible refine we_n9 (by assumption) (by decide +kernel) ?_
  | with_reducible refine we_n10 (by assumption) (by decide +kernel) ?_
  | with_reducible refine we_n11 (by assumption) (by decide +kernel) ?_
  | with_reducible refine we_n12 (by assumption) (by decide +kernel) ?_
  | with_reducible refine we_n13 (by assumption) (by decide +kernel) ?_
  | with_reducible refine we_n14 (by assumption) (by decide +kernel) ?_
  | with_reducible refine we_n15 (by assumption) (by decide +kernel) ?_
  | with_reducible refine we_n16 (by assumption) (by decide +kernel) ?_
  | with_reducible refine we_n17 (by assumption) (by decide +kernel) ?_
  | with_reducible refine we_t_int (by assumption) (by assumption) (by decide +kernel) ?_
  | with_reducible refine we_t_bool (by assumption) (by assumption) (by decide +kernel) ?_
  | with_reducible refine we_t_str (by assumption) (by assumption) (by decide +kernel) ?_
  | with_reducible refine we_t_list (by assumption) (by assumption) (by decide +kernel) ?_
  | with_reducible refine we_t_tuple (by assumption) (by assumption) (by decide +kernel) ?_
  | with_reducible refine we_t_dict (by assumption) (by assumption) (by decide +kernel) ?_)
local macro_rules | `(tactic| walk_at "wg") => `(tactic| first
  | with_reducible refine wg_n0 (by assumption) (by decide +kernel) ?_
  | with_reducible refine wg_n1 (by assumption) (by decide +kernel) ?_
  | with_reducible refine wg_n2 (by assumption) (by decide +kernel) ?_
  | with_reducible refine wg_n3 (by assumption) (by decide +kernel) ?_
  | with_reducible refine wg_n4 (by assumption) (by decide +kernel) ?_
  | with_reducible refine wg_n5 (by assumption) (by decide +kernel) ?_
  | with_reducible refine wg_n6 (by assumption) (by decide +kernel) ?_
  | with_reducible refine wg_n7 (by assumption) (by decide +kernel) ?_
  | with_reducible refine wg_n8 (by assumption) (by decide +kernel) ?_
  | with_reducible refine wg_n9 (by assumption) (by decide +kernel) ?_
  | with_reducible refine wg_n10 (by assumption) (by decide +kernel) ?_
  | with_reducible refine wg_n11 (by assumption) (by decide +kernel) ?_
  | with_reducible refine wg_n12 (by assumption) (by decide +kernel) ?_
  | with_reducible refine wg_n13 (by assumption) (by decide +kernel) ?_
  | with_reducible refine wg_n14 (by assumption) (by decide +kernel) ?_
  | with_reducible refine wg_n15 (by assumption) (by decide +kernel) ?_
  | with_reducible refine wg_n16 (by assumption) (by decide +kernel) ?_
  | with_reducible refine wg_n17 (by assumption) (by decide +kernel) ?_
  | with_reducible refine wg_b0 (by assumption) (by decide +kernel) ?_
  | with_reducible refine wg_b1 (by assumption) (by decide +kernel) ?_
  | with_reducible refine wg_b2 (by assumption) (by decide +kernel) ?_
  | with_reducible refine wg_b3 (by assumption) (by decide +kernel) ?_
  | with_reducible refine wg_b4 (by assumption) (by decide +kernel) ?_
  | with_reducible refine wg_b5 (by assumption) (by decide +kernel) ?_
  | with_reducible refine wg_b6 (by assumption) (by decide +kernel) ?_
  | with_reducible refine wg_b7 (by assumption) (by decide +kernel) ?_
  | with_reducible refine wg_b8 (by assumption) (by decide +kernel) ?_
  | with_reducible refine wg_b9 (by assumption) (by decide +kernel) ?_
  | with_reducible refine wg_b10 (by assumption) (by decide +kernel) ?_
  | with_reducible refine wg_b11 (by assumption) (by decide +kernel) ?_
  | with_reducible refine wg_b12 (by assumption) (by decide +kernel) ?_
  | with_reducible refine wg_b13 (by assumption) (by decide +kernel) ?_
  | with_reducible refine wg_b14 (by assumption) (by decide +kernel) ?_
  | with_reducible refine wg_b15 (by assumption) (by decide +kernel) ?_
  | with_reducible refine wg_b16 (by assumption) (by decide +kernel) ?_
  | with_reducible refine wg_b17 (by assumption) (by decide +kernel) ?_)
local macro_rules | `(tactic| walk_at "ws=") => `(tactic| first
  | with_reducible refine ws_s0 (by assumption) (by decide +kernel) (by with_unfolding_all rfl) ?_
  | with_reducible refine ws_s1 (by assumption) (by decide +kernel) (by with_unfolding_all rfl) ?_
  | with_reducible refine ws_s2 (by assumption) (by decide +kernel) (by with_unfolding_all rfl) ?_
  | with_reducible refine ws_s3 (by assumption) (by decide +kernel) (by with_unfolding_all rfl) ?_
  | with_reducible refine ws_s4 (by assumption) (by decide +kernel) (by with_unfolding_all rfl) ?_
  | with_reducible refine ws_s5 (by assumption) (by decide +kernel) (by with_unfolding_all rfl) ?_
  | with_reducible refine ws_s6 (by assumption) (by decide +kernel) (by with_unfolding_all rfl) ?_
  | with_reducible refine ws_s7 (by assumption) (by decide +kernel) (by with_unfolding_all rfl) ?_
  | with_reducible refine ws_s8 (by assumption) (by decide +kernel) (by with_unfolding_all rfl) ?_
  | with_reducible refine ws_s9 (by assumption) (by decide +kernel) (by with_unfolding_all rfl) ?_
  | with_reducible refine ws_s10 (by assumption) (by decide +kernel) (by with_unfolding_all rfl) ?_
  | with_reducible refine ws_s11 (by assumption) (by decide +kernel) (by with_unfolding_all rfl) ?_
  | with_reducible refine ws_s12 (by assumption) (by decide +kernel) (by with_unfolding_all rfl) ?_
  | with_reducible refine ws_s13 (by assumption) (by decide +kernel) (by with_unfolding_all rfl) ?_
  | with_reducible refine ws_s14 (by assumption) (by decide +kernel) (by with_unfolding_all rfl) ?_
  | with_reducible refine ws_s15 (by assumption) (by decide +kernel) (by with_unfolding_all rfl) ?_
  | with_reducible refine ws_s16 (by assumption) (by decide +kernel) (by with_unfolding_all rfl) ?_
  | with_reducible refine ws_s17 (by assumption) (by decide +kernel) (by with_unfolding_all rfl) ?_)
local macro_rules | `(tactic| walk_at "wE") => `(tactic| first
  | with_reducible refine we_int ?_
  | with_reducible refine we_str ?_
  | with_reducible refine we_bl ?_
  | with_reducible refine we_non ?_
  | ((with_reducible show Wx.WE _ (Expr.Name _ _) _ _ _); walk_at "wn")
  | with_reducible refine we_bin ?_
  | ((with_reducible refine we_cmp ?hm ?_); (case hm => exact rfl))
  | with_reducible refine we_if ?_
  | with_reducible refine we_tup ?_
  | with_reducible refine we_lst ?_
  | with_reducible refine we_not ?_
  | with_reducible refine we_un ?_
  | with_reducible refine we_and ?_
  | with_reducible refine we_or ?_
  | with_reducible refine we_one ?_
  | with_reducible refine we_slice ?_
  | ((with_reducible refine we_chain ?hm ?_); (case hm => exact rfl))
  | ((with_reducible show Wx.WE _ (Expr.Subscript _ (Expr.Constant (Const.str _) _ _) _) _ _ _); refine we_dget (by with_reducible assumption) (by intro _ _; rfl) ?_)
  | ((with_reducible show Wx.WE _ (Expr.Subscript _ (Expr.Constant _ _ _) _) _ _ _); refine we_ix (by intro _ _; rfl) ?_)
  | ((with_reducible show Wx.WE _ (Expr.Subscript _ (Expr.Name _ _) _) _ _ _); refine we_ix (by intro _ _; rfl) ?_)
  | ((with_reducible show Wx.WE _ (Expr.Subscript _ (Expr.BinOp _ _ _ _) _) _ _ _); refine we_ix (by intro _ _; rfl) ?_)
  | ((with_reducible show Wx.WE _ (Expr.Subscript _ (Expr.Call _ _ _ _) _) _ _ _); refine we_ix (by intro _ _; rfl) ?_)
  | ((with_reducible show Wx.WE _ (Expr.Subscript _ (Expr.UnaryOp _ _ _) _) _ _ _); refine we_ix (by intro _ _; rfl) ?_)
  | ((with_reducible show Wx.WE _ (Expr.Subscript _ (Expr.Subscript _ _ _) _) _ _ _); refine we_ix (by intro _ _; rfl) ?_)
  | ((with_reducible show Wx.WE _ (Expr.Call (Expr.Name _ _) _ _ _) _ _ _); walk_at "wC"))
local macro_rules | `(tactic| walk_at "wC") => `(tactic| first
  | with_reducible refine we_c_int (by assumption) (by assumption) (by decide +kernel) (by with_unfolding_all rfl) (by with_unfolding_all rfl) ?_
  | with_reducible refine we_c_bool (by assumption) (by assumption) (by decide +kernel) (by with_unfolding_all rfl) (by with_unfolding_all rfl) ?_
  | with_reducible refine we_c_str (by assumption) (by assumption) (by decide +kernel) (by with_unfolding_all rfl) (by with_unfolding_all rfl) ?_
  | with_reducible refine we_c_list (by assumption) (by assumption) (by decide +kernel) (by with_unfolding_all rfl) (by with_unfolding_all rfl) ?_
  | with_reducible refine we_c_tuple (by assumption) (by assumption) (by decide +kernel) (by with_unfolding_all rfl) (by with_unfolding_all rfl) ?_
  | with_reducible refine we_c_set (by assumption) (by assumption) (by decide +kernel) (by with_unfolding_all rfl) (by with_unfolding_all rfl) ?_
  | with_reducible refine we_c_dict (by assumption) (by assumption) (by decide +kernel) (by with_unfolding_all rfl) (by with_unfolding_all rfl) ?_
  | with_reducible refine we_c_type (by assumption) (by assumption) (by decide +kernel) (by with_unfolding_all rfl) (by with_unfolding_all rfl) ?_
  | with_reducible refine we_c_len (by assumption) (by assumption) (by decide +kernel) (by with_unfolding_all rfl) (by with_unfolding_all rfl) ?_
  | with_reducible refine we_c_isinstance (by assumption) (by assumption) (by decide +kernel) (by with_unfolding_all rfl) (by with_unfolding_all rfl) ?_
  | with_reducible refine we_c_abs (by assumption) (by assumption) (by decide +kernel) (by with_unfolding_all rfl) (by with_unfolding_all rfl) ?_
  | with_reducible refine we_c_min (by assumption) (by assumption) (by decide +kernel) (by with_unfolding_all rfl) (by with_unfolding_all rfl) ?_
  | with_reducible refine we_c_max (by assumption) (by assumption) (by decide +kernel) (by with_unfolding_all rfl) (by with_unfolding_all rfl) ?_
  | with_reducible refine we_c_any (by assumption) (by assumption) (by decide +kernel) (by with_unfolding_all rfl) (by with_unfolding_all rfl) ?_
  | with_reducible refine we_c_all (by assumption) (by assumption) (by decide +kernel) (by with_unfolding_all rfl) (by with_unfolding_all rfl) ?_
  | with_reducible refine we_c_sum (by assumption) (by assumption) (by decide +kernel) (by with_unfolding_all rfl) (by with_unfolding_all rfl) ?_
  | with_reducible refine we_c_sorted (by assumption) (by assumption) (by decide +kernel) (by with_unfolding_all rfl) (by with_unfolding_all rfl) ?_
  | with_reducible refine we_c_repr (by assumption) (by assumption) (by decide +kernel) (by with_unfolding_all rfl) (by with_unfolding_all rfl) ?_)
local macro_rules | `(tactic| walk_at "wT") => `(tactic| first
  | ((with_reducible refine wt_cmp ?hm ?_); (case hm => exact rfl))
  | ((with_reducible refine wt_chain ?hm ?_); (case hm => exact rfl))
  | with_reducible refine wt_not ?_
  | ((with_reducible refine wt_ww ?_); first | with_reducible refine ww_and ?_ | with_reducible refine ww_or ?_ | with_reducible refine ww_and1 ?_ | with_reducible refine ww_or1 ?_)
  | with_reducible refine ww_and ?_
  | with_reducible refine ww_or ?_
  | with_reducible refine ww_and1 ?_
  | with_reducible refine ww_or1 ?_
  | ((with_reducible show Wx.WT _ (Expr.Name _ _) _ _ _); refine wt_truth (by intro _; rfl) ?_)
  | ((with_reducible show Wx.WT _ (Expr.Call _ _ _ _) _ _ _); refine wt_truth (by intro _; rfl) ?_)
  | ((with_reducible show Wx.WT _ (Expr.Subscript _ _ _) _ _ _); refine wt_truth (by intro _; rfl) ?_)
  | ((with_reducible show Wx.WT _ (Expr.IfExp _ _ _ _) _ _ _); refine wt_truth (by intro _; rfl) ?_)
  | ((with_reducible show Wx.WT _ (Expr.Attribute _ _ _) _ _ _); refine wt_truth (by intro _; rfl) ?_))
local macro_rules | `(tactic| walk_at "wA") => `(tactic| first
  | with_reducible refine wa_nil ?_
  | ((with_reducible refine wa_cons ?hs ?_); (case hs => exact rfl))
  | with_reducible refine wk_nil ?_
  | with_reducible refine wk_cons ?_)
local macro_rules | `(tactic| walk_at "wS") => `(tactic| first
  | with_reducible refine wb_nil ?_
  | with_reducible refine wb_one ?_
  | with_reducible refine wb_cons ?_
  | with_reducible refine ws_ret ?_
  | with_reducible refine ws_if ?_
  | ((with_reducible show Wx.WS _ (Stmt.Assign [Expr.Name _ _] _ _) _ _ _); walk_at "ws=")
  | with_reducible refine ws_pass ?_
  | ((with_reducible refine ws_expr ?hs ?_); (case hs => exact rfl))
  | with_reducible refine ws_retN ?_
  | with_reducible refine ws_continue ?_
  | with_reducible refine ws_break ?_
  | ((with_reducible show Wx.WS _ (Stmt.Assign [Expr.Subscript _ (Expr.Constant (Const.str _) _ _) _] _ _) _ _ _); refine ws_dput (by with_reducible assumption) (by rfl) ?_))
local macro_rules | `(tactic| walk_at "wR") => `(tactic| first
  | with_reducible refine ro_add ?_
  | with_reducible refine ro_sub ?_
  | with_reducible refine ro_eqI ?_
  | with_reducible refine ro_neI ?_
  | with_reducible refine ro_lt ?_
  | with_reducible refine ro_le ?_
  | with_reducible refine ro_gt ?_
  | with_reducible refine ro_ge ?_
  | with_reducible refine ro_leZ ?_
  | with_reducible refine ro_isN ?_
  | with_reducible refine ro_notN ?_
  | with_reducible refine ro_eqS ?_
  | with_reducible refine ro_neS ?_
  | with_reducible refine ro_eqB ?_
  | with_reducible refine ro_neB ?_
  | with_reducible refine ro_isB ?_
  | with_reducible refine ro_isnotB ?_
  | with_reducible refine ru_neg ?_
  | with_reducible refine rc_int ?_)
local macro_rules | `(tactic| walk_at "wG") => `(tactic| first
  | walk_at "wg"
  | with_reducible refine wgs_nil ?_
  | ((with_reducible refine wgs_cons ?hs ?_); (case hs => exact rfl)))
local macro_rules | `(tactic| walk_at "lits") => `(tactic| first
  | repeat' constructor)
local macro_rules | `(tactic| walk_at "wx1") => `(tactic| first
  | ((with_reducible show Wx.WE _ _ _ _ _); walk_at "wE")
  | ((with_reducible show Wx.WT _ _ _ _ _); walk_at "wT")
  | ((with_reducible show Wx.WW _ _ _ _ _); walk_at "wT")
  | ((with_reducible show Wx.WA _ _ _ _ _); walk_at "wA")
  | ((with_reducible show Wx.WK _ _ _ _ _); walk_at "wA")
  | ((with_reducible show Wx.WB _ _ _ _ _); walk_at "wS")
  | ((with_reducible show Wx.WS _ _ _ _ _); walk_at "wS")
  | ((with_reducible show Wx.RO _ _ _ _ _ _); walk_at "wR")
  | ((with_reducible show Wx.WG _ _ _ _ _ _); walk_at "wG")
  | ((with_reducible show Wx.WGs _ _ _ _ _ _); walk_at "wG")
  | ((with_reducible show Wx.RC _ _ _ _ _); walk_at "wR")
  | ((with_reducible show Wx.RC _ (Value.builtin "isinstance") [_, V.ty _] _ _); walk_at "wI")
  | ((with_reducible show Wx.RU _ _ _ _ _); walk_at "wR")
  | ((with_reducible show Wx.WO _ _ _ _ _); first | with_reducible refine wo_none ?_ | with_reducible refine wo_some ?_)
  | refine ⟨_, rfl, ?_⟩
  | dsimp only [List.set])
local macro_rules | `(tactic| walk_at "wTy") => `(tactic| first
  | exact TyX.base TyOf.non
  | exact TyX.base (TyOf.bl _)
  | exact TyX.base (TyOf.int _)
  | exact TyX.base (TyOf.str _)
  | exact ty_seqT (by assumption)
  | exact ty_seqL (by assumption)
  | exact TyX.base (TyOf.dK (by assumption))
  | exact dp_ty (by assumption))
local macro_rules | `(tactic| walk_at "wI") => `(tactic| first
  | refine rc_isi (by assumption) (ClsV.ty _) (by walk_at "wTy") (kit_bt (r := true) (by decide +kernel)) ?_
  | refine rc_isi (by assumption) (ClsV.ty _) (by walk_at "wTy") (kit_bt (r := false) (by decide +kernel)) ?_)
local macro_rules | `(tactic| walk_at "wx") => `(tactic| repeat walk_at "wx1")
local macro_rules | `(tactic| walk_at "wy") => `(tactic| repeat (first | walk_at "wx1" | refine ite_t ?_ | refine ite_f ?_))
/-! Words of texts, as functions on lists of signs. -/
namespace K01
open PySem Wx
def isSmall (c : Nat) : Bool := decide (97 ≤ c) && decide (c ≤ 122)
def isBig (c : Nat) : Bool := decide (65 ≤ c) && decide (c ≤ 90)
def isFig (c : Nat) : Bool := decide (48 ≤ c) && decide (c ≤ 57)
def isInner (c : Nat) : Bool := isSmall c || (isBig c || (isFig c || decide (c = 95)))
def one (p : Nat → Bool) : List Nat → Bool
  | [c] => p c
  | _ => false
def run (l : List Nat) : Nat := (l.takeWhile isInner).length
/-- how many signs the word at the head has (no blank, no line feed there) -/
def wlen : List Nat → Nat
  | [] => 0
  | c :: r => if isInner c || (decide (c = 45) && one isFig (r.take 1)) then 1 + run r else if (c :: r).take 2 = [60, 61] ∨ (c :: r).take 2 = [61, 61] then 2 else 1
theorem wlen_eq (c : Nat) (r : List Nat) : wlen (c :: r) = if (isInner c || (decide (c = 45) && one isFig (r.take 1))) = true then 1 + run r else if (c :: r).take 2 = [60, 61] ∨ (c :: r).take 2 = [61, 61] then 2 else 1 := rfl
theorem run_le (l : List Nat) : run l ≤ l.length := List.Sublist.length_le (List.takeWhile_sublist _)
theorem wlen_le (l : List Nat) : wlen l ≤ l.length := by
  cases l with
  | nil => exact Nat.le_refl _
  | cons c r =>
    rw [wlen_eq, List.length_cons]
    have := run_le r
    by_cases h1 : (isInner c || (decide (c = 45) && one isFig (r.take 1))) = true
    · rw [if_pos h1]; omega
    · rw [if_neg h1]
      by_cases h : (c :: r).take 2 = [60, 61] ∨ (c :: r).take 2 = [61, 61]
      · rw [if_pos h]
        have e : ((c :: r).take 2).length = 2 := by rcases h with h | h <;> rw [h] <;> rfl
        rw [List.length_take, List.length_cons] at e
        omega
      · rw [if_neg h]; omega
theorem wlen_pos (c : Nat) (r : List Nat) : 0 < wlen (c :: r) := by
  rw [wlen_eq]
  by_cases h1 : (isInner c || (decide (c = 45) && one isFig (r.take 1))) = true
  · rw [if_pos h1]; omega
  · rw [if_neg h1]
    by_cases h : (c :: r).take 2 = [60, 61] ∨ (c :: r).take 2 = [61, 61]
    · rw [if_pos h]; omega
    · rw [if_neg h]; omega
/-- a word, its line, its column -/
abbrev Wd := List Nat × Int × Int
/-- the words of the rest, from a line and a column on -/
def cut : Nat → List Nat → Int → Int → List Wd
  | 0, _, _, _ => []
  | _ + 1, [], _, _ => []
  | n + 1, c :: r, ln, co => if c = 10 then cut n r (ln + 1) 1 else if c = 32 then cut n r ln (co + 1) else ((c :: r).take (wlen (c :: r)), ln, co) :: cut n ((c :: r).drop (wlen (c :: r))) ln (co + wlen (c :: r))
theorem cut_eq (n : Nat) (c : Nat) (r : List Nat) (ln co : Int) : cut (n + 1) (c :: r) ln co = if c = 10 then cut n r (ln + 1) 1 else if c = 32 then cut n r ln (co + 1) else ((c :: r).take (wlen (c :: r)), ln, co) :: cut n ((c :: r).drop (wlen (c :: r))) ln (co + wlen (c :: r)) := rfl
theorem cut_fuel : ∀ (n m : Nat) (l : List Nat) (ln co : Int), l.length ≤ n → l.length ≤ m → cut n l ln co = cut m l ln co
  | 0, 0, _, _, _, _, _ => rfl
  | 0, m + 1, l, _, _, h, _ => by
    cases l with
    | nil => rfl
    | cons c r => simp at h
  | n + 1, 0, l, _, _, _, h => by
    cases l with
    | nil => rfl
    | cons c r => simp at h
  | n + 1, m + 1, [], _, _, _, _ => rfl
  | n + 1, m + 1, c :: r, ln, co, h1, h2 => by
    rw [List.length_cons] at h1 h2
    rw [cut_eq, cut_eq]
    have hp := wlen_pos c r
    have hl : ((c :: r).drop (wlen (c :: r))).length ≤ r.length := by rw [List.length_drop, List.length_cons]; omega
    rw [cut_fuel n m r (ln + 1) 1 (by omega) (by omega), cut_fuel n m r ln (co + 1) (by omega) (by omega), cut_fuel n m _ ln (co + wlen (c :: r)) (by omega) (by omega)]
def words (l : List Nat) : List Wd := cut l.length l 1 1
def isBlank (c : Nat) : Bool := decide (c = 32) || decide (c = 10)
theorem cut_blank {n : Nat} {c : Nat} {r : List Nat} {ln co : Int} (h : c = 10) : cut (n + 1) (c :: r) ln co = cut n r (ln + 1) 1 := by
  rw [cut_eq, if_pos h]
theorem cut_space {n : Nat} {c : Nat} {r : List Nat} {ln co : Int} (h : ¬ c = 10) (h2 : c = 32) : cut (n + 1) (c :: r) ln co = cut n r ln (co + 1) := by
  rw [cut_eq, if_neg h, if_pos h2]
theorem cut_word {n : Nat} {c : Nat} {r : List Nat} {ln co : Int} (h : ¬ c = 10) (h2 : ¬ c = 32) : cut (n + 1) (c :: r) ln co = ((c :: r).take (wlen (c :: r)), ln, co) :: cut n ((c :: r).drop (wlen (c :: r))) ln (co + wlen (c :: r)) := by
  rw [cut_eq, if_neg h, if_neg h2]
theorem take_while : ∀ r : List Nat, r.take (r.takeWhile isInner).length = r.takeWhile isInner
  | [] => rfl
  | c :: r => by
    rw [List.takeWhile_cons]
    by_cases h : isInner c = true
    · rw [if_pos h, List.length_cons, List.take_succ_cons, take_while r]
    · rw [if_neg h]; rfl
theorem while_while : ∀ r : List Nat, (r.takeWhile isInner).takeWhile isInner = r.takeWhile isInner
  | [] => rfl
  | c :: r => by
    rw [List.takeWhile_cons]
    by_cases h : isInner c = true
    · rw [if_pos h, List.takeWhile_cons, if_pos h, while_while r]
    · rw [if_neg h]; rfl
theorem run_take (r : List Nat) : run (r.take (run r)) = run r := by
  unfold run
  rw [take_while, while_while]
/-- a word cut out is one word by itself -/
theorem wlen_take (c : Nat) (r : List Nat) : wlen ((c :: r).take (wlen (c :: r))) = wlen (c :: r) := by
  have hp := wlen_pos c r
  have key : ∀ n, 0 < n → (c :: r).take n = c :: r.take (n - 1) := fun n hn => by
    cases n with
    | zero => omega
    | succ n => rfl
  rw [key _ hp]
  by_cases h1 : (isInner c || (decide (c = 45) && one isFig (r.take 1))) = true
  · have e : wlen (c :: r) = 1 + run r := by rw [wlen_eq, if_pos h1]
    rw [e]
    have e2 : 1 + run r - 1 = run r := by omega
    rw [e2]
    have h2 : (isInner c || (decide (c = 45) && one isFig ((r.take (run r)).take 1))) = true := by
      cases hc : isInner c with
      | true => rfl
      | false =>
        rw [hc, Bool.false_or] at h1
        rw [Bool.false_or]
        obtain ⟨a, b⟩ := Bool.and_eq_true_iff.mp h1
        rw [a, Bool.true_and]
        cases r with
        | nil => cases b
        | cons d r =>
          have b : isFig d = true := b
          have hi : isInner d = true := by unfold isInner; rw [b]; simp
          have hr : run (d :: r) = run r + 1 := by
            unfold run
            rw [List.takeWhile_cons, if_pos hi]
            rfl
          rw [hr]
          exact b
    rw [wlen_eq, if_pos h2, run_take]
  · have e : wlen (c :: r) = if (c :: r).take 2 = [60, 61] ∨ (c :: r).take 2 = [61, 61] then 2 else 1 := by
      rw [wlen_eq, if_neg h1]
    rw [e]
    by_cases h2 : (c :: r).take 2 = [60, 61] ∨ (c :: r).take 2 = [61, 61]
    · rw [if_pos h2]
      have hs : c :: r.take 1 = (c :: r).take 2 := rfl
      have e3 : (2 - 1) = 1 := rfl
      rw [e3, hs]
      rcases h2 with h2 | h2 <;> rw [h2] <;> decide
    · rw [if_neg h2]
      show wlen [c] = 1
      rw [wlen_eq]
      have h3 : ¬ (isInner c || (decide (c = 45) && one isFig (([] : List Nat).take 1))) = true := by
        intro z
        simp [one] at z
        simp [z] at h1
      rw [if_neg h3]
      have h4 : ¬ (([c] : List Nat).take 2 = [60, 61] ∨ ([c] : List Nat).take 2 = [61, 61]) := by simp
      rw [if_neg h4]
theorem words_one {c : Nat} {r : List Nat} (h1 : ¬ c = 10) (h2 : ¬ c = 32) : words ((c :: r).take (wlen (c :: r))) = [((c :: r).take (wlen (c :: r)), 1, 1)] := by
  have hp := wlen_pos c r
  have key : (c :: r).take (wlen (c :: r)) = c :: r.take (wlen (c :: r) - 1) := by
    cases h : wlen (c :: r) with
    | zero => omega
    | succ n => rfl
  have ht := wlen_take c r
  have hl : ((c :: r).take (wlen (c :: r))).length = wlen (c :: r) := by
    rw [List.length_take]
    have := wlen_le (c :: r)
    omega
  rw [key] at ht hl ⊢
  generalize r.take (wlen (c :: r) - 1) = m at ht hl
  have hw : wlen (c :: m) = (c :: m).length := by rw [ht, hl]
  unfold words
  rw [List.length_cons, cut_word h1 h2, hw, List.take_length, List.drop_length]
  cases m.length <;> rfl
/-- each word of a text is one word by itself -/
theorem cut_words : ∀ (n : Nat) (l : List Nat) (ln co : Int) (w : Wd), w ∈ cut n l ln co → words w.1 = [(w.1, 1, 1)]
  | 0, _, _, _, w, h => by cases h
  | n + 1, [], _, _, w, h => by cases h
  | n + 1, c :: r, ln, co, w, h => by
    by_cases h1 : c = 10
    · rw [cut_blank h1] at h
      exact cut_words n _ _ _ w h
    · by_cases h2 : c = 32
      · rw [cut_space h1 h2] at h
        exact cut_words n _ _ _ w h
      · rw [cut_word h1 h2] at h
        rcases List.mem_cons.mp h with rfl | h
        · exact words_one h1 h2
        · exact cut_words n _ _ _ w h
/-- a text whose one word is all of it: the word is at the beginning -/
theorem words_all {l w : List Nat} {ln co : Int} (h : words l = [(w, ln, co)]) (e : w = l) : ln = 1 ∧ co = 1 := by
  subst e
  cases w with
  | nil => cases h
  | cons c r =>
    have sub : ∀ (n : Nat) (m : List Nat) (ln co : Int) (v : Wd), v ∈ cut n m ln co → v.1.length ≤ m.length := by
      intro n
      induction n with
      | zero => intro m ln co v h; cases h
      | succ n ih =>
        intro m ln co v h
        cases m with
        | nil => cases h
        | cons c r =>
          by_cases h1 : c = 10
          · rw [cut_blank h1] at h
            exact Nat.le_trans (ih _ _ _ _ h) (by simp)
          · by_cases h2 : c = 32
            · rw [cut_space h1 h2] at h
              exact Nat.le_trans (ih _ _ _ _ h) (by simp)
            · rw [cut_word h1 h2] at h
              rcases List.mem_cons.mp h with rfl | h
              · rw [List.length_take]; omega
              · refine Nat.le_trans (ih _ _ _ _ h) ?_
                rw [List.length_drop]
                omega
    unfold words at h
    rw [List.length_cons] at h
    by_cases h1 : c = 10
    · rw [cut_blank h1] at h
      have := sub _ _ _ _ (c :: r, ln, co) (by rw [h]; exact List.mem_cons_self)
      simp at this
      omega
    · by_cases h2 : c = 32
      · rw [cut_space h1 h2] at h
        have := sub _ _ _ _ (c :: r, ln, co) (by rw [h]; exact List.mem_cons_self)
        simp at this
        omega
      · rw [cut_word h1 h2] at h
        injection h with h _
        injection h with _ h
        injection h with h h3
        exact ⟨h.symm, h3.symm⟩
end K01

open PySem L2 Wx

namespace K01
def top (i : Nat) : Stmt := PySem.Challenge.pw_whysheets_k01_words_of_texts.main.body.getD i (.Pass ⟨0, 0, 0, 0⟩)
variable {G : Gb}
abbrev nMixed : List Str := ["draw", "turn", "found", "prime", "blend", "grain"]
theorem scMixed : FnScope nMixed ["draw"] (defScope (top 24)) := ⟨rfl, rfl, rfl, by decide +kernel, rfl, by decide +kernel, by decide +kernel⟩
theorem fn_mixed (b : Bi G.mg) (T : Top G "_law_mixed" (top 24) ["draw"]) : Fn G "_law_mixed" 1 1 spMixed := by
  refine T.fn (N := nMixed) scMixed (fun vs H Q E h => ?_) (fun X vs H Q E d h => ?_)
  · obtain ⟨_, _, _, _, _, _, _, _, rfl, _⟩ := h
    rfl
  · have dd := d.toDef
    obtain ⟨p, aw, ac, ws, cs, r, t, B, rfl, I, hB, k⟩ := h
    show WB X _ _ [some (.ref p), none, none, none, none, none] H
    refine wb_cons ?_
    walk_at "wx"
    refine ws_par2 d 1 2 rfl rfl (by decide) (by decide +kernel) (by decide +kernel) (by intro _; rfl) (by rfl) ?_ (by rfl) (by rfl)
    walk_at "wx"
    refine ⟨_, _, rfl, dgk I.hd d4_turn, ?_⟩
    walk_at "wx"
    refine ⟨_, _, rfl, dpk I.hd d4_len d4_put_turn, ?_⟩
    walk_at "wx"
    refine ws_forL d (by intro _; rfl) ?_
    walk_at "wx"
    refine ⟨by show 4 ≤ sizeLine; decide, fun l hl => ⟨l, _, rfl, SqL.of upd_same, fun _ σ H' => H' = upd (upd H p (.dK (D4 aw ac r (t + 1)))) l (.lst [.int 2147483647, .int 2147483629, .int 2147483587, .int 2147483579]) ∧ ∃ f v3 v4 v5, σ = [some (.ref p), some (.int (t + 1)), some (.int f), v3, v4, v5],
      ⟨rfl, _, _, _, _, rfl⟩, ?_, ?_, ?_⟩⟩
    · rintro i σ H' _ ⟨rfl, _⟩
      exact SqL.of upd_same
    · rintro i x σ H' hx ⟨rfl, f, v3, v4, v5, rfl⟩
      obtain ⟨pr, rfl, h1, h2⟩ : ∃ pr : Int, x = .int pr ∧ 2147483579 ≤ pr ∧ pr ≤ 2147483647 := by
        have hm := List.mem_of_getElem? hx
        simp only [List.mem_cons, List.not_mem_nil, or_false] at hm
        rcases hm with rfl | rfl | rfl | rfl <;> exact ⟨_, rfl, by decide, by decide⟩
      walk_at "wg"
      walk_at "wx"
      refine ro_mul (.inl (by decide)) ?_
      walk_at "wx"
      refine ro_fdiv (by decide) ?_
      walk_at "wx"
      refine ws_forL d (by intro _; rfl) ?_
      walk_at "wx"
      have ndl : p ≠ l := fun e => by rw [e, upd_same] at hl; cases hl
      have ncl : ac ≠ l := fun e => by
        have z : ac ≠ p := ne_of I.hc I.hd (by intro q; cases q)
        rw [← e, upd_ne z, I.hc] at hl
        cases hl
      have ncp : ac ≠ p := ne_of I.hc I.hd (by intro q; cases q)
      have e1 : (upd (upd H p (.dK (D4 aw ac r (t + 1)))) l (.lst [.int 2147483647, .int 2147483629, .int 2147483587, .int 2147483579])) p = some (.dK (D4 aw ac r (t + 1))) := by rw [upd_ne ndl, upd_same]
      have e2 : (upd (upd H p (.dK (D4 aw ac r (t + 1)))) l (.lst [.int 2147483647, .int 2147483629, .int 2147483587, .int 2147483579])) ac = some (.lst (cs.map V.int)) := by rw [upd_ne ncl, upd_ne ncp]; exact I.hc
      refine ⟨_, _, rfl, dgk e1 d4_cells, ?_⟩
      refine ⟨ac, _, rfl, SqL.of e2, fun _ σ H' => H' = upd (upd H p (.dK (D4 aw ac r (t + 1)))) l (.lst [.int 2147483647, .int 2147483629, .int 2147483587, .int 2147483579]) ∧ ∃ b v5, σ = [some (.ref p), some (.int (t + 1)), some (.int f), some (.int pr), some (.int b), v5] ∧ 0 ≤ b ∧ b < 1152921504606846976,
        ⟨rfl, _, _, rfl, ?_, ?_⟩, ?_, ?_, ?_⟩
      · have := I.t0; omega
      · have := I.tB; omega
      · rintro j τ H2 _ ⟨rfl, _⟩
        exact SqL.of e2
      · rintro j y τ H2 hy ⟨rfl, b, v5, rfl, hb0, hb1⟩
        obtain ⟨g, rfl⟩ : ∃ g : Int, y = .int g := by
          have hm := List.mem_of_getElem? hy
          obtain ⟨g, _, e⟩ := List.mem_map.mp hm
          exact ⟨g, e.symm⟩
        walk_at "wg"
        walk_at "wx"
        refine ro_mul (.inr (by decide)) ?_
        walk_at "wx"
        refine ro_mod (by omega) ?_
        walk_at "wx"
        refine ⟨rfl, _, _, rfl, Int.emod_nonneg _ (by omega), ?_⟩
        have := Int.emod_lt_of_pos (b * 69621 + g + (t + 1)) (show 0 < pr by omega)
        omega
      · rintro τ H2 ⟨rfl, b, v5, rfl, hb0, hb1⟩
        walk_at "wx"
        refine ro_mul (.inr (by decide)) ?_
        walk_at "wx"
        refine ro_pow ⟨by decide, by decide, by omega⟩ ?_
        walk_at "wx"
        refine ro_mod (by omega) ?_
        walk_at "wx"
        exact ⟨rfl, _, _, _, _, rfl⟩
    · rintro σ H' ⟨rfl, f, v3, v4, v5, rfl⟩
      walk_at "wx"
      exact k _ _ (same_new hl)
abbrev nTake : List Str := ["draw", "many", "found"]
theorem scTake : FnScope nTake ["draw", "many"] (defScope (top 25)) := ⟨rfl, rfl, rfl, by decide +kernel, rfl, by decide +kernel, by decide +kernel⟩
theorem fn_take (b : Bi G.mg) (FM : Fn G "_law_mixed" 1 1 spMixed) (T : Top G "_law_take" (top 25) ["draw", "many"]) : Fn G "_law_take" 2 2 spTake := by
  refine T.fn (N := nTake) scTake (fun vs H Q E h => ?_) (fun X vs H Q E d h => ?_)
  · obtain ⟨_, _, _, _, rfl, _⟩ := h
    rfl
  · have dd := d.toDef
    obtain ⟨H0, p, B, many, rfl, ⟨s0, nd, aw, ac, ws, cs, r, t, nw, nc, I⟩, hB, m0, m1, k⟩ := h
    -- what follows the test, from any state of the draw
    have rest : ∀ (H1 : Hp) (aw ac : Addr) (ws cs : List Int) (r t : Int), Same H0 H1 → H0 aw = none → H0 ac = none → DrawIs H1 p aw ac ws cs r t (B + 1) → WB X ((defBody (top 25)).drop 1) { nx := fun _ H' => Q .non H', rt := Q } [some (.ref p), some (.int many), none] H1 := by
      intro H1 aw ac ws cs r t s1 nw nc J
      refine wb_cons ?_
      walk_at "wx"
      refine ⟨_, _, rfl, dgk J.hd d4_rest, ?_⟩
      walk_at "wx"
      refine ro_mod m0 ?_
      walk_at "wx"
      refine ⟨_, _, rfl, dgk J.hd d4_rest, ?_⟩
      walk_at "wx"
      refine ro_fdiv ⟨m0, m1⟩ ?_
      walk_at "wx"
      refine ⟨_, _, rfl, dpk J.hd d4_len d4_put_rest, ?_⟩
      walk_at "wx"
      have e0 : 0 ≤ r % many := Int.emod_nonneg _ (by omega)
      have e1 : r % many < many := Int.emod_lt_of_pos _ m0
      exact k _ _ e0 e1 ⟨same_upd s1 nd, nd, aw, ac, ws, cs, _, t, nw, nc, J.step J.t0 J.tB (Same.refl _)⟩
    show WB X _ _ [some (.ref p), some (.int many), none] H
    refine wb_cons ?_
    walk_at "wx"
    refine ⟨_, _, rfl, dgk I.hd d4_rest, ?_⟩
    walk_at "wx"
    refine ite_b (fun hr => ?_) (fun hr => ?_)
    · walk_at "wx"
      refine ⟨_, _, rfl, dgk I.hd d4_wide, ?_⟩
      walk_at "wx"
      refine ⟨by show 0 ≤ sizeLine; decide, fun l hl => ?_⟩
      have I2 := I.keep (Nat.le_succ B) (same_new (o := .lst []) hl)
      refine ro_neD dd (dp_ints (SqL.of I2.hw)) (.lst (SqL.of upd_same) .nil) (shaped_ints _) (by decide) ?_
      rw [eqv_nil]
      walk_at "wx"
      cases ws with
      | nil =>
        refine ite_f ?_
        refine we_call dd FM (by decide) (by decide +kernel) (by rfl) (by rfl) ?_
        walk_at "wx"
        refine ⟨p, aw, ac, [], cs, r, t, B + 1, rfl, I2, by omega, fun n H' s => ?_⟩
        walk_at "wx"
        have hp : H' p = some (.dK (D4 aw ac r (t + 1))) := s _ _ upd_same
        refine ⟨_, _, rfl, dpk hp d4_len d4_put_rest, ?_⟩
        have J := I2.step (t' := t + 1) (r' := r) (C := B + 1) (by have := I.t0; omega) (by have := I.tB; omega) s
        exact rest _ aw ac [] cs n (t + 1) (same_upd ((same_upd (s0.trans (same_new hl)) nd).trans s) nd) nw nc (J.step J.t0 J.tB (Same.refl _))
      | cons z ws =>
        refine ite_t ?_
        refine we_bm dd PySem.F.plainAttrs_list PySem.F.slot_list_pop PySem.F.type_list_pop (by rfl) (by rfl) (by rfl) (by rfl) (by rfl) ?_
        walk_at "wx"
        refine ⟨_, _, rfl, dgk I2.hd d4_wide, ty_list I2.hw, ?_⟩
        walk_at "wx"
        refine rm_pop0 I2.hw ?_
        walk_at "wx"
        have e1 : p ≠ aw := ne_of I.hd I.hw (by intro q; cases q)
        refine ⟨_, _, rfl, dpk (by rw [upd_ne e1]; exact I2.hd) d4_len d4_put_rest, ?_⟩
        exact rest _ aw ac ws cs z t (same_upd (same_upd (s0.trans (same_new hl)) nw) nd) nw nc (I2.pop (Same.refl _))
    · refine wb_nil ?_
      exact rest H aw ac ws cs r t s0 nw nc (I.keep (Nat.le_succ B) (Same.refl _))

abbrev nPick : List Str := ["draw", "some"]
theorem scPick : FnScope nPick ["draw", "some"] (defScope (top 26)) := ⟨rfl, rfl, rfl, by decide +kernel, rfl, by decide +kernel, by decide +kernel⟩
theorem fn_pick (b : Bi G.mg) (FT : Fn G "_law_take" 2 2 spTake) (T : Top G "_law_pick" (top 26) ["draw", "some"]) : Fn G "_law_pick" 2 3 (spPick G.K) := by
  refine T.fn (N := nPick) scPick (fun vs H Q E h => ?_) (fun X vs H Q E d h => ?_)
  · obtain ⟨_, _, _, _, _, rfl, _⟩ := h
    rfl
  · have dd := d.toDef
    obtain ⟨H0, p, l, B, xs, rfl, A, hB, hl, l0, l1, k⟩ := h
    show WB X _ _ [some (.ref p), some (.ref l)] H
    refine wb_one ?_
    walk_at "wx"
    refine we_call dd FT (by decide) (by decide +kernel) (by rfl) (by rfl) ?_
    walk_at "wx"
    refine rc_lenL dd (A.same.seq hl) ?_
    walk_at "wx"
    refine ⟨H0, p, B, _, rfl, A, hB, by omega, by omega, fun n H' h0 h1 A' => ?_⟩
    have e : xs[n.toNat]? = some (xs[n.toNat]'(by omega)) := List.getElem?_eq_getElem (by omega)
    have ez : ((n.toNat : Nat) : Int) = n := Int.toNat_of_nonneg h0
    refine rx_list dd (A'.same.seq hl) (by rw [← ez]; exact atI_nat e) ?_
    exact k _ _ _ e A'
abbrev nBegun : List Str := ["script", "wide", "grain"]
theorem scBegun : FnScope nBegun ["script"] (defScope (top 23)) := ⟨rfl, rfl, rfl, by decide +kernel, rfl, by decide +kernel, by decide +kernel⟩
theorem fn_begun (b : Bi G.mg) (T : Top G "_law_begun" (top 23) ["script"]) : Fn G "_law_begun" 1 1 (spBegun G.K) := by
  refine T.fn (N := nBegun) scBegun (fun vs H Q E h => ?_) (fun X vs H Q E d h => ?_)
  · obtain ⟨_, _, rfl, _⟩ := h
    rfl
  · have dd := d.toDef
    obtain ⟨a, ns, rfl, hS, hn, k⟩ := h
    show WB X _ _ [some (.ref a), none, none] H
    refine wb_cons ?_
    refine ws_lcL d 1 [("grain", 2)] (by rfl) (by decide +kernel) (by decide +kernel) (by intro _; rfl) (by rfl) (by decide +kernel) ?_
    walk_at "wx"
    refine ⟨a, _, rfl, hS, fun L hL => ⟨fun i H' => ∃ acc : List Int, acc.length ≤ i ∧ H' = upd H L (.lst (acc.map V.int)), ⟨[], Nat.zero_le _, rfl⟩, ?_, ?_, ?_⟩⟩
    · rintro i H' _ ⟨acc, _, rfl⟩
      exact (same_new hL).seq hS
    · rintro i x H' hx ⟨acc, hl, rfl⟩ X' dX
      obtain ⟨g, hg, rfl⟩ := int_of_map hx
      dsimp only [L2.wipe, List.map, List.set]
      walk_at "wg"
      refine ⟨rfl, fun X' dX => wts_one ?_⟩
      walk_at "wx"
      refine rc_abs ?_
      walk_at "wx"
      refine ro_pow ⟨by decide, by decide, by decide⟩ ?_
      walk_at "wx"
      refine ite_b (fun _ => ?_) (fun _ => ⟨acc, by omega, rfl⟩)
      intro X'' d2
      walk_at "wx"
      refine rc_abs ?_
      walk_at "wx"
      refine ro_pow ⟨by decide, by decide, by decide⟩ ?_
      walk_at "wx"
      have hi : i < ns.length := (List.getElem?_eq_some_iff.mp hg).1
      refine ⟨_, upd_same, by rw [List.length_map]; exact len_lt (by omega), _, ?_, by rw [upd_upd, map_app]⟩
      rw [List.length_append, List.length_singleton]
      omega
    · rintro H' ⟨ws, hw, rfl⟩
      rw [List.length_map] at hw
      refine wb_one ?_
      walk_at "wx"
      refine we_disp4 dd fun p hp => ?_
      have npL : L ≠ p := ne_of_none upd_same hp
      walk_at "wx"
      refine we_lcL dd [("grain", 2)] (by decide +kernel) (by intro _; rfl) ?_
      walk_at "wx"
      refine ⟨a, _, rfl, ((same_new hL).trans (same_new hp)).seq hS, fun M hM => ⟨fun i H' => ∃ acc : List Int, (∀ c ∈ acc, 0 ≤ c ∧ c < 2147483648) ∧ acc.length ≤ i ∧ H' = upd (upd (upd H L (.lst (ws.map V.int))) p (.dK [])) M (.lst (acc.map V.int)), ⟨[], (fun _ h => nomatch h), Nat.zero_le _, rfl⟩, ?_, ?_, ?_⟩⟩
      · rintro i H' _ ⟨acc, _, _, rfl⟩
        exact (((same_new hL).trans (same_new hp)).trans (same_new hM)).seq hS
      · rintro i x H' hx ⟨acc, hc, hl, rfl⟩ X' dX
        obtain ⟨g, hg, rfl⟩ := int_of_map hx
        dsimp only [L2.wipe, List.map, List.set]
        walk_at "wg"
        refine ⟨rfl, fun X' dX => wts_nil (ite_t ?_)⟩
        intro X'' d2
        walk_at "wx"
        refine rc_abs ?_
        walk_at "wx"
        refine ro_mod (by decide) ?_
        have hi : i < ns.length := (List.getElem?_eq_some_iff.mp hg).1
        refine ⟨_, upd_same, by rw [List.length_map]; exact len_lt (by omega), _, ?_, ?_, by rw [upd_upd, map_app]⟩
        · intro c hm
          rcases List.mem_append.mp hm with hm | hm
          · exact hc c hm
          · rw [List.mem_singleton.mp hm]
            have h0 := Int.emod_nonneg (if g < 0 then -g else g) (show (2147483629 : Int) ≠ 0 by decide)
            have h1 := Int.emod_lt_of_pos (if g < 0 then -g else g) (show (0 : Int) < 2147483629 by decide)
            omega
        · rw [List.length_append, List.length_singleton]
          omega
      · rintro H' ⟨cs, hc, _, rfl⟩
        walk_at "wx"
        have npM : p ≠ M := ne_of_none upd_same hM
        have nLM : L ≠ M := ne_of_none (by rw [upd_ne npL]; exact upd_same) hM
        refine ⟨by rw [upd_ne npM]; exact upd_same, ?_⟩
        rw [d4_make]
        have hMp : H M = none := by rw [upd_ne npM.symm, upd_ne nLM.symm] at hM; exact hM
        have hpH : H p = none := by rw [upd_ne npL.symm] at hp; exact hp
        refine k p _ ⟨same_upd (same_upd (same_upd (same_upd (Same.refl _) hL) hpH) hMp) hpH, hpH, L, M, ws, cs, 0, 0, hL, hMp, ⟨upd_same, ?_, ?_, by decide, by decide, hc, by omega, nLM⟩⟩
        · rw [upd_ne npL, upd_ne nLM, upd_ne npL, upd_same]
        · rw [upd_ne npM.symm, upd_same]
end K01

namespace K01
variable {G : Gb}
theorem ch_a : ("a" : Str).cps.toList = [97] := by decide +kernel
theorem ch_z : ("z" : Str).cps.toList = [122] := by decide +kernel
theorem ch_A : ("A" : Str).cps.toList = [65] := by decide +kernel
theorem ch_Z : ("Z" : Str).cps.toList = [90] := by decide +kernel
theorem ch_0 : ("0" : Str).cps.toList = [48] := by decide +kernel
theorem ch_9 : ("9" : Str).cps.toList = [57] := by decide +kernel
theorem ch_sp : (" " : Str).cps.toList = [32] := by decide +kernel
theorem ch_ti : ("~" : Str).cps.toList = [126] := by decide +kernel
theorem t_us : ("_" : Str) = tx [95] := by decide +kernel
theorem t_nl : ("\n" : Str) = tx [10] := by decide +kernel
theorem t_mi : ("-" : Str) = tx [45] := by decide +kernel
theorem t_0 : ("0" : Str) = tx [48] := by decide +kernel
theorem t_em : ("" : Str) = tx [] := by decide +kernel
theorem one_dec {a c : Nat} : decide (tx [a] = tx [c]) = decide (a = c) := by
  rw [decide_eq_decide, tx_inj]
  simp
def btw (a b c : Nat) : Bool := decide (a ≤ c) && decide (c ≤ b)
theorem small_cases {l : List Nat} (h : l.length ≤ 1) : l = [] ∨ ∃ c, l = [c] := by
  match l, h with
  | [], _ => exact .inl rfl
  | [c], _ => exact .inr ⟨c, rfl⟩
theorem one_us {a : Nat} : decide (tx [a] = ("_" : Str)) = decide (a = 95) := by rw [t_us]; exact one_dec
theorem one_nl {a : Nat} : decide (tx [a] = ("\n" : Str)) = decide (a = 10) := by rw [t_nl]; exact one_dec
theorem one_mi {a : Nat} : decide (tx [a] = ("-" : Str)) = decide (a = 45) := by rw [t_mi]; exact one_dec
theorem one_0 {a : Nat} : decide (tx [a] = ("0" : Str)) = decide (a = 48) := by rw [t_0]; exact one_dec
/-- lo <= e <= hi, e a sign or nothing -/
theorem we_btw {X : Cx} {e : Expr} {σ : L2.St} {H : Hp} {Q : VK} {lo hi : Str} (a b : Nat) {j1 j2} {p1 p2 pos : Pos} (hlo : lo.cps.toList = [a]) (hhi : hi.cps.toList = [b]) (hm : lastMarks [.LtE, .LtE] [e, .Constant (.str hi) j2 p2] = false)
    (h : WE X e σ H fun v H1 => ∃ l, v = .str (tx l) ∧ l.length ≤ 1 ∧ Q (.bl (one (btw a b) l)) H1) : WE X (.Compare (.Constant (.str lo) j1 p1) [.LtE, .LtE] [e, .Constant (.str hi) j2 p2] pos) σ H Q := by
  refine we_chain hm (we_str (we_mono (fun v H1 q => ?_) h))
  obtain ⟨l, rfl, hl, k⟩ := q
  refine ro_leZ ?_
  refine ⟨_, rfl, ?_⟩
  rw [hlo, tx_list]
  rcases small_cases hl with rfl | ⟨c, rfl⟩
  · rw [leL_nil]
    exact ite_f k
  · rw [leL_one]
    have k : Q (.bl (decide (a ≤ c) && decide (c ≤ b))) H1 := k
    refine ite_b (fun e => ?_) (fun e => by rw [e, Bool.false_and] at k; exact k)
    rw [e, Bool.true_and] at k
    refine we_str (ro_leZ ?_)
    rw [hhi, tx_list, leL_one]
    exact k
theorem wt_btw {X : Cx} {e : Expr} {σ : L2.St} {H : Hp} {Q : Bool → Hp → Prop} {lo hi : Str} (a b : Nat) {j1 j2} {p1 p2 pos : Pos} (hlo : lo.cps.toList = [a]) (hhi : hi.cps.toList = [b]) (hm : lastMarks [.LtE, .LtE] [e, .Constant (.str hi) j2 p2] = false)
    (h : WE X e σ H fun v H1 => ∃ l, v = .str (tx l) ∧ l.length ≤ 1 ∧ Q (one (btw a b) l) H1) : WT X (.Compare (.Constant (.str lo) j1 p1) [.LtE, .LtE] [e, .Constant (.str hi) j2 p2] pos) σ H Q := by
  refine wt_chain hm (we_str (we_mono (fun v H1 q => ?_) h))
  obtain ⟨l, rfl, hl, k⟩ := q
  refine ro_leZ ?_
  refine ⟨_, rfl, ?_⟩
  rw [hlo, tx_list]
  rcases small_cases hl with rfl | ⟨c, rfl⟩
  · rw [leL_nil]
    exact ite_f k
  · rw [leL_one]
    have k : Q (decide (a ≤ c) && decide (c ≤ b)) H1 := k
    refine ite_b (fun e => ?_) (fun e => by rw [e, Bool.false_and] at k; exact k)
    rw [e, Bool.true_and] at k
    refine we_str (ro_leZ ⟨_, rfl, ?_⟩)
    rw [hhi, tx_list, leL_one]
    exact k
/-- is_small, is_figure -/
def spOne (p : Nat → Bool) : Sp := fun vs H Q _ => ∃ l, vs = [.str (tx l)] ∧ l.length ≤ 1 ∧ Q (.bl (one p l)) H
theorem fn_small (T : Top G "is_small" (top 18) ["sign"]) : Fn G "is_small" 1 1 (spOne isSmall) := by
  refine T.fn (N := ["sign"]) ⟨rfl, rfl, rfl, by decide +kernel, rfl, by decide +kernel, by decide +kernel⟩ (fun vs H Q E h => ?_) (fun X vs H Q E d h => ?_)
  · obtain ⟨_, rfl, _⟩ := h
    rfl
  · have dd := d.toDef
    obtain ⟨l, rfl, hl, k⟩ := h
    show WB X _ _ [some (.str (tx l))] H
    refine wb_one (ws_ret (we_btw 97 122 ch_a ch_z (by rfl) ?_))
    walk_at "wx"
    exact ⟨hl, k⟩
theorem fn_figure (T : Top G "is_figure" (top 19) ["sign"]) : Fn G "is_figure" 1 1 (spOne isFig) := by
  refine T.fn (N := ["sign"]) ⟨rfl, rfl, rfl, by decide +kernel, rfl, by decide +kernel, by decide +kernel⟩ (fun vs H Q E h => ?_) (fun X vs H Q E d h => ?_)
  · obtain ⟨_, rfl, _⟩ := h
    rfl
  · have dd := d.toDef
    obtain ⟨l, rfl, hl, k⟩ := h
    show WB X _ _ [some (.str (tx l))] H
    refine wb_one (ws_ret (we_btw 48 57 ch_0 ch_9 (by rfl) ?_))
    walk_at "wx"
    exact ⟨hl, k⟩
def spInner : Sp := fun vs H Q _ => ∃ c, vs = [.str (tx [c])] ∧ Q (.bl (isInner c)) H
theorem fn_inner (F1 : Fn G "is_small" 1 1 (spOne isSmall)) (F2 : Fn G "is_figure" 1 1 (spOne isFig)) (T : Top G "is_inner" (top 17) ["sign"]) : Fn G "is_inner" 1 2 spInner := by
  refine T.fn (N := ["sign"]) ⟨rfl, rfl, rfl, by decide +kernel, rfl, by decide +kernel, by decide +kernel⟩ (fun vs H Q E h => ?_) (fun X vs H Q E d h => ?_)
  · obtain ⟨_, rfl, _⟩ := h
    rfl
  · have dd := d.toDef
    obtain ⟨c, rfl, k⟩ := h
    show WB X _ _ [some (.str (tx [c]))] H
    refine wb_one ?_
    walk_at "wx"
    refine we_call dd F1 (by decide) (by decide +kernel) (by rfl) (by rfl) ?_
    walk_at "wx"
    refine ⟨Nat.le_refl _, ?_⟩
    walk_at "wx"
    have k : Q (.bl (isSmall c || (isBig c || (isFig c || decide (c = 95))))) H := k
    show if isSmall c = true then _ else _
    refine ite_b (fun e => by rw [e, Bool.true_or] at k; exact k) (fun e => ?_)
    rw [e, Bool.false_or] at k
    refine we_or (we_btw 65 90 ch_A ch_Z (by rfl) ?_)
    walk_at "wx"
    refine ⟨Nat.le_refl _, ?_⟩
    walk_at "wx"
    show if isBig c = true then _ else _
    refine ite_b (fun e => by rw [e, Bool.true_or] at k; exact k) (fun e => ?_)
    rw [e, Bool.false_or] at k
    walk_at "wx"
    refine we_call dd F2 (by decide) (by decide +kernel) (by rfl) (by rfl) ?_
    walk_at "wx"
    refine ⟨Nat.le_refl _, ?_⟩
    walk_at "wx"
    show if isFig c = true then _ else _
    refine ite_b (fun e => by rw [e, Bool.true_or] at k; exact k) (fun e => ?_)
    rw [e, Bool.false_or] at k
    walk_at "wx"
    rw [one_us]
    exact k
/-- inner_end(text, at): behind the run of inner signs -/
def spIEnd : Sp := fun vs H Q _ => ∃ (l : List Nat) (i : Nat), vs = [.str (tx l), .int i] ∧ l.length ≤ 100000 ∧ i ≤ l.length ∧ Q (.int ((i + run (l.drop i) : Nat) : Int)) H
theorem drop_at {l : List Nat} {i : Nat} (h : i < l.length) : ∃ c, l[i]? = some c ∧ l.drop i = c :: l.drop (i + 1) := ⟨l[i], List.getElem?_eq_getElem h, List.drop_eq_getElem_cons h⟩
theorem atI_at {l : List Nat} {i c : Nat} (h : l[i]? = some c) : atI l (i : Int) = some c := atI_nat h
theorem fn_iend (F : Fn G "is_inner" 1 2 spInner) (b : Bi G.mg) (T : Top G "inner_end" (top 16) ["text", "at"]) : Fn G "inner_end" 2 3 spIEnd := by
  refine T.fn (N := ["text", "at"]) ⟨rfl, rfl, rfl, by decide +kernel, rfl, by decide +kernel, by decide +kernel⟩ (fun vs H Q E h => ?_) (fun X vs H Q E d h => ?_)
  · obtain ⟨_, _, rfl, _⟩ := h
    rfl
  · have dd := d.toDef
    obtain ⟨l, i, rfl, hl, hi, k⟩ := h
    show WB X _ _ [some (.str (tx l)), some (.int i)] H
    refine wb_cons (ws_while d (fun σ H' => H' = H ∧ ∃ j : Nat, σ = [some (.str (tx l)), some (.int j)] ∧ j ≤ l.length ∧ j + run (l.drop j) = i + run (l.drop i)) (fun σ H' => match σ with | [_, some (.int j)] => l.length - j.toNat | _ => 0) ⟨rfl, i, rfl, hi, rfl⟩ ?_)
    rintro σ H' ⟨rfl, j, rfl, hj, e⟩
    walk_at "wx"
    refine rc_lenS (by rw [tx_len]; exact len_le hl) ?_
    rw [tx_len]
    walk_at "wx"
    by_cases hlt : j < l.length
    · have hd : decide ((j : Int) < (l.length : Int)) = true := decide_eq_true (by omega)
      rw [hd]
      refine ite_t ?_
      walk_at "wx"
      refine we_call dd F (by decide) (by decide +kernel) (by rfl) (by rfl) ?_
      walk_at "wx"
      obtain ⟨c, hc, hdr⟩ := drop_at hlt
      refine rx_tx hl (atI_at hc) ?_
      walk_at "wx"
      cases hic : isInner c with
      | true =>
        refine ite_t ?_
        refine wb_one (ws_aug d 1 (by rfl) (by decide +kernel) rfl ip_add ?_)
        walk_at "wx"
        refine ⟨_, _, rfl, rfl, ⟨rfl, j + 1, rfl, by omega, ?_⟩, ?_⟩
        · rw [← e, hdr]
          have : run (c :: l.drop (j + 1)) = run (l.drop (j + 1)) + 1 := by unfold run; rw [List.takeWhile_cons, if_pos hic]; rfl
          omega
        · show l.length - ((j : Int) + 1).toNat < l.length - ((j : Int)).toNat
          omega
      | false =>
        refine ite_f ?_
        walk_at "wx"
        have hr : run (c :: l.drop (j + 1)) = 0 := by unfold run; rw [List.takeWhile_cons, if_neg (by rw [hic]; exact Bool.false_ne_true)]; rfl
        rw [hdr, hr] at e
        rw [← e] at k
        exact k
    · have hd : decide ((j : Int) < (l.length : Int)) = false := decide_eq_false (by omega)
      rw [hd]
      refine ite_f ?_
      refine ite_f ?_
      walk_at "wx"
      have hr : l.drop j = [] := List.drop_eq_nil_of_le (by omega)
      rw [hr] at e
      rw [← e] at k
      exact k
end K01

namespace K01
variable {G : Gb}
/-! ### globals that are tuples of texts -/
structure TupG (G : Gb) (x : Str) (ss : List Str) : Prop where
  is : ∃ a : Addr, G.mg x = some (.ref a) ∧ ∀ H : Hp, SqT G.K H a (ss.map V.str)
theorem flat_strs : ∀ ss : List Str, (ss.map V.str).all flatV = true
  | [] => rfl
  | _ :: ss => flat_strs ss
theorem inV_strs (z : Str) : ∀ ss : List Str, inV (.str z) (ss.map V.str) = decide (z ∈ ss)
  | [] => rfl
  | s :: ss => by
    have ih := inV_strs z ss
    unfold inV at ih ⊢
    rw [List.map_cons, List.any_cons, ih]
    have e : eqV (.str s) (.str z) = decide (z = s) := by
      show (s == z) = _
      rw [Bool.eq_iff_iff, beq_iff_eq, decide_eq_true_eq]
      exact eq_comm
    rw [e, Bool.eq_iff_iff]
    simp
theorem ro_inG {X : Cx} {N : List Str} {sc : Scope} {k : Nat} {z : Str} {H : Hp} {Q : VK} {a : Addr} {ss : List Str} (d : Def X G N sc k) (h : SqT G.K H a (ss.map V.str) ∨ SqL G.K H a (ss.map V.str)) (q : Q (.bl (decide (z ∈ ss))) H) : RO X (compareOp .In) (.str z) (.ref a) H Q :=
  ro_in d h.symm rfl (flat_strs ss) (by rw [inV_strs]; exact q)
theorem ro_notInG {X : Cx} {N : List Str} {sc : Scope} {k : Nat} {z : Str} {H : Hp} {Q : VK} {a : Addr} {ss : List Str} (d : Def X G N sc k) (h : SqT G.K H a (ss.map V.str) ∨ SqL G.K H a (ss.map V.str)) (q : Q (.bl (!decide (z ∈ ss))) H) : RO X (compareOp .NotIn) (.str z) (.ref a) H Q :=
  ro_notIn d h.symm rfl (flat_strs ss) (by rw [inV_strs]; exact q)
/-! ### slices -/
theorem drop_min (l : List Nat) (i : Nat) : l.drop (min i l.length) = l.drop i := by
  by_cases h : i ≤ l.length
  · rw [Nat.min_eq_left h]
  · have e : min i l.length = l.length := Nat.min_eq_right (by omega)
    rw [e, List.drop_length, List.drop_eq_nil_of_le (by omega)]
theorem cutL_nn (l : List Nat) (i j : Nat) : cutL l (some (i : Int)) (some (j : Int)) = (l.drop i).take (j - i) := by
  unfold cutL
  rw [HT.sIx_nat, HT.sIx_nat, drop_min]
  by_cases h : i ≤ l.length
  · have e : min i l.length = i := Nat.min_eq_left h
    rw [e]
    by_cases h2 : j ≤ l.length
    · have e2 : min j l.length = j := Nat.min_eq_left h2
      rw [e2]
    · have e2 : min j l.length = l.length := Nat.min_eq_right (by omega)
      rw [e2, List.take_of_length_le (by rw [List.length_drop]; omega), List.take_of_length_le (by rw [List.length_drop]; omega)]
  · have e : l.drop i = [] := List.drop_eq_nil_of_le (by omega)
    rw [e, List.take_nil, List.take_nil]
theorem cutL_n (l : List Nat) (i : Nat) : cutL l (some (i : Int)) none = l.drop i := by
  unfold cutL
  rw [HT.sIx_nat, drop_min]
  show (l.drop i).take (l.length - min i l.length) = _
  refine List.take_of_length_le ?_
  rw [List.length_drop]
  have : min i l.length ≤ i := Nat.min_le_left _ _
  omega
theorem cutL_to (l : List Nat) (j : Nat) : cutL l none (some (j : Int)) = l.take j := by
  unfold cutL
  rw [HT.sIx_nat]
  show (l.drop 0).take (min j l.length - 0) = _
  rw [List.drop_zero, Nat.sub_zero]
  by_cases h : j ≤ l.length
  · have e : min j l.length = j := Nat.min_eq_left h
    rw [e]
  · have e : min j l.length = l.length := Nat.min_eq_right (by omega)
    rw [e, List.take_of_length_le (by omega), List.take_of_length_le (by omega)]
theorem take1 (l : List Nat) : (l.take 1).length ≤ 1 := by rw [List.length_take]; omega
theorem t_le : ("<=" : Str) = tx [60, 61] := by decide +kernel
theorem t_ee : ("==" : Str) = tx [61, 61] := by decide +kernel
/-- word_end(text, at) -/
def spWEnd : Sp := fun vs H Q _ => ∃ (l : List Nat) (i : Nat), vs = [.str (tx l), .int i] ∧ l.length ≤ 100000 ∧ i < l.length ∧ Q (.int ((i + wlen (l.drop i) : Nat) : Int)) H
theorem fn_wend (F1 : Fn G "is_inner" 1 2 spInner) (F2 : Fn G "is_figure" 1 1 (spOne isFig)) (F3 : Fn G "inner_end" 2 3 spIEnd) (P : TupG G "PAIRED" ["<=", "=="]) (T : Top G "word_end" (top 15) ["text", "at"]) : Fn G "word_end" 2 4 spWEnd := by
  refine T.fn (N := ["text", "at"]) ⟨rfl, rfl, rfl, by decide +kernel, rfl, by decide +kernel, by decide +kernel⟩ (fun vs H Q E h => ?_) (fun X vs H Q E d h => ?_)
  · obtain ⟨_, _, rfl, _⟩ := h
    rfl
  · have dd := d.toDef
    obtain ⟨l, i, rfl, hl, hi, k⟩ := h
    obtain ⟨c, hc, hdr⟩ := drop_at hi
    rw [hdr] at k
    show WB X _ _ [some (.str (tx l)), some (.int i)] H
    refine wb_cons ?_
    walk_at "wx"
    refine we_call dd F1 (by decide) (by decide +kernel) (by rfl) (by rfl) ?_
    walk_at "wx"
    refine rx_tx hl (atI_at hc) ?_
    walk_at "wx"
    cases hic : isInner c with
    | true =>
      have e : wlen (c :: l.drop (i + 1)) = run (l.drop i) := by
        rw [wlen_eq, if_pos (by rw [hic]; rfl), hdr]
        have : run (c :: l.drop (i + 1)) = run (l.drop (i + 1)) + 1 := by unfold run; rw [List.takeWhile_cons, if_pos hic]; rfl
        omega
      rw [e] at k
      refine ite_t ?_
      walk_at "wx"
      refine we_call dd F3 (by decide) (by decide +kernel) (by rfl) (by rfl) ?_
      walk_at "wx"
      exact ⟨l, i, rfl, hl, by omega, k⟩
    | false =>
      refine ite_f ?_
      walk_at "wx"
      refine rx_tx hl (atI_at hc) ?_
      walk_at "wx"
      rw [one_mi]
      have rest : (decide (c = 45) && one isFig ((l.drop (i + 1)).take 1)) = false → WB X ((defBody (top 15)).drop 2) { nx := fun _ H' => Q .non H', rt := Q } [some (.str (tx l)), some (.int i)] H := fun e => by
        refine wb_one ?_
        walk_at "wx"
        obtain ⟨aP, hP, sP⟩ := P.is
        refine rsl_tx hl ?_
        walk_at "wx"
        refine we_glob dd (v := .ref aP) (by decide +kernel) hP rfl ?_
        refine ro_inG dd (.inl (sP H)) ?_
        have ej : ((i : Int) + 2) = ((i + 2 : Nat) : Int) := by omega
        rw [ej, cutL_nn, hdr]
        walk_at "wx"
        have e2 : i + 2 - i = 2 := by omega
        rw [e2, t_le, t_ee]
        have ew : wlen (c :: l.drop (i + 1)) = if (c :: l.drop (i + 1)).take 2 = [60, 61] ∨ (c :: l.drop (i + 1)).take 2 = [61, 61] then 2 else 1 := by
          rw [wlen_eq, if_neg (by rw [hic, Bool.false_or, e]; exact Bool.false_ne_true)]
        rw [ew] at k
        by_cases hp : (c :: l.drop (i + 1)).take 2 = [60, 61] ∨ (c :: l.drop (i + 1)).take 2 = [61, 61]
        · rw [if_pos hp] at k
          rw [decide_eq_true (by rcases hp with hp | hp <;> rw [hp] <;> simp)]
          refine ite_t ?_
          walk_at "wx"
          exact k
        · rw [if_neg hp] at k
          rw [decide_eq_false (by simp only [List.mem_cons, List.not_mem_nil, or_false, tx_inj]; exact hp)]
          refine ite_f ?_
          walk_at "wx"
          exact k
      cases h45 : decide (c = 45) with
      | false =>
        refine ite_f ?_
        refine ite_f ?_
        refine wb_nil ?_
        exact rest (by rw [h45]; rfl)
      | true =>
        refine ite_t ?_
        walk_at "wx"
        refine we_call dd F2 (by decide) (by decide +kernel) (by rfl) (by rfl) ?_
        walk_at "wx"
        refine rsl_tx hl ?_
        have ej : ((i : Int) + 1) = ((i + 1 : Nat) : Int) := by omega
        have ej2 : ((i : Int) + 2) = ((i + 2 : Nat) : Int) := by omega
        rw [ej, ej2, cutL_nn]
        walk_at "wx"
        have e2 : i + 2 - (i + 1) = 1 := by omega
        rw [e2]
        refine ⟨take1 _, ?_⟩
        walk_at "wx"
        cases hf : one isFig ((l.drop (i + 1)).take 1) with
        | false =>
          refine ite_f ?_
          refine wb_nil ?_
          exact rest (by rw [hf, Bool.and_false])
        | true =>
          have e : wlen (c :: l.drop (i + 1)) = 1 + run (l.drop (i + 1)) := by rw [wlen_eq, if_pos (by rw [h45, hf]; simp)]
          rw [e] at k
          refine ite_t ?_
          walk_at "wx"
          refine we_call dd F3 (by decide) (by decide +kernel) (by rfl) (by rfl) ?_
          walk_at "wx"
          refine ⟨l, i + 1, rfl, hl, by omega, ?_⟩
          have : i + 1 + run (l.drop (i + 1)) = i + (1 + run (l.drop (i + 1))) := by omega
          rw [this]
          exact k
end K01

namespace K01
variable {G : Gb}
theorem t_sp : (" " : Str) = tx [32] := by decide +kernel
/-! ### the words, one behind another -/
def cutA (l : List Nat) (ln co : Int) : List Wd := cut l.length l ln co
theorem cutA_nil (ln co : Int) : cutA [] ln co = [] := rfl
theorem cutA_nl {c : Nat} {r : List Nat} {ln co : Int} (h : c = 10) : cutA (c :: r) ln co = cutA r (ln + 1) 1 := by
  unfold cutA
  rw [List.length_cons, cut_blank h]
theorem cutA_sp {c : Nat} {r : List Nat} {ln co : Int} (h : ¬ c = 10) (h2 : c = 32) : cutA (c :: r) ln co = cutA r ln (co + 1) := by
  unfold cutA
  rw [List.length_cons, cut_space h h2]
theorem cutA_wd {c : Nat} {r : List Nat} {ln co : Int} (h : ¬ c = 10) (h2 : ¬ c = 32) : cutA (c :: r) ln co = ((c :: r).take (wlen (c :: r)), ln, co) :: cutA ((c :: r).drop (wlen (c :: r))) ln (co + wlen (c :: r)) := by
  unfold cutA
  rw [List.length_cons, cut_word h h2]
  congr 1
  refine cut_fuel _ _ _ _ _ ?_ (Nat.le_refl _)
  have := wlen_pos c r
  rw [List.length_drop, List.length_cons]
  omega
abbrev wv (w : Wd) : List V := [.str (tx w.1), .int w.2.1, .int w.2.2]
/-- the list at p holds these words, each a tuple -/
def WordsAt (H : Hp) (p : Addr) (ws : List Wd) : Prop := ∃ as : List Addr, H p = some (.lst (as.map V.ref)) ∧ as.length = ws.length ∧ ∀ (i : Nat) (a : Addr) (w : Wd), as[i]? = some a → ws[i]? = some w → H a = some (.tup (wv w))
theorem WordsAt.same {H H' : Hp} {p : Addr} {ws : List Wd} (h : WordsAt H p ws) (s : Same H H') : WordsAt H' p ws := by
  obtain ⟨as, h1, h2, h3⟩ := h
  exact ⟨as, s _ _ h1, h2, fun i a w e1 e2 => s _ _ (h3 i a w e1 e2)⟩
theorem WordsAt.nil {H : Hp} {p : Addr} : WordsAt (upd H p (.lst [])) p [] := ⟨[], upd_same, rfl, fun i a w e => by simp at e⟩
theorem WordsAt.snoc {H : Hp} {p q : Addr} {ws : List Wd} {w : Wd} {as : List Addr} (h1 : H p = some (.lst (as.map V.ref))) (h2 : as.length = ws.length) (h3 : ∀ (i : Nat) (a : Addr) (w : Wd), as[i]? = some a → ws[i]? = some w → H a = some (.tup (wv w))) (hq : H q = none) :
    WordsAt (upd (upd H q (.tup (wv w))) p (.lst (as.map V.ref ++ [.ref q]))) p (ws ++ [w]) := by
  have eas : as.map V.ref ++ [.ref q] = (as ++ [q]).map V.ref := by rw [List.map_append]; rfl
  rw [eas]
  have npq : p ≠ q := ne_of_none h1 hq
  refine ⟨as ++ [q], upd_same, by rw [List.length_append, List.length_append, h2]; rfl, fun i a v e1 e2 => ?_⟩
  by_cases hi : i < as.length
  · rw [List.getElem?_append_left hi] at e1
    rw [List.getElem?_append_left (by omega)] at e2
    have e3 := h3 i a v e1 e2
    have n1 : a ≠ p := fun z => by
      rw [z, h1] at e3
      cases e3
    rw [upd_ne n1, upd_ne (ne_of_none e3 hq)]
    exact e3
  · rw [List.getElem?_append_right (by omega)] at e1 e2
    have e0 : i - as.length = 0 := by
      cases h : i - as.length with
      | zero => rfl
      | succ n => rw [h] at e1; simp at e1
    rw [← h2] at e2
    rw [e0] at e1 e2
    cases e1
    cases e2
    rw [upd_ne npq.symm, upd_same]
/-- the lists of words of what is kept -/
theorem same_app {H0 H : Hp} {p q : Addr} {o o' : HO} (s : Same H0 H) (n : H0 p = none) (hq : H q = none) : Same H0 (upd (upd H q o) p o') := fun b u e => by
  rw [upd_ne (ne_of_none e n), upd_ne (ne_of_none (s _ _ e) hq)]
  exact s _ _ e
def spSplit : Sp := fun vs H Q _ => ∃ l : List Nat, vs = [.str (tx l)] ∧ l.length ≤ 10000 ∧ ∀ (p : Addr) (H' : Hp), H p = none → Same H H' → WordsAt H' p (words l) → Q (.ref p) H'
abbrev nSplit : List Str := ["text", "found", "line", "begin", "at", "end"]
theorem scSplit : FnScope nSplit ["text"] (defScope (top 14)) := ⟨rfl, rfl, rfl, by decide +kernel, rfl, by decide +kernel, by decide +kernel⟩
theorem fn_split (b : Bi G.mg) (F : Fn G "word_end" 2 4 spWEnd) (T : Top G "split_words" (top 14) ["text"]) : Fn G "split_words" 1 5 spSplit := by
  refine T.fn (N := nSplit) scSplit (fun vs H Q E h => ?_) (fun X vs H Q E d h => ?_)
  · obtain ⟨_, rfl, _⟩ := h
    rfl
  · have dd := d.toDef
    obtain ⟨l, rfl, hl, k⟩ := h
    have hl2 : l.length ≤ 100000 := by omega
    show WB X _ _ [some (.str (tx l)), none, none, none, none, none] H
    refine wb_cons ?_
    walk_at "wx"
    refine ⟨Nat.zero_le _, fun p hp0 => ?_⟩
    walk_at "wx"
    refine ws_while d (fun σ H' => Same H H' ∧ ∃ (as : List Addr) (ws : List Wd) (j : Nat) (ln bg : Int) (v5 : Option V), σ = [some (.str (tx l)), some (.ref p), some (.int ln), some (.int bg), some (.int j), v5] ∧ j ≤ l.length ∧
      H' p = some (.lst (as.map V.ref)) ∧ as.length = ws.length ∧ (∀ (i : Nat) (a : Addr) (w : Wd), as[i]? = some a → ws[i]? = some w → H' a = some (.tup (wv w))) ∧ as.length ≤ j ∧ ws ++ cutA (l.drop j) ln (j - bg + 1) = words l) (fun σ H' => match σ with | [_, _, _, _, some (.int j), _] => l.length - j.toNat | _ => 0)
      ⟨same_new hp0, [], [], 0, 1, 0, none, rfl, Nat.zero_le _, upd_same, rfl, fun i a w e => by simp at e, Nat.le_refl _, rfl⟩ ?_
    rintro σ H' ⟨s1, as, ws, j, ln, bg, v5, rfl, hj, h1, h2, h3, h4, h5⟩
    walk_at "wx"
    refine rc_lenS (by rw [tx_len]; exact len_le hl2) ?_
    rw [tx_len]
    walk_at "wx"
    by_cases hlt : j < l.length
    · rw [decide_eq_true (by omega : (j : Int) < (l.length : Int))]
      refine ite_t ?_
      obtain ⟨c, hc, hdr⟩ := drop_at hlt
      rw [hdr] at h5
      refine wb_cons ?_
      walk_at "wx"
      refine rx_tx hl2 (atI_at hc) ?_
      walk_at "wx"
      rw [one_nl]
      by_cases c10 : c = 10
      · rw [decide_eq_true c10]
        refine ite_t ?_
        refine wb_cons (ws_aug d 2 (by rfl) (by decide +kernel) rfl ip_add ?_)
        walk_at "wx"
        refine ⟨_, _, rfl, rfl, ?_⟩
        walk_at "wx"
        refine rx_tx hl2 (atI_at hc) ?_
        walk_at "wx"
        refine ⟨by show 2 ≤ sizeLine; decide, fun q hq => ?_⟩
        refine ro_inG (ss := [" ", "\n"]) dd (.inl (SqT.of upd_same)) ?_
        rw [decide_eq_true (by rw [c10, t_nl]; simp [tx_inj])]
        walk_at "wx"
        refine ite_t ?_
        refine wb_one (ws_aug d 4 (by rfl) (by decide +kernel) rfl ip_add ?_)
        walk_at "wx"
        refine ⟨_, _, rfl, rfl, ⟨(s1.trans (same_new hq)), as, ws, j + 1, ln + 1, (j : Int) + 1, v5, rfl, by omega, ?_, h2, fun i a w e1 e2 => ?_, by omega, ?_⟩, ?_⟩
        · rw [upd_ne (ne_of_none h1 hq)]
          exact h1
        · rw [upd_ne (ne_of_none (h3 i a w e1 e2) hq)]
          exact h3 i a w e1 e2
        · rw [cutA_nl c10] at h5
          have : ((j + 1 : Nat) : Int) - ((j : Int) + 1) + 1 = 1 := by omega
          rw [this]
          exact h5
        · show l.length - ((j : Int) + 1).toNat < l.length - ((j : Int)).toNat
          omega
      · rw [decide_eq_false c10]
        refine ite_f ?_
        refine wb_nil ?_
        walk_at "wx"
        refine rx_tx hl2 (atI_at hc) ?_
        walk_at "wx"
        refine ⟨by show 2 ≤ sizeLine; decide, fun q hq => ?_⟩
        refine ro_inG (ss := [" ", "\n"]) dd (.inl (SqT.of upd_same)) ?_
        by_cases c32 : c = 32
        · rw [decide_eq_true (by rw [c32, t_sp]; simp [tx_inj])]
          walk_at "wx"
          refine ite_t ?_
          refine wb_one (ws_aug d 4 (by rfl) (by decide +kernel) rfl ip_add ?_)
          walk_at "wx"
          refine ⟨_, _, rfl, rfl, ⟨(s1.trans (same_new hq)), as, ws, j + 1, ln, bg, v5, rfl, by omega, ?_, h2, fun i a w e1 e2 => ?_, by omega, ?_⟩, ?_⟩
          · rw [upd_ne (ne_of_none h1 hq)]
            exact h1
          · rw [upd_ne (ne_of_none (h3 i a w e1 e2) hq)]
            exact h3 i a w e1 e2
          · rw [cutA_sp c10 c32] at h5
            have : ((j + 1 : Nat) : Int) - bg + 1 = (j : Int) - bg + 1 + 1 := by omega
            rw [this]
            exact h5
          · show l.length - ((j : Int) + 1).toNat < l.length - ((j : Int)).toNat
            omega
        · rw [decide_eq_false (by rw [t_sp, t_nl]; simp [tx_inj, c10, c32])]
          walk_at "wx"
          refine ite_f ?_
          walk_at "wx"
          refine we_call dd F (by decide) (by decide +kernel) (by rfl) (by rfl) ?_
          walk_at "wx"
          refine ⟨l, j, rfl, hl2, hlt, ?_⟩
          rw [hdr]
          have hp := wlen_pos c (l.drop (j + 1))
          have hle : j + wlen (c :: l.drop (j + 1)) ≤ l.length := by
            have := wlen_le (l.drop j)
            rw [hdr, List.length_cons, List.length_drop] at this
            omega
          walk_at "wx"
          refine we_bm dd PySem.F.plainAttrs_list PySem.F.slot_list_append PySem.F.type_list_append (by rfl) (by rfl) (by rfl) (by rfl) (by rfl) ?_
          walk_at "wx"
          have h1q : (upd H' q (.tup [.str " ", .str "\n"])) p = some (.lst (as.map V.ref)) := by rw [upd_ne (ne_of_none h1 hq)]; exact h1
          refine ⟨ty_list h1q, ?_⟩
          walk_at "wx"
          refine rsl_tx hl2 ?_
          rw [cutL_nn]
          walk_at "wx"
          refine ⟨by show 3 ≤ sizeLine; decide, fun r hr => ?_⟩
          have hrp : p ≠ r := ne_of_none h1q hr
          have h1r : ∀ o, (upd (upd H' q (.tup [.str " ", .str "\n"])) r o) p = some (.lst (as.map V.ref)) := fun o => by rw [upd_ne hrp]; exact h1q
          refine wa_nil ?_
          refine rm_append (h1r _) (by rw [List.length_map]; exact len_lt (by omega)) ?_
          have e1 : j + wlen (c :: l.drop (j + 1)) - j = wlen (c :: l.drop (j + 1)) := by omega
          rw [e1]
          walk_at "wx"
          have sq : Same H' (upd H' q (.tup [.str " ", .str "\n"])) := same_new hq
          have W := WordsAt.snoc (w := ((c :: l.drop (j + 1)).take (wlen (c :: l.drop (j + 1))), ln, (j : Int) - bg + 1)) h1q h2 (fun i a w e1 e2 => sq _ _ (h3 i a w e1 e2)) hr
          obtain ⟨as', g1, g2, g3⟩ := W
          have l1 : as'.length = as.length + 1 := by rw [g2, List.length_append, h2]; rfl
          rw [hdr]
          refine ⟨⟨same_app (s1.trans sq) hp0 hr, as', _, j + wlen (c :: l.drop (j + 1)), ln, bg, _, rfl, hle, g1, g2, g3, by omega, ?_⟩, ?_⟩
          · rw [cutA_wd c10 c32] at h5
            have e2 : l.drop (j + wlen (c :: l.drop (j + 1))) = (c :: l.drop (j + 1)).drop (wlen (c :: l.drop (j + 1))) := by
              rw [← hdr, List.drop_drop]
            have e3 : ((j + wlen (c :: l.drop (j + 1)) : Nat) : Int) - bg + 1 = (j : Int) - bg + 1 + (wlen (c :: l.drop (j + 1)) : Nat) := by omega
            rw [e2, e3, List.append_assoc]
            exact h5
          · show l.length - ((j + wlen (c :: l.drop (j + 1)) : Nat) : Int).toNat < l.length - ((j : Int)).toNat
            omega
    · rw [decide_eq_false (by omega : ¬ (j : Int) < (l.length : Int))]
      refine ite_f ?_
      walk_at "wx"
      have hn : l.drop j = [] := List.drop_eq_nil_of_le (by omega)
      rw [hn, cutA_nil, List.append_nil] at h5
      rw [← h5] at k
      exact k p H' hp0 s1 ⟨as, h1, h2, h3⟩
end K01

namespace K01
variable {G : Gb}
def isTs (c : Nat) : Bool := decide (c = 10) || btw 32 126 c
def spText (K : PySem.W.Frag) : Sp := fun vs H Q _ => ∃ v, vs = [v] ∧ ((∃ l, v = .str (tx l) ∧ l.length ≤ 10000 ∧ ∀ H', Same H H' → Q (.bl (l.all isTs)) H') ∨ (∃ t, TyX K H v (.type t) ∧ kitB t "str" = some false ∧ Q (.bl false) H))
theorem all_map (p : Nat → Bool) (l : List Nat) : l.filterMap (fun c => some (V.bl (p c))) = (l.map p).map V.bl := by
  rw [List.filterMap_eq_map', List.map_map]
  rfl
theorem all_id (p : Nat → Bool) (l : List Nat) : (l.map p).all id = l.all p := by
  rw [List.all_map]
  rfl
theorem fn_text (b : Bi G.mg) (T : Top G "is_text" (top 13) ["thing"]) : Fn G "is_text" 1 1 (spText G.K) := by
  refine T.fn (N := ["thing", "sign"]) ⟨rfl, rfl, rfl, by decide +kernel, rfl, by decide +kernel, by decide +kernel⟩ (fun vs H Q E h => ?_) (fun X vs H Q E d h => ?_)
  · obtain ⟨_, rfl, _⟩ := h
    rfl
  · have dd := d.toDef
    obtain ⟨v, rfl, h⟩ := h
    show WB X _ _ [some v, none] H
    refine wb_one ?_
    rcases h with ⟨l, rfl, hl, k⟩ | ⟨t, ht, hk, k⟩
    · walk_at "wx"
      refine ite_t ?_
      walk_at "wx"
      refine we_lcS dd [("sign", 1)] (by decide +kernel) (by intro _; rfl) ?_
      walk_at "wx"
      have hl3 : l.length < 100000 := by omega
      refine lcS_map (fun c => some (.bl (isTs c))) hl3 (fun c _ H1 s1 R hR => ?_) (fun L H1 hL s1 h1 => ?_)
      · intro X' d'
        dsimp only [L2.wipe, List.map, List.set]
        walk_at "wg"
        refine ⟨rfl, fun X2 d2 => wts_nil (ite_t fun X3 d3 => ?_)⟩
        walk_at "wx"
        rw [one_nl]
        have hR : R (some (.bl (decide (c = 10) || btw 32 126 c))) H1 := hR H1 (Same.refl _)
        refine ite_b (fun e => by rw [e, Bool.true_or] at hR; exact hR) (fun e => ?_)
        rw [e, Bool.false_or] at hR
        refine we_one (we_btw 32 126 ch_sp ch_ti (by rfl) ?_)
        walk_at "wx"
        exact ⟨Nat.le_refl _, hR⟩
      · rw [all_map] at h1
        walk_at "wx"
        refine rc_all dd (SqL.of h1) ?_
        rw [all_id]
        exact k _ s1
    · walk_at "wx"
      refine rc_isi dd (ClsV.ty _) ht (kit_bt hk) ?_
      walk_at "wx"
      exact ite_f k
/-- is_number_word, of any text -/
def fig (l : List Nat) : List Nat := match l with | 45 :: r => r | _ => l
def isNumW (l : List Nat) : Bool := decide (1 ≤ (fig l).length) && decide ((fig l).length ≤ 3) && (fig l).all isFig && (decide (l = [48]) || !decide ((fig l).head? = some 48))
def spNumW : Sp := fun vs H Q _ => ∃ l, vs = [.str (tx l)] ∧ l.length ≤ 10000 ∧ ∀ H', Same H H' → Q (.bl (isNumW l)) H'
theorem starts_mi (l : List Nat) : Txt.startswith (tx l) "-" = decide (l.head? = some 45) := by
  rw [t_mi]
  unfold Txt.startswith
  rw [tx_len, tx_len]
  cases l with
  | nil => rfl
  | cons c r =>
    rw [decide_eq_true (by simp : 0 + [45].length ≤ (c :: r).length), Bool.true_and]
    have e : Builtin.Str.subAt (tx (c :: r)) (tx [45]) 0 = (((c :: r).toArray.extract 0 (0 + (tx [45]).length)) == #[45]) := rfl
    rw [e, tx_len]
    have e2 : (c :: r).toArray.extract 0 (0 + [45].length) = #[c] := by simp
    rw [e2, Bool.eq_iff_iff]
    simp
theorem fig_mi (r : List Nat) : fig (45 :: r) = r := rfl
theorem fig_no {l : List Nat} (h : ¬ l.head? = some 45) : fig l = l := by
  unfold fig
  split
  · exact absurd rfl h
  · rfl
theorem fn_numw (b : Bi G.mg) (F : Fn G "is_figure" 1 1 (spOne isFig)) (T : Top G "is_number_word" (top 12) ["word"]) : Fn G "is_number_word" 1 2 spNumW := by
  refine T.fn (N := ["word", "figures", "sign"]) ⟨rfl, rfl, rfl, by decide +kernel, rfl, by decide +kernel, by decide +kernel⟩ (fun vs H Q E h => ?_) (fun X vs H Q E d h => ?_)
  · obtain ⟨_, rfl, _⟩ := h
    rfl
  · have dd := d.toDef
    obtain ⟨l, rfl, hl, k⟩ := h
    show WB X _ _ [some (.str (tx l)), none, none] H
    refine wb_cons ?_
    have rest : ∀ m : List Nat, m = fig l → WB X ((defBody (top 12)).drop 1) { nx := fun _ H' => Q .non H', rt := Q } [some (.str (tx l)), some (.str (tx m)), none] H := fun m hm => by
      have hml : m.length ≤ 10000 := by
        rw [hm]
        unfold fig
        split
        · rename_i r
          rw [List.length_cons] at hl
          omega
        · exact hl
      unfold isNumW at k
      rw [← hm] at k
      refine wb_cons ?_
      walk_at "wx"
      refine rc_lenS (by rw [tx_len]; exact len_le (by omega)) ?_
      rw [tx_len]
      walk_at "wx"
      have h1 : decide ((1 : Int) ≤ (m.length : Int)) = decide (1 ≤ m.length) := by rw [decide_eq_decide]; omega
      have h3 : decide ((m.length : Int) ≤ 3) = decide (m.length ≤ 3) := by rw [decide_eq_decide]; omega
      rw [h1]
      have no : (decide (1 ≤ m.length) && decide (m.length ≤ 3) && m.all isFig) = false → ∀ H', Same H H' → WB X [.Return (some (.Constant (.bool false) 0 ⟨37, 15, 37, 20⟩)) ⟨37, 8, 37, 20⟩] { nx := WB X ((defBody (top 12)).drop 2) { nx := fun _ H' => Q .non H', rt := Q }, rt := Q } [some (.str (tx l)), some (.str (tx m)), none] H' := fun e H' s' => by
        walk_at "wx"
        have k := k H' s'
        rw [e, Bool.false_and] at k
        exact k
      cases e1 : decide (1 ≤ m.length) with
      | false =>
        walk_at "wy"
        have k := k H (Same.refl _)
        rw [e1] at k
        exact k
      | true =>
        refine ite_t ?_
        walk_at "wx"
        rw [h3]
        cases e3 : decide (m.length ≤ 3) with
        | false =>
          walk_at "wy"
          have k := k H (Same.refl _)
          rw [e1, e3] at k
          exact k
        | true =>
          walk_at "wy"
          refine we_lcS dd [("sign", 2)] (by decide +kernel) (by intro _; rfl) ?_
          walk_at "wx"
          have hm3 : m.length < 100000 := by omega
          refine lcS_map (fun c => some (.bl (isFig c))) hm3 (fun c _ H1 s1 R hR => ?_) (fun L H1 hL s1 h1 => ?_)
          · intro X' d'
            dsimp only [L2.wipe, List.map, List.set]
            walk_at "wg"
            refine ⟨rfl, fun X2 d2 => wts_nil (ite_t fun X3 d3 => ?_)⟩
            refine we_call d3 F (by decide) (by decide +kernel) (by rfl) (by rfl) ?_
            walk_at "wx"
            exact ⟨Nat.le_refl _, hR H1 (Same.refl _)⟩
          · rw [all_map] at h1
            walk_at "wx"
            refine rc_all dd (SqL.of h1) ?_
            rw [all_id]
            refine ⟨_, rfl, ?_⟩
            have k := k H1 s1
            rw [e1, e3, Bool.true_and, Bool.true_and] at k
            cases ea : m.all isFig with
            | false =>
              walk_at "wy"
              rw [ea, Bool.false_and] at k
              exact k
            | true =>
              rw [ea, Bool.true_and] at k
              walk_at "wy"
              have e0 : decide (tx l = ("0" : Str)) = decide (l = [48]) := by rw [t_0, decide_eq_decide, tx_inj]
              rw [e0]
              refine ite_b (fun e => by rw [e, Bool.true_or] at k; exact k) (fun e => ?_)
              rw [e, Bool.false_or] at k
              walk_at "wx"
              cases m with
              | nil => cases e1
              | cons c r =>
                refine rx_tx (by omega) (atI_nat (j := 0) rfl) ?_
                walk_at "wx"
                rw [one_0]
                have e5 : decide ((c :: r).head? = some 48) = decide (c = 48) := by rw [decide_eq_decide]; simp
                rw [e5] at k
                exact k
    walk_at "wx"
    refine we_bm dd PySem.F.plainAttrs_str PySem.F.slot_str_startswith PySem.F.type_str_startswith (by rfl) (by rfl) (by rfl) (by rfl) (by rfl) ?_
    walk_at "wx"
    refine ⟨rfl, ?_⟩
    walk_at "wx"
    refine rm_starts ?_
    rw [starts_mi]
    refine ⟨_, rfl, ?_⟩
    by_cases h45 : l.head? = some 45
    · rw [decide_eq_true h45]
      refine ite_t ?_
      walk_at "wx"
      refine rsl_tx (by omega) ?_
      have ec : cutL l (some 1) none = l.drop 1 := cutL_n l 1
      rw [ec]
      refine rest _ ?_
      cases l with
      | nil => cases h45
      | cons c r =>
        have e : c = 45 := Option.some.inj h45
        subst e
        rfl
    · rw [decide_eq_false h45]
      refine ite_f ?_
      walk_at "wn"
      exact rest l (fig_no h45).symm
/-- is_name, of any value -/
def keptS : List Str := ["and", "cases", "cell", "else", "fewest", "fork", "from", "greatest", "if", "input", "leaf", "least", "most", "not", "of", "or", "place", "row", "settle", "start", "sum", "then", "to"]
def isNameW (l : List Nat) : Bool := decide (1 ≤ l.length) && decide (l.length ≤ 8) && (!decide (tx l ∈ keptS) && l.all isSmall)
def spName (K : PySem.W.Frag) : Sp := fun vs H Q _ => ∃ v, vs = [v] ∧ ((∃ l, v = .str (tx l) ∧ l.length ≤ 10000 ∧ ∀ H', Same H H' → Q (.bl (isNameW l)) H') ∨ (∃ t, TyX K H v (.type t) ∧ kitB t "str" = some false ∧ Q (.bl false) H))
theorem fn_name (b : Bi G.mg) (F : Fn G "is_small" 1 1 (spOne isSmall)) (P : TupG G "KEPT" keptS) (T : Top G "is_name" (top 9) ["thing"]) : Fn G "is_name" 1 2 (spName G.K) := by
  refine T.fn (N := ["thing", "sign"]) ⟨rfl, rfl, rfl, by decide +kernel, rfl, by decide +kernel, by decide +kernel⟩ (fun vs H Q E h => ?_) (fun X vs H Q E d h => ?_)
  · obtain ⟨_, rfl, _⟩ := h
    rfl
  · have dd := d.toDef
    obtain ⟨v, rfl, h⟩ := h
    show WB X _ _ [some v, none] H
    refine wb_cons ?_
    rcases h with ⟨l, rfl, hl, k⟩ | ⟨t, ht, hk, k⟩
    · walk_at "wx"
      refine ite_f ?_
      walk_at "wx"
      refine rc_lenS (by rw [tx_len]; exact len_le (by omega)) ?_
      rw [tx_len]
      walk_at "wx"
      have h1 : decide ((1 : Int) ≤ (l.length : Int)) = decide (1 ≤ l.length) := by rw [decide_eq_decide]; omega
      have h8 : decide ((l.length : Int) ≤ 8) = decide (l.length ≤ 8) := by rw [decide_eq_decide]; omega
      rw [h1]
      unfold isNameW at k
      cases e1 : decide (1 ≤ l.length) with
      | false =>
        walk_at "wy"
        have k := k H (Same.refl _)
        rw [e1] at k
        exact k
      | true =>
        refine ite_t ?_
        walk_at "wx"
        rw [h8]
        cases e8 : decide (l.length ≤ 8) with
        | false =>
          walk_at "wy"
          have k := k H (Same.refl _)
          rw [e1, e8] at k
          exact k
        | true =>
          walk_at "wy"
          obtain ⟨aP, hP, sP⟩ := P.is
          refine we_glob dd (v := .ref aP) (by decide +kernel) hP rfl ?_
          refine ro_notInG dd (.inl (sP H)) ?_
          walk_at "wx"
          cases ek : decide (tx l ∈ keptS) with
          | true =>
            refine ite_f ?_
            have k := k H (Same.refl _)
            rw [e1, e8, ek] at k
            exact k
          | false =>
            refine ite_t ?_
            walk_at "wx"
            refine we_lcS dd [("sign", 1)] (by decide +kernel) (by intro _; rfl) ?_
            walk_at "wx"
            have hl3 : l.length < 100000 := by omega
            refine lcS_map (fun c => some (.bl (isSmall c))) hl3 (fun c _ H1 s1 R hR => ?_) (fun L H1 hL s1 h1 => ?_)
            · intro X' d'
              dsimp only [L2.wipe, List.map, List.set]
              walk_at "wg"
              refine ⟨rfl, fun X2 d2 => wts_nil (ite_t fun X3 d3 => ?_)⟩
              refine we_call d3 F (by decide) (by decide +kernel) (by rfl) (by rfl) ?_
              walk_at "wx"
              exact ⟨Nat.le_refl _, hR H1 (Same.refl _)⟩
            · rw [all_map] at h1
              walk_at "wx"
              refine rc_all dd (SqL.of h1) ?_
              rw [all_id]
              have k := k H1 s1
              rw [e1, e8, ek] at k
              exact k
    · walk_at "wx"
      refine rc_isi dd (ClsV.ty _) ht (kit_bt hk) ?_
      walk_at "wy"
      exact k
end K01

namespace K01
variable {G : Gb}
def signsS : List Str := ["(", ")", "[", "]", "{", "}", ",", ":", "=", "+", "-", "*", "<", "<=", "=="]
def unwS : List Str := ["fork", "leaf"]
def ksort (l : List Nat) : Str := if decide (tx l ∈ signsS) || (decide (tx l ∈ keptS) && !decide (tx l ∈ unwS)) then tx l else if isNameW l then "name" else if isNumW l then "figures" else "strange"
def spKnown : Sp := fun vs H Q _ => ∃ l, vs = [.str (tx l)] ∧ l.length ≤ 10000 ∧ ∀ H', Same H H' → Q (.str (ksort l)) H'
theorem fn_known (b : Bi G.mg) (FN : Fn G "is_name" 1 2 (spName G.K)) (FW : Fn G "is_number_word" 1 2 spNumW) (PS : TupG G "SIGNS" signsS) (PK : TupG G "KEPT" keptS) (PU : TupG G "UNWRITTEN" unwS) (T : Top G "known_sort" (top 11) ["word"]) : Fn G "known_sort" 1 3 spKnown := by
  refine T.fn (N := ["word"]) ⟨rfl, rfl, rfl, by decide +kernel, rfl, by decide +kernel, by decide +kernel⟩ (fun vs H Q E h => ?_) (fun X vs H Q E d h => ?_)
  · obtain ⟨_, rfl, _⟩ := h
    rfl
  · have dd := d.toDef
    obtain ⟨l, rfl, hl, k⟩ := h
    show WB X _ _ [some (.str (tx l))] H
    obtain ⟨a1, h1, s1⟩ := PS.is
    obtain ⟨a2, h2, s2⟩ := PK.is
    obtain ⟨a3, h3, s3⟩ := PU.is
    unfold ksort at k
    refine wb_cons ?_
    have rest : (decide (tx l ∈ signsS) || (decide (tx l ∈ keptS) && !decide (tx l ∈ unwS))) = false → WB X ((defBody (top 11)).drop 1) { nx := fun _ H' => Q .non H', rt := Q } [some (.str (tx l))] H := fun e => by
      rw [e] at k
      refine wb_cons ?_
      walk_at "wx"
      refine we_call dd FN (by decide) (by decide +kernel) (by rfl) (by rfl) ?_
      walk_at "wx"
      refine .inl ⟨l, rfl, hl, fun H1 s1 => ?_⟩
      refine ⟨_, rfl, ?_⟩
      cases en : isNameW l with
      | true =>
        rw [en] at k
        refine ite_t ?_
        walk_at "wx"
        exact k H1 s1
      | false =>
        rw [en] at k
        refine ite_f ?_
        walk_at "wx"
        refine we_call dd FW (by decide) (by decide +kernel) (by rfl) (by rfl) ?_
        walk_at "wx"
        refine ⟨hl, fun H2 s2 => ?_⟩
        refine ⟨_, rfl, ?_⟩
        cases ew : isNumW l with
        | true =>
          rw [ew] at k
          refine ite_t ?_
          walk_at "wx"
          exact k H2 (s1.trans s2)
        | false =>
          rw [ew] at k
          refine ite_f ?_
          walk_at "wx"
          exact k H2 (s1.trans s2)
    walk_at "wx"
    refine we_glob dd (v := .ref a1) (by decide +kernel) h1 rfl ?_
    refine ro_inG dd (.inl (s1 H)) ?_
    walk_at "wx"
    cases e1 : decide (tx l ∈ signsS) with
    | true =>
      rw [e1] at k
      walk_at "wy"
      exact k H (Same.refl _)
    | false =>
      rw [e1] at k rest
      refine ite_f ?_
      walk_at "wx"
      refine we_glob dd (v := .ref a2) (by decide +kernel) h2 rfl ?_
      refine ro_inG dd (.inl (s2 H)) ?_
      walk_at "wx"
      cases e2 : decide (tx l ∈ keptS) with
      | false =>
        rw [e2] at rest
        refine ite_f ?_
        refine ite_f ?_
        refine wb_nil ?_
        exact rest rfl
      | true =>
        rw [e2] at k rest
        refine ite_t ?_
        walk_at "wx"
        refine we_glob dd (v := .ref a3) (by decide +kernel) h3 rfl ?_
        refine ro_notInG dd (.inl (s3 H)) ?_
        walk_at "wx"
        cases e3 : decide (tx l ∈ unwS) with
        | true =>
          rw [e3] at rest
          refine ite_f ?_
          refine wb_nil ?_
          exact rest rfl
        | false =>
          rw [e3] at k
          refine ite_t ?_
          walk_at "wx"
          exact k H (Same.refl _)
/-- a text that is one word and nothing else -/
def single (l : List Nat) : Bool := l.all isTs && (match words l with | [w] => decide (w.1 = l) | _ => false)
def spSort (K : PySem.W.Frag) (C : Addr) : Sp := fun vs H Q E => ∃ v, vs = [v] ∧ ((∃ l, v = .str (tx l) ∧ l.length ≤ 10000 ∧ (single l = true → ∀ H', Same H H' → Q (.str (ksort l)) H') ∧ (single l = false → ∀ H', Same H H' → E (.ref C) none H')) ∨ (∃ t, TyX K H v (.type t) ∧ kitB t "str" = some false ∧ E (.ref C) none H))
theorem WordsAt.one {H : Hp} {p : Addr} {w : Wd} (h : WordsAt H p [w]) : ∃ a, H p = some (.lst [.ref a]) ∧ H a = some (.tup (wv w)) := by
  obtain ⟨as, h1, h2, h3⟩ := h
  match as, h2 with
  | [a], _ => exact ⟨a, h1, h3 0 a w rfl rfl⟩
theorem fn_sort {C : Addr} (b : Bi G.mg) (e : ExC G "BadWord" C) (FT : Fn G "is_text" 1 1 (spText G.K)) (FS : Fn G "split_words" 1 5 spSplit) (FK : Fn G "known_sort" 1 3 spKnown) (T : Top G "sort_of" (top 10) ["word"]) : Fn G "sort_of" 1 6 (spSort G.K C) := by
  refine T.fn (N := ["word", "found"]) ⟨rfl, rfl, rfl, by decide +kernel, rfl, by decide +kernel, by decide +kernel⟩ (fun vs H Q E h => ?_) (fun X vs H Q E d h => ?_)
  · obtain ⟨_, rfl, _⟩ := h
    rfl
  · have dd := d.toDef
    obtain ⟨v, rfl, h⟩ := h
    show WB X _ _ [some v, none] H
    refine wb_cons ?_
    rcases h with ⟨l, rfl, hl, k1, k2⟩ | ⟨t, ht, hk, k⟩
    · walk_at "wx"
      refine we_call dd FT (by decide) (by decide +kernel) (by rfl) (by rfl) ?_
      walk_at "wx"
      refine .inl ⟨l, rfl, hl, fun H1 s1 => ⟨_, rfl, ?_⟩⟩
      unfold single at k1 k2
      cases ea : l.all isTs with
      | false =>
        rw [ea] at k2
        walk_at "wy"
        exact ws_raise d e (by decide +kernel) (k2 rfl H1 s1)
      | true =>
        rw [ea, Bool.true_and] at k1 k2
        walk_at "wy"
        refine we_call dd FS (by decide) (by decide +kernel) (by rfl) (by rfl) ?_
        walk_at "wx"
        refine ⟨hl, fun p H2 hp s2 W => ?_⟩
        walk_at "wx"
        obtain ⟨as, g1, g2, g3⟩ := id W
        refine rc_lenL dd (SqL.of g1) ?_
        rw [List.length_map, g2]
        walk_at "wx"
        have bad : (match words l with | [w] => decide (w.1 = l) | _ => false) = false → E (.ref C) none H2 := fun z => k2 z H2 (s1.trans s2)
        by_cases hw : (words l).length = 1
        · obtain ⟨w, ew⟩ : ∃ w, words l = [w] := by
            match words l, hw with
            | [w], _ => exact ⟨w, rfl⟩
          rw [ew] at W bad k1 ⊢
          obtain ⟨a, q1, q2⟩ := W.one
          refine ite_f ?_
          walk_at "wx"
          refine rx_list dd (SqL.of q1) (atI_nat (j := 0) rfl) ?_
          walk_at "wx"
          refine rx_tup dd (SqT.of q2) (atI_nat (j := 0) rfl) ?_
          walk_at "wx"
          have e0 : decide (tx w.1 = tx l) = decide (w.1 = l) := by rw [decide_eq_decide, tx_inj]
          rw [e0]
          cases el : decide (w.1 = l) with
          | true =>
            refine ite_f ?_
            walk_at "wx"
            refine we_call dd FK (by decide) (by decide +kernel) (by rfl) (by rfl) ?_
            walk_at "wx"
            exact ⟨hl, fun H3 s3 => k1 el H3 ((s1.trans s2).trans s3)⟩
          | false =>
            refine ite_t ?_
            walk_at "wx"
            exact ws_raise d e (by decide +kernel) (bad el)
        · have e1 : decide (((words l).length : Int) = 1) = false := decide_eq_false (by omega)
          rw [e1]
          walk_at "wy"
          refine ws_raise d e (by decide +kernel) (bad ?_)
          match words l, hw with
          | [], _ => rfl
          | [w], hw => exact absurd rfl hw
          | _ :: _ :: _, _ => rfl
    · walk_at "wx"
      refine we_call dd FT (by decide) (by decide +kernel) (by rfl) (by rfl) ?_
      walk_at "wx"
      refine .inr ⟨t, ht, hk, ⟨_, rfl, ?_⟩⟩
      walk_at "wy"
      exact ws_raise d e (by decide +kernel) k
end K01

namespace K01
variable {G : Gb}
def initSt : Stmt := match top 2 with
  | .ClassDef _ _ _ b _ _ _ _ _ _ _ => b.getD 0 (.Pass ⟨0, 0, 0, 0⟩)
  | s => s
/-- BadText.__init__(self, line, column, wanted), self being made -/
def spInit (K : PySem.W.Frag) (C : Addr) : Sp := fun vs H Q _ => ∃ (a : Addr) (x y z : V), vs = [.ref a, x, y, z] ∧ H a = some (exo a C none) ∧ ∀ (dx : Addr) (H' : Hp), H dx = none → dx ≠ a → H' a = some (exo a C (some dx)) → H' dx = some (exd dx [("wanted", z), ("column", y), ("line", x)]) → (∀ c, c ≠ a → c ≠ dx → H' c = H c) → Q .non H'
/-- what the text's top has left of such a class: its fields are plain -/
structure PlainF (K : PySem.W.Frag) (C : Addr) (fs : List Str) : Prop where
  no : ∀ f ∈ fs, PySem.W.findIn K (.ref C) f = some none
abbrev nInit : List Str := ["self", "line", "column", "wanted"]
theorem scInit : FnScope nInit nInit (defScope initSt) := ⟨rfl, rfl, rfl, by decide +kernel, rfl, by decide +kernel, by decide +kernel⟩
theorem fn_init {C f : Addr} {fd : FuncData} (T : OexC G.K C) (P : PlainF G.K C ["line", "column", "wanted"]) (F : Fun G.K "__init__" "BadText.__init__" initSt f fd) : FnOk G.prog G.w G.K G.mg G.base (L2.CX G.prog G.w) 1 f fd nInit (spInit G.K C) := by
  refine fn_by F scInit (fun vs H Q E h => ?_) (fun X vs H Q E d h => ?_)
  · obtain ⟨_, _, _, _, rfl, _⟩ := h
    rfl
  · have dd := d.toDef
    obtain ⟨a, x, y, z, rfl, ha, k⟩ := h
    show WB X _ _ [some (.ref a), some x, some y, some z] H
    refine wb_cons (ws_ost dd (by rfl) ?_)
    walk_at "wn"
    walk_at "wn"
    refine ⟨a, C, rfl, T, P.no _ (by simp), .inl ⟨ha, fun dx hdx ne => ?_⟩⟩
    refine wb_cons (ws_ost dd (by rfl) ?_)
    walk_at "wn"
    walk_at "wn"
    refine ⟨a, C, rfl, T, P.no _ (by simp), .inr ⟨dx, [("line", x)], upd_same, by rw [upd_ne ne, upd_same], by show 1 ≤ 900; decide, ?_⟩⟩
    refine wb_one (ws_ost dd (by rfl) ?_)
    walk_at "wn"
    walk_at "wn"
    refine ⟨a, C, rfl, T, P.no _ (by simp), .inr ⟨dx, [("column", y), ("line", x)], by rw [upd_ne ne.symm, upd_same], upd_same, by show 2 ≤ 900; decide, ?_⟩⟩
    refine k dx _ hdx ne ?_ upd_same fun c h1 h2 => ?_
    · rw [upd_ne ne.symm, upd_ne ne.symm, upd_same]
    · rw [upd_ne h2, upd_ne h2, upd_ne h1, upd_ne h2]
/-- words_of(text) -/
def spWords (K : PySem.W.Frag) (C : Addr) : Sp := fun vs H Q E => ∃ v, vs = [v] ∧ ((∃ l, v = .str (tx l) ∧ l.length ≤ 10000 ∧ l.all isTs = true ∧ ∀ (p : Addr) (H' : Hp), H p = none → Same H H' → WordsAt H' p (words l) → Q (.ref p) H') ∨
  (((∃ l, v = .str (tx l) ∧ l.length ≤ 10000 ∧ l.all isTs = false) ∨ ∃ t, TyX K H v (.type t) ∧ kitB t "str" = some false) ∧ ∀ (dx : Addr) (H' : Hp), H dx = none → Same H H' → H' dx = some (.xd [("wanted", .non), ("column", .non), ("line", .non)]) → E (.ref C) (some dx) H'))
theorem fn_words {C : Addr} (b : Bi G.mg) (e : OxC G "BadText" C 4 1 (spInit G.K C)) (FT : Fn G "is_text" 1 1 (spText G.K)) (FS : Fn G "split_words" 1 5 spSplit) (T : Top G "words_of" (top 21) ["text"]) : Fn G "words_of" 1 6 (spWords G.K C) := by
  refine T.fn (N := ["text"]) ⟨rfl, rfl, rfl, by decide +kernel, rfl, by decide +kernel, by decide +kernel⟩ (fun vs H Q E h => ?_) (fun X vs H Q E d h => ?_)
  · obtain ⟨_, rfl, _⟩ := h
    rfl
  · have dd := d.toDef
    obtain ⟨v, rfl, h⟩ := h
    show WB X _ _ [some v] H
    refine wb_cons ?_
    have bad : ∀ H1, Same H H1 → (∀ (dx : Addr) (H' : Hp), H dx = none → Same H H' → H' dx = some (.xd [("wanted", .non), ("column", .non), ("line", .non)]) → E (.ref C) (some dx) H') →
        WB X [.Raise (some (.Call (.Name "BadText" ⟨76, 14, 76, 21⟩) [.Constant .none 0 ⟨76, 22, 76, 26⟩, .Constant .none 0 ⟨76, 28, 76, 32⟩, .Constant .none 0 ⟨76, 34, 76, 38⟩] [] ⟨76, 14, 76, 39⟩)) none ⟨76, 8, 76, 39⟩] { nx := WB X ((defBody (top 21)).drop 1) { nx := fun _ H' => Q .non H', rt := Q }, rt := Q } [some v] H1 := fun H1 s1 k => by
      refine wb_one (ws_raiseO d e (by decide) (by decide +kernel) (by rfl) (by rfl) ?_)
      walk_at "wA"
      refine we_non ?_
      walk_at "wA"
      refine we_non ?_
      walk_at "wA"
      refine we_non ?_
      walk_at "wA"
      refine ⟨by decide, fun a ha => ⟨a, .non, .non, .non, rfl, upd_same, fun dx H' hdx ne e1 e2 e3 => ⟨rfl, dx, _, e1, e2, ?_, ?_⟩⟩⟩
      · rw [upd_ne ne] at hdx
        exact hdx
      · have hd1 : H1 dx = none := by
          rw [upd_ne ne] at hdx
          exact hdx
        refine k dx _ (s1.free hd1) (fun c u hc => ?_) upd_same
        have hc1 := s1 _ _ hc
        have n1 : c ≠ dx := ne_of_none hc1 hd1
        have n2 : c ≠ a := ne_of_none hc1 ha
        rw [upd_ne n1, del_ne n2, e3 c n2 n1, upd_ne n2]
        exact hc1
    walk_at "wx"
    refine we_call dd FT (by decide) (by decide +kernel) (by rfl) (by rfl) ?_
    walk_at "wx"
    rcases h with ⟨l, rfl, hl, ha, k⟩ | ⟨⟨l, rfl, hl, ha⟩ | ⟨t, ht, hk⟩, k⟩
    · refine .inl ⟨l, rfl, hl, fun H1 s1 => ⟨_, rfl, ?_⟩⟩
      rw [ha]
      walk_at "wy"
      refine we_call dd FS (by decide) (by decide +kernel) (by rfl) (by rfl) ?_
      walk_at "wx"
      exact ⟨hl, fun p H2 hp s2 W => k p H2 (s1.free hp) (s1.trans s2) W⟩
    · refine .inl ⟨l, rfl, hl, fun H1 s1 => ⟨_, rfl, ?_⟩⟩
      rw [ha]
      refine ite_t ?_
      exact bad H1 s1 k
    · refine .inr ⟨t, ht, hk, ⟨_, rfl, ?_⟩⟩
      refine ite_t ?_
      exact bad H (Same.refl _) k
end K01

namespace K01
variable {G : Gb}
/-! ### lists of texts as data -/
theorem dp_strs {K : PySem.W.Frag} {H : Hp} {a : Addr} {ss : List Str} (h : SqL K H a (ss.map V.str)) : Dp K H (.ref a) (.list (ss.map PyData.str)) := by
  refine .lst h ?_
  clear h
  induction ss with
  | nil => exact .nil
  | cons n ns ih => exact .cons (.str n) ih
theorem lay_strs : ∀ (ns : List Str), (∀ z ∈ ns, PyData.strOk z = true) → PyData.canLayAll0 (ns.map PyData.str) = true ∧ PyData.depthAll (ns.map PyData.str) = 0
  | [], _ => ⟨rfl, rfl⟩
  | n :: ns, h => by
    obtain ⟨h1, h2⟩ := lay_strs ns fun z hz => h z (List.mem_cons_of_mem _ hz)
    refine ⟨?_, ?_⟩
    · show (PyData.strOk n && PyData.canLayAll0 (ns.map PyData.str)) = true
      rw [h1, h n List.mem_cons_self] <;> rfl
    · show max 0 (PyData.depthAll (ns.map PyData.str)) = 0
      rw [h2] <;> rfl
theorem shaped_strs (ns : List Str) (h : ∀ z ∈ ns, PyData.strOk z = true) : SeqAt.shaped (.list (ns.map PyData.str)) = true := by
  obtain ⟨h1, h2⟩ := lay_strs ns h
  show (PyData.canLayAll0 (ns.map PyData.str) && decide (PyData.depthAll (ns.map PyData.str) + 1 ≤ 64)) = true
  rw [h1, h2] <;> rfl
theorem eqv_nilS {ns : List Str} : PyData.eqv (.list (ns.map PyData.str)) (.list []) = ns.isEmpty := by
  cases ns <;> rfl
theorem ro_eqNil {X : Cx} {N : List Str} {sc : Scope} {k : Nat} {H : Hp} {Q : VK} {a p : Addr} {ss : List Str} (d : Def X G N sc k) (h : H a = some (.lst (ss.map V.str))) (h2 : H p = some (.lst [])) (hk : ∀ z ∈ ss, PyData.strOk z = true) (q : Q (.bl ss.isEmpty) H) : RO X (compareOp .Eq) (.ref a) (.ref p) H Q :=
  ro_eqD d (dp_strs (SqL.of h)) (.lst (SqL.of h2) .nil) (shaped_strs ss hk) rfl (by rw [eqv_nilS]; exact q)
def keptL : List Str := ["and", "cases", "cell", "else", "fewest", "from", "greatest", "if", "input", "least", "most", "not", "of", "or", "place", "row", "settle", "start", "sum", "then", "to"]
/-- _law_kept() -/
def spKept : Sp := fun vs H Q _ => vs = [] ∧ ∀ (p : Addr) (H' : Hp), H p = none → Same H H' → H' p = some (.lst (keptL.map V.str)) → Q (.ref p) H'
theorem fn_kept (T : Top G "_law_kept" (top 28) []) : Fn G "_law_kept" 0 1 spKept := by
  refine T.fn (N := ["found"]) ⟨rfl, rfl, rfl, by decide +kernel, rfl, by decide +kernel, by decide +kernel⟩ (fun vs H Q E h => ?_) (fun X vs H Q E d h => ?_)
  · obtain ⟨rfl, _⟩ := h
    rfl
  · have dd := d.toDef
    obtain ⟨rfl, k⟩ := h
    show WB X _ _ [none] H
    refine wb_cons ?_
    walk_at "wx"
    refine ⟨by show 13 ≤ sizeLine; decide, fun p hp => ?_⟩
    walk_at "wx"
    refine ⟨by show 8 ≤ sizeLine; decide, fun q hq => ?_⟩
    refine ro_cat (by rw [upd_ne (ne_of_none upd_same hq), upd_same]) upd_same (by show 21 ≤ sizeLine; decide) fun r hr => ?_
    have h0 : H r = none := (same_new hp).free ((same_new hq).free hr)
    exact k r _ h0 (((same_new hp).trans (same_new hq)).trans (same_new hr)) upd_same
def okL (l : List Nat) : Prop := ∀ c ∈ l, c < 1114112
theorem strOk_tx {l : List Nat} (h : okL l) : PyData.strOk (tx l) = true := by
  unfold PyData.strOk
  rw [Array.all_eq_true_iff_forall_mem]
  intro c hc
  have hm : c ∈ (tx l).cps.toList := Array.mem_toList_iff.mpr hc
  rw [tx_list] at hm
  exact decide_eq_true (h c hm)
theorem strOk_signs {l : List Nat} (h : okL l) (p : Nat → Bool) : ∀ z ∈ (l.filter p).map fun c => tx [c], PyData.strOk z = true := fun z hz => by
  obtain ⟨c, hc, rfl⟩ := List.mem_map.mp hz
  exact strOk_tx fun e he => by
    rw [List.mem_singleton.mp he]
    exact h c (List.mem_filter.mp hc).1
/-- _law_is_small(word) -/
def spLSmall : Sp := fun vs H Q _ => ∃ l, vs = [.str (tx l)] ∧ l.length ≤ 10000 ∧ okL l ∧ ∀ H', Same H H' → Q (.bl (!decide (l = []) && l.all isSmall)) H'
theorem fm_not (p : Nat → Bool) (l : List Nat) : l.filterMap (fun c => if p c then none else some (V.str (tx [c]))) = ((l.filter (fun c => !p c)).map fun c => tx [c]).map V.str := by
  induction l with
  | nil => rfl
  | cons c l ih =>
    rw [List.filterMap_cons, List.filter_cons]
    cases p c with
    | true => exact ih
    | false =>
      show V.str (tx [c]) :: _ = V.str (tx [c]) :: _
      rw [ih]
theorem empty_all (p : Nat → Bool) (l : List Nat) : ((l.filter (fun c => !p c)).map fun c => tx [c]).isEmpty = l.all p := by
  rw [List.isEmpty_map]
  induction l with
  | nil => rfl
  | cons c l ih =>
    rw [List.filter_cons, List.all_cons]
    cases p c with
    | true => exact ih
    | false => rfl
theorem fn_lsmall (b : Bi G.mg) (T : Top G "_law_is_small" (top 29) ["word"]) : Fn G "_law_is_small" 1 1 spLSmall := by
  refine T.fn (N := ["word", "letter"]) ⟨rfl, rfl, rfl, by decide +kernel, rfl, by decide +kernel, by decide +kernel⟩ (fun vs H Q E h => ?_) (fun X vs H Q E d h => ?_)
  · obtain ⟨_, rfl, _⟩ := h
    rfl
  · have dd := d.toDef
    obtain ⟨l, rfl, hl, ho, k⟩ := h
    show WB X _ _ [some (.str (tx l)), none] H
    refine wb_one ?_
    walk_at "wx"
    have e0 : decide (tx l = ("" : Str)) = decide (l = []) := by rw [t_em, decide_eq_decide, tx_inj]
    rw [e0]
    cases el : decide (l = []) with
    | true =>
      have k := k H (Same.refl _)
      rw [el] at k
      exact ite_f k
    | false =>
      rw [el] at k
      refine ite_t ?_
      walk_at "wx"
      refine we_lcS dd [("letter", 1)] (by decide +kernel) (by intro _; rfl) ?_
      walk_at "wx"
      have hl3 : l.length < 100000 := by omega
      refine lcS_map (fun c => if isSmall c then none else some (.str (tx [c]))) hl3 (fun c _ H1 s1 R hR => ?_) (fun L H1 hL s1 h1 => ?_)
      · intro X' d'
        dsimp only [L2.wipe, List.map, List.set]
        walk_at "wg"
        refine ⟨rfl, fun X2 d2 => wts_one (wt_not (wt_btw 97 122 ch_a ch_z (by rfl) ?_))⟩
        walk_at "wx"
        refine ⟨Nat.le_refl _, ?_⟩
        have hR := hR H1 (Same.refl _)
        show if (!isSmall c) = true then _ else _
        cases ec : isSmall c with
        | true =>
          rw [ec] at hR
          exact ite_f hR
        | false =>
          rw [ec] at hR
          refine ite_t fun X3 d3 => ?_
          walk_at "wx"
          exact hR
      · rw [fm_not] at h1
        walk_at "wx"
        refine ⟨Nat.zero_le _, fun q hq => ?_⟩
        refine ro_eqNil dd (by rw [upd_ne (ne_of_none h1 hq)]; exact h1) upd_same (strOk_signs ho _) ?_
        rw [empty_all]
        exact k _ (s1.trans (same_new hq))
end K01

namespace K01
variable {G : Gb}
def lnameW (l : List Nat) : Bool := decide (l.length < 9) && ((!decide (l = []) && l.all isSmall) && !decide (tx l ∈ keptL ++ unwS))
theorem kept_perm (z : Str) : z ∈ keptS ↔ z ∈ keptL ++ unwS := by
  unfold keptS keptL unwS
  simp only [List.mem_cons, List.cons_append, List.nil_append, List.not_mem_nil, or_false]
  constructor <;> (intro h; rcases h with h | h | h | h | h | h | h | h | h | h | h | h | h | h | h | h | h | h | h | h | h | h | h <;> simp [h])
theorem name_eq (l : List Nat) : lnameW l = isNameW l := by
  unfold lnameW isNameW
  have e1 : decide (tx l ∈ keptS) = decide (tx l ∈ keptL ++ unwS) := by rw [decide_eq_decide]; exact kept_perm _
  rw [e1]
  have e2 : decide (l.length < 9) = decide (l.length ≤ 8) := by rw [decide_eq_decide]; omega
  have e3 : decide (1 ≤ l.length) = !decide (l = []) := by
    cases l with
    | nil => rfl
    | cons c r => simp
  rw [e2, e3]
  cases decide (l = []) <;> cases decide (l.length ≤ 8) <;> cases l.all isSmall <;> cases decide (tx l ∈ keptL ++ unwS) <;> rfl
def spLName : Sp := fun vs H Q _ => ∃ l, vs = [.str (tx l)] ∧ l.length ≤ 10000 ∧ okL l ∧ ∀ H', Same H H' → Q (.bl (isNameW l)) H'
theorem fn_lname (b : Bi G.mg) (FK : Fn G "_law_kept" 0 1 spKept) (FS : Fn G "_law_is_small" 1 1 spLSmall) (T : Top G "_law_is_name" (top 30) ["matter"]) : Fn G "_law_is_name" 1 2 spLName := by
  refine T.fn (N := ["matter"]) ⟨rfl, rfl, rfl, by decide +kernel, rfl, by decide +kernel, by decide +kernel⟩ (fun vs H Q E h => ?_) (fun X vs H Q E d h => ?_)
  · obtain ⟨_, rfl, _⟩ := h
    rfl
  · have dd := d.toDef
    obtain ⟨l, rfl, hl, ho, k⟩ := h
    show WB X _ _ [some (.str (tx l))] H
    refine wb_one ?_
    rw [← name_eq] at k
    unfold lnameW at k
    walk_at "wx"
    refine ite_t ?_
    walk_at "wx"
    refine rc_lenS (by rw [tx_len]; exact len_le (by omega)) ?_
    rw [tx_len]
    walk_at "wx"
    have h9 : decide ((l.length : Int) < 9) = decide (l.length < 9) := by rw [decide_eq_decide]; omega
    rw [h9]
    cases e9 : decide (l.length < 9) with
    | false =>
      have k := k H (Same.refl _)
      rw [e9] at k
      exact ite_f k
    | true =>
      rw [e9] at k
      refine ite_t ?_
      walk_at "wx"
      refine we_call dd FS (by decide) (by decide +kernel) (by rfl) (by rfl) ?_
      walk_at "wx"
      refine ⟨hl, ho, fun H1 s1 => ⟨_, rfl, ?_⟩⟩
      cases es : (!decide (l = []) && l.all isSmall) with
      | false =>
        have k := k H1 s1
        rw [es] at k
        exact ite_f k
      | true =>
        rw [es] at k
        refine ite_t ?_
        walk_at "wx"
        refine we_call0 dd FK (by decide) (by decide +kernel) ⟨rfl, fun p H2 hp s2 h2 => ?_⟩
        walk_at "wx"
        refine ⟨by show 2 ≤ sizeLine; decide, fun q hq => ?_⟩
        refine ro_cat (by rw [upd_ne (ne_of_none h2 hq)]; exact h2) upd_same (by show 23 ≤ sizeLine; decide) fun r hr => ?_
        refine ro_notInG (ss := keptL ++ unwS) dd (.inr (SqL.of upd_same)) ?_
        exact k _ (((s1.trans s2).trans (same_new hq)).trans (same_new hr))
/-! ### the law's own sort -/
theorem t_dig : ("0123456789" : Str) = tx [48, 49, 50, 51, 52, 53, 54, 55, 56, 57] := by decide +kernel
theorem dig_fig (c : Nat) : decide (c ∈ [48, 49, 50, 51, 52, 53, 54, 55, 56, 57]) = isFig c := by
  unfold isFig
  rw [Bool.eq_iff_iff, decide_eq_true_eq, Bool.and_eq_true, decide_eq_true_eq, decide_eq_true_eq]
  simp only [List.mem_cons, List.not_mem_nil, or_false]
  omega
theorem sign_kept (z : Str) : (decide (z ∈ signsS) || (decide (z ∈ keptS) && !decide (z ∈ unwS))) = (decide (z ∈ keptL) || decide (z ∈ signsS)) := by
  have h : (decide (z ∈ keptS) && !decide (z ∈ unwS)) = decide (z ∈ keptL) := by
    rw [Bool.eq_iff_iff, Bool.and_eq_true, Bool.not_eq_true', decide_eq_true_eq, decide_eq_false_iff_not, decide_eq_true_eq, kept_perm, List.mem_append]
    constructor
    · rintro ⟨h | h, h2⟩
      · exact h
      · exact absurd h h2
    · intro h
      refine ⟨.inl h, fun h2 => ?_⟩
      have : ∀ y ∈ keptL, y ∉ unwS := by decide +kernel
      exact this z h h2
  rw [h, Bool.or_comm]
def spLSort : Sp := fun vs H Q _ => ∃ l, vs = [.str (tx l)] ∧ l.length ≤ 10000 ∧ okL l ∧ ∀ H', Same H H' → Q (.str (ksort l)) H'
/-- the law's word for a number word -/
def lnumW (l : List Nat) : Bool := decide (l = [48]) || (((decide (0 < (fig l).length) && decide ((fig l).length < 4)) && (fig l).all isFig) && !decide ((fig l).head? = some 48))
theorem num_eq (l : List Nat) : lnumW l = isNumW l := by
  unfold lnumW isNumW
  have e2 : decide ((fig l).length < 4) = decide ((fig l).length ≤ 3) := by rw [decide_eq_decide]; omega
  have e1 : decide (0 < (fig l).length) = decide (1 ≤ (fig l).length) := by rw [decide_eq_decide]; omega
  rw [e1, e2]
  by_cases h : l = [48]
  · subst h
    rfl
  · rw [decide_eq_false h]
    cases decide (1 ≤ (fig l).length) <;> cases decide ((fig l).length ≤ 3) <;> cases (fig l).all isFig <;> cases decide ((fig l).head? = some 48) <;> rfl
theorem fn_lsort (b : Bi G.mg) (FK : Fn G "_law_kept" 0 1 spKept) (FN : Fn G "_law_is_name" 1 2 spLName) (T : Top G "_law_sort" (top 31) ["word"]) : Fn G "_law_sort" 1 3 spLSort := by
  refine T.fn (N := ["word", "figures", "is_plain", "one"]) ⟨rfl, rfl, rfl, by decide +kernel, rfl, by decide +kernel, by decide +kernel⟩ (fun vs H Q E h => ?_) (fun X vs H Q E d h => ?_)
  · obtain ⟨_, rfl, _⟩ := h
    rfl
  · have dd := d.toDef
    obtain ⟨l, rfl, hl, ho, k⟩ := h
    show WB X _ _ [some (.str (tx l)), none, none, none] H
    unfold ksort at k
    rw [sign_kept] at k
    -- behind the first test
    have rest : ∀ H1, Same H H1 → (decide (tx l ∈ keptL) || decide (tx l ∈ signsS)) = false → WB X ((defBody (top 31)).drop 1) { nx := fun _ H' => Q .non H', rt := Q } [some (.str (tx l)), none, none, none] H1 := fun H1 s1 e => by
      rw [e] at k
      refine wb_cons ?_
      walk_at "wx"
      refine we_call dd FN (by decide) (by decide +kernel) (by rfl) (by rfl) ?_
      walk_at "wx"
      refine ⟨hl, ho, fun H2 s2 => ⟨_, rfl, ?_⟩⟩
      cases en : isNameW l with
      | true =>
        rw [en] at k
        refine ite_t ?_
        walk_at "wx"
        exact k H2 (s1.trans s2)
      | false =>
        rw [en] at k
        refine ite_f ?_
        refine wb_nil ?_
        -- behind figures = ..
        have rest2 : ∀ m, m = fig l → WB X ((defBody (top 31)).drop 3) { nx := fun _ H' => Q .non H', rt := Q } [some (.str (tx l)), some (.str (tx m)), none, none] H2 := fun m hm => by
          have hml : m.length ≤ 10000 := by
            rw [hm]
            unfold fig
            split
            · rename_i r
              rw [List.length_cons] at hl
              omega
            · exact hl
          have hmo : okL m := by
            rw [hm]
            unfold fig
            split
            · exact fun c hc => ho c (List.mem_cons_of_mem _ hc)
            · exact ho
          rw [← num_eq] at k
          unfold lnumW at k
          rw [← hm] at k
          have fin : ∀ (r : Bool) (H3 : Hp) (v : Option V), Same H H3 → r = ((decide (0 < m.length) && decide (m.length < 4)) && m.all isFig) → WB X ((defBody (top 31)).drop 4) { nx := fun _ H' => Q .non H', rt := Q } [some (.str (tx l)), some (.str (tx m)), some (.bl r), v] H3 := fun r H3 v s3 er => by
            have k := k H3 s3
            rw [← er] at k
            refine wb_one ?_
            walk_at "wx"
            have e0 : decide (tx l = ("0" : Str)) = decide (l = [48]) := by rw [t_0, decide_eq_decide, tx_inj]
            rw [e0]
            cases el : decide (l = [48]) with
            | true =>
              rw [el] at k
              walk_at "wy"
              exact k
            | false =>
              rw [el, Bool.false_or] at k
              refine ite_f ?_
              walk_at "wx"
              cases r with
              | false =>
                refine ite_f ?_
                refine ite_f ?_
                walk_at "wx"
                exact k
              | true =>
                refine ite_t ?_
                walk_at "wx"
                cases m with
                | nil => cases er
                | cons c r =>
                  refine rx_tx (by omega) (atI_nat (j := 0) rfl) ?_
                  walk_at "wx"
                  rw [one_0]
                  have e5 : decide ((c :: r).head? = some 48) = decide (c = 48) := by rw [decide_eq_decide]; simp
                  rw [e5, Bool.true_and] at k
                  cases e6 : decide (c = 48) with
                  | true =>
                    rw [e6] at k
                    refine ite_f ?_
                    walk_at "wx"
                    exact k
                  | false =>
                    rw [e6] at k
                    refine ite_t ?_
                    walk_at "wx"
                    exact k
          refine wb_cons ?_
          walk_at "wx"
          refine rc_lenS (by rw [tx_len]; exact len_le (by omega)) ?_
          rw [tx_len]
          walk_at "wx"
          have h0 : decide ((0 : Int) < (m.length : Int)) = decide (0 < m.length) := by rw [decide_eq_decide]; omega
          have h4 : decide ((m.length : Int) < 4) = decide (m.length < 4) := by rw [decide_eq_decide]; omega
          rw [h0]
          cases a0 : decide (0 < m.length) with
          | false =>
            refine ite_f ?_
            refine ⟨_, rfl, ite_f ?_⟩
            exact fin false H2 _ (s1.trans s2) (by rw [a0]; rfl)
          | true =>
            refine ite_t ?_
            walk_at "wx"
            rw [h4]
            cases a4 : decide (m.length < 4) with
            | false =>
              refine ite_f ?_
              exact fin false H2 _ (s1.trans s2) (by rw [a0, a4]; rfl)
            | true =>
              refine ite_t ?_
              walk_at "wx"
              refine we_lcS dd [("one", 3)] (by decide +kernel) (by intro _; rfl) ?_
              walk_at "wx"
              have hm3 : m.length < 100000 := by omega
              refine lcS_map (fun c => if isFig c then none else some (.str (tx [c]))) hm3 (fun c _ H3 s3 R hR => ?_) (fun L H3 hL s3 h3 => ?_)
              · intro X' d'
                dsimp only [L2.wipe, List.map, List.set]
                walk_at "wg"
                refine ⟨rfl, fun X2 d2 => wts_one ?_⟩
                have hR := hR H3 (Same.refl _)
                refine wt_cmp (by rfl) ?_
                walk_at "wn"
                refine we_str ?_
                rw [t_dig]
                refine ro_notInSign ?_
                refine ⟨_, rfl, ?_⟩
                rw [dig_fig]
                cases ec : isFig c with
                | true =>
                  rw [ec] at hR
                  exact ite_f hR
                | false =>
                  rw [ec] at hR
                  refine ite_t fun X3 d3 => ?_
                  walk_at "wx"
                  exact hR
              · rw [fm_not] at h3
                walk_at "wx"
                refine ⟨Nat.zero_le _, fun q hq => ?_⟩
                refine ro_eqNil dd (by rw [upd_ne (ne_of_none h3 hq)]; exact h3) upd_same (strOk_signs hmo _) ?_
                rw [empty_all]
                exact fin _ _ _ (((s1.trans s2).trans s3).trans (same_new hq)) (by rw [a0, a4]; rfl)
        refine wb_cons ?_
        walk_at "wx"
        refine rsl_tx (by omega) ?_
        have ec : cutL l none (some 1) = l.take 1 := cutL_to l 1
        rw [ec]
        walk_at "wx"
        have e0 : decide (tx (l.take 1) = ("-" : Str)) = decide (l.head? = some 45) := by
          rw [t_mi, decide_eq_decide, tx_inj]
          cases l with
          | nil => simp
          | cons c r => simp
        rw [e0]
        by_cases h45 : l.head? = some 45
        · rw [decide_eq_true h45]
          refine ite_t ?_
          walk_at "wx"
          refine rsl_tx (by omega) ?_
          have ec : cutL l (some 1) none = l.drop 1 := cutL_n l 1
          rw [ec]
          refine rest2 _ ?_
          cases l with
          | nil => cases h45
          | cons c r =>
            have e : c = 45 := Option.some.inj h45
            subst e
            rfl
        · rw [decide_eq_false h45]
          refine ite_f ?_
          walk_at "wn"
          exact rest2 l (fig_no h45).symm
    refine wb_cons ?_
    walk_at "wx"
    refine we_call0 dd FK (by decide) (by decide +kernel) ⟨rfl, fun p H2 hp s2 h2 => ?_⟩
    refine ro_inG dd (.inr (SqL.of h2)) ?_
    walk_at "wx"
    cases e1 : decide (tx l ∈ keptL) with
    | true =>
      rw [e1] at k
      walk_at "wy"
      exact k H2 s2
    | false =>
      rw [e1] at k rest
      refine ite_f ?_
      walk_at "wx"
      refine ⟨by show 15 ≤ sizeLine; decide, fun q hq => ?_⟩
      refine ro_inG (ss := signsS) dd (.inr (SqL.of upd_same)) ?_
      walk_at "wx"
      cases e2 : decide (tx l ∈ signsS) with
      | true =>
        rw [e2] at k
        walk_at "wy"
        exact k _ (s2.trans (same_new hq))
      | false =>
        rw [e2] at rest
        refine ite_f ?_
        refine wb_nil ?_
        exact rest _ (s2.trans (same_new hq)) rfl
end K01

namespace K01
variable {G : Gb}
/-- _law_inner(sign) -/
theorem fn_linner (T : Top G "_law_inner" (top 33) ["sign"]) : Fn G "_law_inner" 1 1 spInner := by
  refine T.fn (N := ["sign"]) ⟨rfl, rfl, rfl, by decide +kernel, rfl, by decide +kernel, by decide +kernel⟩ (fun vs H Q E h => ?_) (fun X vs H Q E d h => ?_)
  · obtain ⟨_, rfl, _⟩ := h
    rfl
  · have dd := d.toDef
    obtain ⟨c, rfl, k⟩ := h
    show WB X _ _ [some (.str (tx [c]))] H
    have k : Q (.bl (isSmall c || (isBig c || (isFig c || decide (c = 95))))) H := k
    refine wb_one (ws_ret (we_or (we_btw 97 122 ch_a ch_z (by rfl) ?_)))
    walk_at "wx"
    refine ⟨Nat.le_refl _, ?_⟩
    walk_at "wx"
    show if isSmall c = true then _ else _
    refine ite_b (fun e => by rw [e, Bool.true_or] at k; exact k) (fun e => ?_)
    rw [e, Bool.false_or] at k
    refine we_or (we_btw 65 90 ch_A ch_Z (by rfl) ?_)
    walk_at "wx"
    refine ⟨Nat.le_refl _, ?_⟩
    walk_at "wx"
    show if isBig c = true then _ else _
    refine ite_b (fun e => by rw [e, Bool.true_or] at k; exact k) (fun e => ?_)
    rw [e, Bool.false_or] at k
    refine we_or (we_btw 48 57 ch_0 ch_9 (by rfl) ?_)
    walk_at "wx"
    refine ⟨Nat.le_refl _, ?_⟩
    walk_at "wx"
    show if isFig c = true then _ else _
    refine ite_b (fun e => by rw [e, Bool.true_or] at k; exact k) (fun e => ?_)
    rw [e, Bool.false_or] at k
    walk_at "wx"
    rw [one_us]
    exact k
/-- _law_word_at(text, at) -/
def spWordAt : Sp := fun vs H Q _ => ∃ (l : List Nat) (i : Nat), vs = [.str (tx l), .int i] ∧ l.length ≤ 100000 ∧ i < l.length ∧ ∀ H', Same H H' → Q (.str (tx ((l.drop i).take (wlen (l.drop i))))) H'
theorem fn_wordat (b : Bi G.mg) (F : Fn G "_law_inner" 1 1 spInner) (T : Top G "_law_word_at" (top 34) ["text", "at"]) : Fn G "_law_word_at" 2 2 spWordAt := by
  refine T.fn (N := ["text", "at", "end", "is_long"]) ⟨rfl, rfl, rfl, by decide +kernel, rfl, by decide +kernel, by decide +kernel⟩ (fun vs H Q E h => ?_) (fun X vs H Q E d h => ?_)
  · obtain ⟨_, _, rfl, _⟩ := h
    rfl
  · have dd := d.toDef
    obtain ⟨l, i, rfl, hl, hi, k⟩ := h
    obtain ⟨c, hc, hdr⟩ := drop_at hi
    rw [hdr] at k
    show WB X _ _ [some (.str (tx l)), some (.int i), none, none] H
    refine wb_cons ?_
    walk_at "wx"
    have e1 : ((i : Int) + 1) = ((i + 1 : Nat) : Int) := by omega
    rw [e1]
    -- behind is_long = ..
    have rest : ∀ g : Bool, g = (isInner c || (decide (c = 45) && one isFig ((l.drop (i + 1)).take 1))) → WB X ((defBody (top 34)).drop 2) { nx := fun _ H' => Q .non H', rt := Q } [some (.str (tx l)), some (.int i), some (.int ((i + 1 : Nat) : Int)), some (.bl g)] H := fun g hg => by
      have fin : ∀ j : Nat, (g = true → j = i + wlen (c :: l.drop (i + 1))) → (g = false → j = i + 1) → WB X ((defBody (top 34)).drop 3) { nx := fun _ H' => Q .non H', rt := Q } [some (.str (tx l)), some (.int i), some (.int j), some (.bl g)] H := fun j hj1 hj2 => by
        refine wb_one ?_
        cases g with
        | true =>
          walk_at "wx"
          refine ite_f ?_
          refine ite_f ?_
          walk_at "wx"
          refine rsl_tx hl ?_
          rw [cutL_nn, hj1 rfl, hdr]
          have e2 : i + wlen (c :: l.drop (i + 1)) - i = wlen (c :: l.drop (i + 1)) := by omega
          rw [e2]
          exact k H (Same.refl _)
        | false =>
          have hw : wlen (c :: l.drop (i + 1)) = if (c :: l.drop (i + 1)).take 2 = [60, 61] ∨ (c :: l.drop (i + 1)).take 2 = [61, 61] then 2 else 1 := by
            rw [wlen_eq, if_neg (by rw [← hg]; exact Bool.false_ne_true)]
          rw [hw] at k
          walk_at "wx"
          refine ite_t ?_
          walk_at "wx"
          refine rsl_tx hl ?_
          have ej : ((i : Int) + 2) = ((i + 2 : Nat) : Int) := by omega
          have e3 : i + 2 - i = 2 := by omega
          rw [ej, cutL_nn, hdr, e3]
          walk_at "wx"
          refine ⟨by show 2 ≤ sizeLine; decide, fun q hq => ?_⟩
          refine ro_inG (ss := ["<=", "=="]) dd (.inr (SqL.of upd_same)) ?_
          walk_at "wx"
          rw [t_le, t_ee]
          by_cases hp : (c :: l.drop (i + 1)).take 2 = [60, 61] ∨ (c :: l.drop (i + 1)).take 2 = [61, 61]
          · rw [if_pos hp] at k
            rw [decide_eq_true (by rcases hp with hp | hp <;> rw [hp] <;> simp)]
            refine ite_t ?_
            walk_at "wx"
            refine rsl_tx hl ?_
            rw [ej, cutL_nn, hdr, e3]
            exact k _ (same_new hq)
          · rw [if_neg hp] at k
            rw [decide_eq_false (by simp only [List.mem_cons, List.not_mem_nil, or_false, tx_inj]; exact hp)]
            refine ite_f ?_
            walk_at "wx"
            refine rsl_tx hl ?_
            have e4 : i + 1 - i = 1 := by omega
            rw [cutL_nn, hj2 rfl, hdr, e4]
            exact k _ (same_new hq)
      refine wb_cons (ws_while d (fun σ H' => H' = H ∧ ∃ j : Nat, σ = [some (.str (tx l)), some (.int i), some (.int j), some (.bl g)] ∧ j ≤ l.length ∧ (g = true → j + run (l.drop j) = i + wlen (c :: l.drop (i + 1))) ∧ (g = false → j = i + 1)) (fun σ H' => match σ with | [_, _, some (.int j), _] => l.length - j.toNat | _ => 0)
        ⟨rfl, i + 1, rfl, by omega, fun eg => ?_, fun _ => rfl⟩ ?_)
      · rw [wlen_eq, if_pos (by rw [← hg]; exact eg)]
        omega
      rintro σ H' ⟨rfl, j, rfl, hj, p1, p2⟩
      walk_at "wx"
      cases g with
      | false =>
        refine ite_f ?_
        refine ite_f ?_
        exact fin j (fun z => by cases z) p2
      | true =>
        refine ite_t ?_
        walk_at "wx"
        refine rc_lenS (by rw [tx_len]; exact len_le hl) ?_
        rw [tx_len]
        walk_at "wx"
        by_cases hlt : j < l.length
        · rw [decide_eq_true (by omega : (j : Int) < (l.length : Int))]
          refine ite_t ?_
          walk_at "wx"
          refine we_call dd F (by decide) (by decide +kernel) (by rfl) (by rfl) ?_
          walk_at "wx"
          obtain ⟨c2, hc2, hdr2⟩ := drop_at hlt
          refine rx_tx hl (atI_at hc2) ?_
          walk_at "wx"
          cases hic : isInner c2 with
          | true =>
            refine ite_t ?_
            walk_at "wx"
            refine ⟨⟨rfl, j + 1, rfl, by omega, fun _ => ?_, fun z => by cases z⟩, ?_⟩
            · rw [← p1 rfl, hdr2]
              have : run (c2 :: l.drop (j + 1)) = run (l.drop (j + 1)) + 1 := by unfold run; rw [List.takeWhile_cons, if_pos hic]; rfl
              omega
            · show l.length - ((j : Int) + 1).toNat < l.length - ((j : Int)).toNat
              omega
          | false =>
            refine ite_f ?_
            have hr : run (c2 :: l.drop (j + 1)) = 0 := by unfold run; rw [List.takeWhile_cons, if_neg (by rw [hic]; exact Bool.false_ne_true)]; rfl
            have p1 := p1 rfl
            rw [hdr2, hr] at p1
            exact fin j (fun _ => p1) p2
        · rw [decide_eq_false (by omega : ¬ (j : Int) < (l.length : Int))]
          refine ite_f ?_
          refine ite_f ?_
          have hr : l.drop j = [] := List.drop_eq_nil_of_le (by omega)
          have p1 := p1 rfl
          rw [hr] at p1
          exact fin j (fun _ => p1) p2
    refine we_call dd F (by decide) (by decide +kernel) (by rfl) (by rfl) ?_
    walk_at "wx"
    refine rx_tx hl (atI_at hc) ?_
    walk_at "wx"
    cases hic : isInner c with
    | true =>
      refine ite_t ?_
      exact rest true (by rw [hic]; rfl)
    | false =>
      refine ite_f ?_
      walk_at "wx"
      refine rx_tx hl (atI_at hc) ?_
      walk_at "wx"
      rw [one_mi]
      cases h45 : decide (c = 45) with
      | false =>
        refine ite_f ?_
        exact rest false (by rw [hic, h45]; rfl)
      | true =>
        refine ite_t ?_
        refine we_one (we_btw 48 57 ch_0 ch_9 (by rfl) ?_)
        walk_at "wx"
        refine rsl_tx hl ?_
        have ej2 : ((i : Int) + 2) = ((i + 2 : Nat) : Int) := by omega
        have e2 : i + 2 - (i + 1) = 1 := by omega
        rw [e1, ej2, cutL_nn, e2]
        refine ⟨_, rfl, take1 _, ?_⟩
        exact rest _ (by rw [hic, h45]; rfl)
end K01

namespace K01
variable {G : Gb}
/-- _law_cut(text) -/
abbrev nCut : List Str := ["text", "found", "at", "line", "column", "size"]
theorem scCut : FnScope nCut ["text"] (defScope (top 35)) := ⟨rfl, rfl, rfl, by decide +kernel, rfl, by decide +kernel, by decide +kernel⟩
theorem fn_cut (b : Bi G.mg) (F : Fn G "_law_word_at" 2 2 spWordAt) (T : Top G "_law_cut" (top 35) ["text"]) : Fn G "_law_cut" 1 3 spSplit := by
  refine T.fn (N := nCut) scCut (fun vs H Q E h => ?_) (fun X vs H Q E d h => ?_)
  · obtain ⟨_, rfl, _⟩ := h
    rfl
  · have dd := d.toDef
    obtain ⟨l, rfl, hl, k⟩ := h
    have hl2 : l.length ≤ 100000 := by omega
    show WB X _ _ [some (.str (tx l)), none, none, none, none, none] H
    refine wb_cons (ws_asg (by rfl) (by rfl) (by rfl) ?_)
    walk_at "wx"
    refine ⟨Nat.zero_le _, fun p hp0 => ?_⟩
    walk_at "wx"
    refine ⟨by show 4 ≤ sizeLine; decide, fun t ht => ?_⟩
    refine wg_tup dd (SqT.of upd_same) (by rfl) (by rfl) ?_
    walk_at "wx"
    have hpt : (upd (upd H p (.lst [])) t (.tup [.ref p, .int 0, .int 1, .int 1])) p = some (.lst []) := by rw [upd_ne (ne_of_none upd_same ht), upd_same]
    have s0 : Same H (upd (upd H p (.lst [])) t (.tup [.ref p, .int 0, .int 1, .int 1])) := (same_new hp0).trans (same_new ht)
    refine ws_while d (fun σ H' => Same H H' ∧ ∃ (as : List Addr) (ws : List Wd) (j : Nat) (ln co : Int) (v5 : Option V), σ = [some (.str (tx l)), some (.ref p), some (.int j), some (.int ln), some (.int co), v5] ∧ j ≤ l.length ∧
      H' p = some (.lst (as.map V.ref)) ∧ as.length = ws.length ∧ (∀ (i : Nat) (a : Addr) (w : Wd), as[i]? = some a → ws[i]? = some w → H' a = some (.tup (wv w))) ∧ as.length ≤ j ∧ ws ++ cutA (l.drop j) ln co = words l) (fun σ H' => match σ with | [_, _, some (.int j), _, _, _] => l.length - j.toNat | _ => 0)
      ⟨s0, [], [], 0, 1, 1, none, rfl, Nat.zero_le _, hpt, rfl, fun i a w e => by simp at e, Nat.le_refl _, rfl⟩ ?_
    rintro σ H' ⟨s1, as, ws, j, ln, co, v5, rfl, hj, h1, h2, h3, h4, h5⟩
    walk_at "wx"
    refine rc_lenS (by rw [tx_len]; exact len_le hl2) ?_
    rw [tx_len]
    walk_at "wx"
    by_cases hlt : j < l.length
    · rw [decide_eq_true (by omega : (j : Int) < (l.length : Int))]
      refine ite_t ?_
      obtain ⟨c, hc, hdr⟩ := drop_at hlt
      rw [hdr] at h5
      walk_at "wx"
      refine rx_tx hl2 (atI_at hc) ?_
      walk_at "wx"
      refine ⟨by show 2 ≤ sizeLine; decide, fun q hq => ?_⟩
      refine ro_notInG (ss := [" ", "\n"]) dd (.inr (SqL.of upd_same)) ?_
      have sq : Same H' (upd H' q (.lst [.str " ", .str "\n"])) := same_new hq
      have h1q : (upd H' q (.lst [.str " ", .str "\n"])) p = some (.lst (as.map V.ref)) := sq _ _ h1
      -- behind the if
      by_cases c10 : c = 10
      · rw [decide_eq_true (by rw [c10, t_nl]; simp [tx_inj])]
        walk_at "wx"
        refine ite_f ?_
        walk_at "wx"
        refine ws_par2 d 3 4 rfl rfl (by decide) (by decide +kernel) (by decide +kernel) (by intro _; rfl) (by rfl) ?_ (by rfl) (by rfl)
        walk_at "wx"
        refine rx_tx hl2 (atI_at hc) ?_
        walk_at "wx"
        rw [one_nl, decide_eq_true c10]
        refine rc_intB ?_
        walk_at "wx"
        refine rx_tx hl2 (atI_at hc) ?_
        walk_at "wx"
        rw [one_nl, decide_eq_true c10]
        refine ite_t ?_
        walk_at "wx"
        refine ⟨⟨(s1.trans sq), as, ws, j + 1, ln + 1, 1, _, rfl, by omega, h1q, h2, fun i a w e1 e2 => sq _ _ (h3 i a w e1 e2), by omega, ?_⟩, ?_⟩
        · rw [cutA_nl c10] at h5
          exact h5
        · show l.length - ((j : Int) + 1).toNat < l.length - ((j : Int)).toNat
          omega
      · by_cases c32 : c = 32
        · rw [decide_eq_true (by rw [c32, t_sp]; simp [tx_inj])]
          walk_at "wx"
          refine ite_f ?_
          walk_at "wx"
          refine ws_par2 d 3 4 rfl rfl (by decide) (by decide +kernel) (by decide +kernel) (by intro _; rfl) (by rfl) ?_ (by rfl) (by rfl)
          walk_at "wx"
          refine rx_tx hl2 (atI_at hc) ?_
          walk_at "wx"
          rw [one_nl, decide_eq_false c10]
          refine rc_intB ?_
          walk_at "wx"
          refine rx_tx hl2 (atI_at hc) ?_
          walk_at "wx"
          rw [one_nl, decide_eq_false c10]
          refine ite_f ?_
          walk_at "wx"
          refine ⟨⟨(s1.trans sq), as, ws, j + 1, ln + 0, co + 1, _, rfl, by omega, h1q, h2, fun i a w e1 e2 => sq _ _ (h3 i a w e1 e2), by omega, ?_⟩, ?_⟩
          · rw [cutA_sp c10 c32] at h5
            rw [Int.add_zero]
            exact h5
          · show l.length - ((j : Int) + 1).toNat < l.length - ((j : Int)).toNat
            omega
        · rw [decide_eq_false (by rw [t_sp, t_nl]; simp [tx_inj, c10, c32])]
          walk_at "wx"
          refine ite_t ?_
          have hp := wlen_pos c (l.drop (j + 1))
          have hle : j + wlen (c :: l.drop (j + 1)) ≤ l.length := by
            have := wlen_le (l.drop j)
            rw [hdr, List.length_cons, List.length_drop] at this
            omega
          have hlw : ((c :: l.drop (j + 1)).take (wlen (c :: l.drop (j + 1)))).length = wlen (c :: l.drop (j + 1)) := by
            rw [List.length_take]
            have := wlen_le (c :: l.drop (j + 1))
            omega
          walk_at "wx"
          refine we_bm dd PySem.F.plainAttrs_list PySem.F.slot_list_append PySem.F.type_list_append (by rfl) (by rfl) (by rfl) (by rfl) (by rfl) ?_
          walk_at "wx"
          refine ⟨ty_list h1q, ?_⟩
          walk_at "wx"
          refine we_call dd F (by decide) (by decide +kernel) (by rfl) (by rfl) ?_
          walk_at "wx"
          refine ⟨l, j, rfl, hl2, hlt, fun H2 s2 => ?_⟩
          rw [hdr]
          have h1r : H2 p = some (.lst (as.map V.ref)) := s2 _ _ h1q
          walk_at "wx"
          refine ⟨by show 3 ≤ sizeLine; decide, fun r hr => ?_⟩
          have h1s : ∀ o, (upd H2 r o) p = some (.lst (as.map V.ref)) := fun o => by rw [upd_ne (ne_of_none h1r hr)]; exact h1r
          refine wa_nil ?_
          refine rm_append (h1s _) (by rw [List.length_map]; exact len_lt (by omega)) ?_
          have W := WordsAt.snoc (w := ((c :: l.drop (j + 1)).take (wlen (c :: l.drop (j + 1))), ln, co)) h1r h2 (fun i a w e1 e2 => s2 _ _ (sq _ _ (h3 i a w e1 e2))) hr
          have sAll : Same H (upd (upd H2 r (.tup (wv ((c :: l.drop (j + 1)).take (wlen (c :: l.drop (j + 1))), ln, co)))) p (.lst (as.map V.ref ++ [.ref r]))) := same_app ((s1.trans sq).trans s2) hp0 hr
          have nrp : r ≠ p := (ne_of_none h1r hr).symm
          have hrr : (upd (upd H2 r (.tup (wv ((c :: l.drop (j + 1)).take (wlen (c :: l.drop (j + 1))), ln, co)))) p (.lst (as.map V.ref ++ [.ref r]))) r = some (.tup (wv ((c :: l.drop (j + 1)).take (wlen (c :: l.drop (j + 1))), ln, co))) := by rw [upd_ne nrp, upd_same]
          walk_at "wx"
          refine rx_list dd (SqL.of upd_same) (at_last (by rw [List.getLast?_append]; rfl)) ?_
          walk_at "wx"
          refine rx_tup dd (SqT.of hrr) (atI_nat (j := 0) rfl) ?_
          walk_at "wx"
          refine rc_lenS (by rw [tx_len]; exact len_le (by rw [hlw]; omega)) ?_
          rw [tx_len, hlw]
          walk_at "wx"
          refine ws_par2 d 3 4 rfl rfl (by decide) (by decide +kernel) (by decide +kernel) (by intro _; rfl) (by rfl) ?_ (by rfl) (by rfl)
          walk_at "wx"
          refine rx_tx hl2 (atI_at hc) ?_
          walk_at "wx"
          rw [one_nl, decide_eq_false c10]
          refine rc_intB ?_
          walk_at "wx"
          refine rx_tx hl2 (atI_at hc) ?_
          walk_at "wx"
          rw [one_nl, decide_eq_false c10]
          refine ite_f ?_
          walk_at "wx"
          obtain ⟨as', g1, g2, g3⟩ := W
          have l1 : as'.length = as.length + 1 := by rw [g2, List.length_append, h2]; rfl
          refine ⟨⟨sAll, as', _, j + wlen (c :: l.drop (j + 1)), ln + 0, co + wlen (c :: l.drop (j + 1)), _, rfl, hle, g1, g2, g3, by omega, ?_⟩, ?_⟩
          · rw [cutA_wd c10 c32] at h5
            have e2 : l.drop (j + wlen (c :: l.drop (j + 1))) = (c :: l.drop (j + 1)).drop (wlen (c :: l.drop (j + 1))) := by
              rw [← hdr, List.drop_drop]
            rw [e2, Int.add_zero, List.append_assoc]
            exact h5
          · show l.length - ((j : Int) + (wlen (c :: l.drop (j + 1)) : Nat)).toNat < l.length - ((j : Int)).toNat
            omega
    · rw [decide_eq_false (by omega : ¬ (j : Int) < (l.length : Int))]
      refine ite_f ?_
      walk_at "wx"
      have hn : l.drop j = [] := List.drop_eq_nil_of_le (by omega)
      rw [hn, cutA_nil, List.append_nil] at h5
      rw [← h5] at k
      exact k p H' hp0 s1 ⟨as, h1, h2, h3⟩
end K01

namespace K01
variable {G : Gb}
open LamX
/-! ### the draw's frame where lambdas are made -/
theorem DrawAt_lam {T : List (Addr × Str)} {H0 H H1 : Hp} {p : Addr} {B : Nat} (A : DrawAt H0 H p B) (e : ExtN H H1) (t : Tabs T H1) : ∃ H0', ExtN H0 H0' ∧ Tabs T H0' ∧ DrawAt H0' H1 p B := by
  obtain ⟨s, n, aw, ac, ws, cs, r, tt, n1, n2, I⟩ := A
  have hd : H1 p = some (.dK (D4 aw ac r tt)) := e _ _ I.hd (fun ps z => by cases z)
  have hw : H1 aw = some (.lst (ws.map V.int)) := e _ _ I.hw (fun ps z => by cases z)
  have hc : H1 ac = some (.lst (cs.map V.int)) := e _ _ I.hc (fun ps z => by cases z)
  refine ⟨fun b => if b = p ∨ b = aw ∨ b = ac then none else H1 b, ?_, ?_, ?_⟩
  · intro b o ho hn
    have h1 := e _ _ (s _ _ ho) hn
    have : ¬ (b = p ∨ b = aw ∨ b = ac) := by
      rintro (z | z | z)
      · rw [z, n] at ho; cases ho
      · rw [z, n1] at ho; cases ho
      · rw [z, n2] at ho; cases ho
    show (if _ then none else H1 b) = _
    rw [if_neg this]
    exact h1
  · intro q hq
    obtain ⟨ps, t1, t2, t3⟩ := t q hq
    have no : ∀ {b : Addr} {o : HO}, H1 b = some o → (∀ kvs, o ≠ .dK kvs) → (∀ xs, o ≠ .lst xs) → ¬ (b = p ∨ b = aw ∨ b = ac) := by
      rintro b o ho h1 h2 (z | z | z)
      · rw [z, hd] at ho
        exact h1 _ (Option.some.inj ho).symm
      · rw [z, hw] at ho
        exact h2 _ (Option.some.inj ho).symm
      · rw [z, hc] at ho
        exact h2 _ (Option.some.inj ho).symm
    refine ⟨ps, ?_, t2, fun pos cv h => ?_⟩
    · show (if _ then none else H1 q.1) = _
      rw [if_neg (no t1 (fun _ z => by cases z) (fun _ z => by cases z))]
      exact t1
    · obtain ⟨c, c1, c2⟩ := t3 pos cv h
      refine ⟨c, c1, ?_⟩
      show (if _ then none else H1 c) = _
      rw [if_neg (no c2 (fun _ z => by unfold CodeO at z; cases z) (fun _ z => by unfold CodeO at z; cases z))]
      exact c2
  · refine ⟨fun b u q => ?_, if_pos (.inl rfl), aw, ac, ws, cs, r, tt, if_pos (.inr (.inl rfl)), if_pos (.inr (.inr rfl)), ⟨hd, hw, hc, I.t0, I.tB, I.cB, I.wl, I.ne⟩⟩
    by_cases z : b = p ∨ b = aw ∨ b = ac
    · rw [if_pos z] at q
      cases q
    · rw [if_neg z] at q
      exact q
theorem seqN {K : PySem.W.Frag} {H H' : Hp} {a : Addr} {xs : List V} (e : ExtN H H') (h : SqL K H a xs) : SqL K H' a xs := by
  rcases h with (h | ⟨o, h⟩) | h
  · exact .inl (.inl (e _ _ h (fun _ z => by cases z)))
  · exact .inl (.inr ⟨o, e _ _ h (fun _ z => by cases z)⟩)
  · exact .inr h
/-! ### names -/
def signsT : Str := " !\"#$&'()*+,-./0123456789:;<=>?@ABCDEFGHIJKLMNOPQRSTUVWXYZ[\\]^_`abcdefghijklmnopqrstuvwxyz{|}~"
def spSigns : Sp := fun vs H Q _ => vs = [] ∧ Q (.str signsT) H
theorem fn_signs (T : Top G "_law_signs" (top 32) []) : Fn G "_law_signs" 0 1 spSigns := by
  refine T.fn (N := []) ⟨rfl, rfl, rfl, by decide +kernel, rfl, by decide +kernel, by decide +kernel⟩ (fun vs H Q E h => ?_) (fun X vs H Q E d h => ?_)
  · obtain ⟨rfl, _⟩ := h
    rfl
  · have dd := d.toDef
    obtain ⟨rfl, k⟩ := h
    show WB X _ _ [] H
    refine wb_one ?_
    walk_at "wx"
    exact k
theorem join_tx (ls : List (List Nat)) : Txt.join "" (ls.map tx) = tx ls.flatten := by
  rw [TL.join_eq]
  have key : ∀ ls : List (List Nat), (Str.join "" (ls.map tx)).cps.toList = ls.flatten := by
    intro ls
    induction ls with
    | nil => rfl
    | cons l ls ih =>
      cases ls with
      | nil => simp [Str.join]
      | cons m ls =>
        show (tx l ++ ("" : Str) ++ Str.join "" ((m :: ls).map tx)).cps.toList = _
        have e : (tx l ++ ("" : Str) ++ Str.join "" ((m :: ls).map tx)).cps.toList = (tx l).cps.toList ++ ("" : Str).cps.toList ++ (Str.join "" ((m :: ls).map tx)).cps.toList := by
          show ((tx l).cps ++ ("" : Str).cps ++ (Str.join "" ((m :: ls).map tx)).cps).toList = _
          rw [Array.toList_append, Array.toList_append]
        rw [e, ih, tx_list]
        have e2 : ("" : Str).cps.toList = [] := by decide +kernel
        rw [e2, List.append_nil]
        rfl
  rw [← key ls, tx_of]
theorem sum_len (ls : List (List Nat)) : ((ls.map tx).map (·.length)).sum = ls.flatten.length := by
  induction ls with
  | nil => rfl
  | cons l ls ih => rw [List.map_cons, List.map_cons, List.sum_cons, ih, tx_len, List.flatten_cons, List.length_append]
/-- a drawn name -/
def okName (l : List Nat) : Prop := 1 ≤ l.length ∧ l.length ≤ 10 ∧ ∀ c ∈ l, isInner c = true
def spAnyName : Sp := fun vs H Q _ => ∃ (H0 : Hp) (p : Addr) (B : Nat), vs = [.ref p] ∧ DrawAt H0 H p B ∧ B < 800000000000 ∧ ∀ (l : List Nat) (H' : Hp), okName l → DrawAt H0 H' p (B + 20) → Q (.str (tx l)) H'
theorem letters_at (n : Nat) (h : n < 26) : ∃ c, ("abcdefghijklmnopqrstuvwxyz" : Str).cps.toList[n]? = some c ∧ isInner c = true := by
  have key : ∀ n ∈ List.range 26, (match ("abcdefghijklmnopqrstuvwxyz" : Str).cps.toList[n]? with | some c => isInner c | none => false) = true := by decide +kernel
  have := key n (List.mem_range.mpr h)
  split at this
  · rename_i c e
    exact ⟨c, e, this⟩
  · cases this
theorem fn_anyname (b : Bi G.mg) (FT : Fn G "_law_take" 2 2 spTake) (FP : Fn G "_law_pick" 2 3 (spPick G.K)) (T : Top G "_law_any_name" (top 36) ["draw"]) : Fn G "_law_any_name" 1 4 spAnyName := by
  refine T.fn (N := ["draw", "letters", "found", "k"]) ⟨rfl, rfl, rfl, by decide +kernel, rfl, by decide +kernel, by decide +kernel⟩ (fun vs H Q E h => ?_) (fun X vs H Q E d h => ?_)
  · obtain ⟨_, _, _, rfl, _⟩ := h
    rfl
  · have dd := d.toDef
    obtain ⟨H0, p, B, rfl, A, hB, k⟩ := h
    show WB X _ _ [some (.ref p), none, none, none] H
    refine wb_cons ?_
    walk_at "wx"
    refine we_bm dd PySem.F.plainAttrs_str PySem.F.slot_str_join PySem.F.type_str_join (by rfl) (by rfl) (by rfl) (by rfl) (by rfl) ?_
    walk_at "wx"
    refine ⟨rfl, ?_⟩
    walk_at "wx"
    refine we_lcR dd [("k", 3)] (by decide +kernel) (by decide +kernel) b.b_range (by intro _; rfl) (by rfl) ?_
    walk_at "wx"
    refine we_call dd FT (by decide) (by decide +kernel) (by rfl) (by rfl) ?_
    walk_at "wx"
    refine ⟨H0, p, B, 9, rfl, A, by omega, by decide, by decide, fun n H1 c0 c1 A1 => ?_⟩
    walk_at "wx"
    refine ⟨by omega, by omega, fun L hL => ⟨fun i H' => ∃ (Hb : Hp) (ls : List (List Nat)), Same H0 Hb ∧ DrawAt Hb H' p (B + 1 + i) ∧ ls.length = i ∧ (∀ l ∈ ls, ∃ c, l = [c] ∧ isInner c = true) ∧ Hb L = some (.lst (ls.map fun l => .str (tx l))), ?_, ?_, ?_⟩⟩
    · exact ⟨upd H0 L (.lst []), [], same_new (A1.same.free hL), A1.laid hL, rfl, (fun _ h => nomatch h), upd_same⟩
    · rintro j H2 hj ⟨Hb, ls, sb, A2, el, hl, hL2⟩ X' d'
      dsimp only [L2.wipe, List.map, List.set]
      walk_at "wg"
      refine ⟨rfl, fun X2 d2 => wts_nil (ite_t fun X3 d3 => ?_)⟩
      walk_at "wx"
      refine we_call d3 FT (by decide) (by decide +kernel) (by rfl) (by rfl) ?_
      walk_at "wx"
      refine ⟨Hb, p, B + 1 + j, 26, rfl, A2, by omega, by decide, by decide, fun m H3 m0 m1 A3 => ?_⟩
      obtain ⟨mn, rfl⟩ : ∃ mn : Nat, m = (mn : Int) := ⟨m.toNat, by omega⟩
      obtain ⟨c, hc, ic⟩ := letters_at mn (by omega)
      walk_at "wx"
      refine rx_str (by decide +kernel) (atI_nat hc) ?_
      have h3 := A3.same _ _ hL2
      refine ⟨_, h3, by rw [List.length_map]; exact len_lt (by omega), upd Hb L (.lst ((ls.map fun l => V.str (tx l)) ++ [.str (tx [c])])), ls ++ [[c]], same_upd sb (A1.same.free hL), A3.put hL2, by rw [List.length_append, el]; rfl, fun l hm => ?_, ?_⟩
      · rcases List.mem_append.mp hm with hm | hm
        · exact hl l hm
        · rw [List.mem_singleton.mp hm]
          exact ⟨c, rfl, ic⟩
      · rw [upd_same, List.map_append]
        rfl
    · rintro H2 ⟨Hb, ls, sb, A2, el, hl, hL2⟩
      walk_at "wx"
      have hj : ls.map (fun l => V.str (tx l)) = (ls.map tx).map V.str := by rw [List.map_map]; rfl
      rw [hj] at hL2
      have lf : ls.flatten.length = ls.length := by
        clear hL2 hj el
        induction ls with
        | nil => rfl
        | cons l ls ih =>
          obtain ⟨c, rfl, _⟩ := hl l List.mem_cons_self
          rw [List.flatten_cons, List.length_append, ih fun z hz => hl z (List.mem_cons_of_mem _ hz), List.length_cons]
          simp
          omega
      have al : ∀ c ∈ ls.flatten, isInner c = true := fun c hc => by
        obtain ⟨l, hm, hc⟩ := List.mem_flatten.mp hc
        obtain ⟨c', rfl, ic⟩ := hl l hm
        rw [List.mem_singleton.mp hc]
        exact ic
      refine rm_join dd (SqL.of (A2.same _ _ hL2)) ?_ ?_
      · rw [sum_len, lf, List.length_map]
        show ls.length + ls.length * 0 ≤ _
        omega
      rw [join_tx]
      walk_at "wx"
      refine we_call dd FT (by decide) (by decide +kernel) (by rfl) (by rfl) ?_
      walk_at "wx"
      refine ⟨Hb, p, _, 5, rfl, A2, by omega, by decide, by decide, fun m H3 m0 m1 A3 => ?_⟩
      walk_at "wx"
      cases decide (0 < m) with
      | true =>
        refine ite_t ?_
        walk_at "wx"
        refine k _ _ ⟨by omega, by omega, al⟩ ((A3.less sb).mono (by omega))
      | false =>
        refine ite_f ?_
        walk_at "wx"
        refine we_call dd FP (by decide) (by decide +kernel) (by rfl) (by rfl) ?_
        walk_at "wx"
        refine ⟨by show 4 ≤ sizeLine; decide, fun q hq => ?_⟩
        walk_at "wA"
        refine ⟨upd Hb q (.lst [.str "A", .str "7", .str "_", .str "Z"]), p, q, _, _, rfl, A3.laid hq, by omega, SqL.of upd_same, by show 0 < 4; decide, by show 4 < 1073741824; decide, fun i x H4 hx A4 => ?_⟩
        have nq := A3.same.free hq
        obtain ⟨c, rfl, ic⟩ : ∃ c, x = .str (tx [c]) ∧ isInner c = true := by
          have hm := List.mem_of_getElem? hx
          simp only [List.mem_cons, List.not_mem_nil, or_false] at hm
          rcases hm with rfl | rfl | rfl | rfl
          · exact ⟨65, by congr 1, by decide⟩
          · exact ⟨55, by congr 1, by decide⟩
          · exact ⟨95, by congr 1, by decide⟩
          · exact ⟨90, by congr 1, by decide⟩
        refine ro_addT (by show _ ≤ sizeLine; exact len_le (by rw [List.length_singleton]; omega)) ?_
        refine k _ _ ⟨?_, ?_, fun z hz => ?_⟩ ((A4.less (sb.trans (same_new nq))).mono (by omega))
        · rw [List.length_append, List.length_singleton]; omega
        · rw [List.length_append, List.length_singleton]; omega
        · rcases List.mem_append.mp hz with hz | hz
          · exact al z hz
          · rw [List.mem_singleton.mp hz]
            exact ic
end K01

namespace K01
variable {G : Gb}
open LamX
/-! ### words as data -/
abbrev wd (w : Wd) : PyData := .tuple [.str (tx w.1), .int w.2.1, .int w.2.2]
theorem dp_words {K : PySem.W.Frag} {H : Hp} {p : Addr} {ws : List Wd} (h : WordsAt H p ws) : Dp K H (.ref p) (.list (ws.map wd)) := by
  obtain ⟨as, h1, h2, h3⟩ := h
  refine .lst (SqL.of h1) ?_
  clear h1
  have key : ∀ (as : List Addr) (ws : List Wd), as.length = ws.length → (∀ (i : Nat) (a : Addr) (w : Wd), as[i]? = some a → ws[i]? = some w → H a = some (.tup (wv w))) → DpAll K H (as.map V.ref) (ws.map wd) := by
    intro as
    induction as with
    | nil =>
      intro ws h2 h3
      match ws, h2 with
      | [], _ => exact .nil
    | cons a as ih =>
      intro ws h2 h3
      match ws, h2 with
      | w :: ws, h2 =>
        refine .cons ?_ (ih ws (Nat.succ.inj h2) fun i b v e1 e2 => h3 (i + 1) b v e1 e2)
        exact .tup (SqT.of (h3 0 a w rfl rfl)) (.cons (.str _) (.cons (.int _) (.cons (.int _) .nil)))
  exact key as ws h2 h3
theorem lay_words : ∀ (ws : List Wd), (∀ w ∈ ws, okL w.1) → PyData.canLayAll0 (ws.map wd) = true ∧ PyData.depthAll (ws.map wd) ≤ 1
  | [], _ => ⟨rfl, Nat.zero_le _⟩
  | w :: ws, h => by
    obtain ⟨h1, h2⟩ := lay_words ws fun v hv => h v (List.mem_cons_of_mem _ hv)
    refine ⟨?_, ?_⟩
    · show ((PyData.strOk (tx w.1) && true) && PyData.canLayAll0 (ws.map wd)) = true
      rw [h1, strOk_tx (h w List.mem_cons_self)] <;> rfl
    · show max 1 (PyData.depthAll (ws.map wd)) ≤ 1
      omega
theorem shaped_words (ws : List Wd) (h : ∀ w ∈ ws, okL w.1) : SeqAt.shaped (.list (ws.map wd)) = true := by
  obtain ⟨h1, h2⟩ := lay_words ws h
  show (PyData.canLayAll0 (ws.map wd) && decide (PyData.depthAll (ws.map wd) + 1 ≤ 64)) = true
  rw [h1, decide_eq_true (by omega)] <;> rfl
theorem eqv_wd (w v : Wd) : PyData.eqv (wd w) (wd v) = decide (w = v) := by
  show (tx w.1 == tx v.1 && (w.2.1 == v.2.1 && (w.2.2 == v.2.2 && true))) = _
  rw [Bool.eq_iff_iff, Bool.and_eq_true, Bool.and_eq_true, Bool.and_eq_true, beq_iff_eq, beq_iff_eq, beq_iff_eq, decide_eq_true_eq, tx_inj]
  constructor
  · rintro ⟨h1, h2, h3, _⟩
    exact Prod.ext h1 (Prod.ext h2 h3)
  · rintro rfl
    exact ⟨rfl, rfl, rfl, rfl⟩
theorem eqv_words : ∀ ws vs : List Wd, PyData.eqv (.list (ws.map wd)) (.list (vs.map wd)) = decide (ws = vs)
  | [], [] => rfl
  | [], _ :: _ => rfl
  | _ :: _, [] => rfl
  | w :: ws, v :: vs => by
    have ih := eqv_words ws vs
    show (PyData.eqv (wd w) (wd v) && PyData.eqvAll (ws.map wd) (vs.map wd)) = _
    have ih : PyData.eqvAll (ws.map wd) (vs.map wd) = decide (ws = vs) := ih
    rw [eqv_wd, ih, Bool.eq_iff_iff, Bool.and_eq_true, decide_eq_true_eq, decide_eq_true_eq, decide_eq_true_eq, List.cons.injEq]
/-- the words' signs are the text's -/
theorem cut_sub : ∀ (n : Nat) (l : List Nat) (ln co : Int) (w : Wd), w ∈ cut n l ln co → w.1.length ≤ l.length ∧ ∀ c ∈ w.1, c ∈ l
  | 0, _, _, _, _, h => by cases h
  | n + 1, [], _, _, _, h => by cases h
  | n + 1, c :: r, ln, co, w, h => by
    by_cases h1 : c = 10
    · rw [cut_blank h1] at h
      obtain ⟨a, b⟩ := cut_sub n _ _ _ w h
      exact ⟨by rw [List.length_cons]; omega, fun e he => List.mem_cons_of_mem _ (b e he)⟩
    · by_cases h2 : c = 32
      · rw [cut_space h1 h2] at h
        obtain ⟨a, b⟩ := cut_sub n _ _ _ w h
        exact ⟨by rw [List.length_cons]; omega, fun e he => List.mem_cons_of_mem _ (b e he)⟩
      · rw [cut_word h1 h2] at h
        rcases List.mem_cons.mp h with rfl | h
        · exact ⟨by rw [List.length_take]; omega, fun e he => List.mem_of_mem_take he⟩
        · obtain ⟨a, b⟩ := cut_sub n _ _ _ w h
          exact ⟨by rw [List.length_drop] at a; omega, fun e he => List.mem_of_mem_drop (b e he)⟩
theorem words_sub {l : List Nat} {w : Wd} (h : w ∈ words l) : w.1.length ≤ l.length ∧ ∀ c ∈ w.1, c ∈ l := cut_sub _ _ _ _ w h
/-- one word and nothing else, as the law says it -/
theorem single_eq {l : List Nat} (h : l.all isTs = true) : single l = decide (words l = [(l, 1, 1)]) := by
  unfold single
  rw [h, Bool.true_and]
  match e : words l with
  | [] => rfl
  | [w] =>
    obtain ⟨a, ln, co⟩ := w
    show decide (a = l) = _
    rw [decide_eq_decide]
    constructor
    · rintro rfl
      obtain ⟨h1, h2⟩ := words_all e rfl
      rw [h1, h2]
    · intro z
      cases z
      rfl
  | _ :: _ :: _ => exact (decide_eq_false (fun z => by cases z)).symm
/-! ### values of all kinds -/
theorem TyX_ext {K : PySem.W.Frag} {H H' : Hp} {v : V} {t : Value} (e : ExtN H H') (h : TyX K H v t) : TyX K H' v t := by
  have f : ∀ {b : Addr} {o : HO}, H b = some o → (∀ ps, o ≠ .tbl ps) → H' b = some o := fun q n => e _ _ q n
  cases h with
  | base h =>
    refine .base ?_
    cases h with
    | non => exact .non
    | bl => exact .bl _
    | int => exact .int _
    | str => exact .str _
    | flt => exact .flt _
    | lst q => exact .lst (f q fun _ z => by cases z)
    | frz q => exact .frz (f q fun _ z => by cases z)
    | tup q => exact .tup (f q fun _ z => by cases z)
    | dK q => exact .dK (f q fun _ z => by cases z)
    | dT q => exact .dT (f q fun _ z => by cases z)
    | ins q a b c d g => exact .ins (f q fun _ z => by cases z) a b c d g
  | byt => exact .byt _
  | set q => exact .set (f q fun _ z => by cases z)
  | kList q c => exact .kList q c
  | kTuple q c => exact .kTuple q c
  | kDict q c => exact .kDict q c
  | fTuple q => exact .fTuple (f q fun _ z => by cases z)
  | fDict q => exact .fDict (f q fun _ z => by cases z)
theorem extN_of {H H' : Hp} (s : Same H H') : ExtN H H' := fun b o h _ => s b o h
/-- a short text of plain signs, or no text at all -/
def Odd (K : PySem.W.Frag) (H : Hp) (x : V) : Prop := (∃ l, x = .str (tx l) ∧ l.length ≤ 1000 ∧ l.all isTs = true) ∨ ∃ t, TyX K H x (.type t) ∧ kitB t "str" = some false
theorem Odd.ext {K : PySem.W.Frag} {H H' : Hp} {x : V} (h : Odd K H x) (e : ExtN H H') : Odd K H' x := by
  rcases h with h | ⟨t, h1, h2⟩
  · exact .inl h
  · exact .inr ⟨t, TyX_ext e h1, h2⟩
def plainB (z : Str) : Bool := decide (z.cps.toList.length ≤ 1000) && z.cps.toList.all isTs
theorem odd_str {K : PySem.W.Frag} {H : Hp} {z : Str} (h : plainB z = true) : Odd K H (.str z) := by
  obtain ⟨h1, h2⟩ := Bool.and_eq_true_iff.mp h
  exact .inl ⟨z.cps.toList, by rw [tx_of], of_decide_eq_true h1, h2⟩
theorem okL_ts {l : List Nat} (h : l.all isTs = true) : okL l := fun c hc => by
  have := List.all_eq_true.mp h c hc
  unfold isTs btw at this
  simp only [Bool.or_eq_true, Bool.and_eq_true, decide_eq_true_eq] at this
  omega
/-- one parameter, by its keyword -/
def gOne {α : Type} : List α → List α → List α
  | [], [s] => [s]
  | _, _ => []
theorem rel_one {vs : List V} {us : List Value} {zs : List V} {ws : List Value} (h1 : Vals vs us) (h2 : Vals zs ws) : Vals (gOne vs zs) (gOne us ws) := by
  cases h1 with
  | cons _ _ => exact .nil
  | nil =>
    cases h2 with
    | nil => exact .nil
    | cons a h2 =>
      cases h2 with
      | nil => exact .cons a .nil
      | cons _ _ => exact .nil
theorem k_words {sp : Sp} (T : Top G "words_of" (top 21) ["text"]) (F : Fn G "words_of" 1 6 sp) : FnK G "words_of" ["text"] gOne 6 sp := by
  refine T.fnk F gOne (fun kV doc pm an cdv ct us ws hl => ?_) rel_one
  match us, ws, hl with
  | [], [_], _ => rfl
  | [], [], h => cases h
  | [], _ :: _ :: _, h => cases h
  | _ :: _, _, h => cases h
theorem k_sort {sp : Sp} (T : Top G "sort_of" (top 10) ["word"]) (F : Fn G "sort_of" 1 6 sp) : FnK G "sort_of" ["word"] gOne 6 sp := by
  refine T.fnk F gOne (fun kV doc pm an cdv ct us ws hl => ?_) rel_one
  match us, ws, hl with
  | [], [_], _ => rfl
  | [], [], h => cases h
  | [], _ :: _ :: _, h => cases h
  | _ :: _, _, h => cases h
theorem k_name {sp : Sp} (T : Top G "is_name" (top 9) ["thing"]) (F : Fn G "is_name" 1 2 sp) : FnK G "is_name" ["thing"] gOne 2 sp := by
  refine T.fnk F gOne (fun kV doc pm an cdv ct us ws hl => ?_) rel_one
  match us, ws, hl with
  | [], [_], _ => rfl
  | [], [], h => cases h
  | [], _ :: _ :: _, h => cases h
  | _ :: _, _, h => cases h
/-! ### the errors' classes -/
structure Er (G : Gb) where
  S : Addr
  cT : Addr
  cW : Addr
  eS : G.mg "SheetError" = some (.ref S)
  eT : OxC G "BadText" cT 4 1 (spInit G.K cT)
  eW : ExC G "BadWord" cW
  mT : PySem.W.exmOne G.K (.ref cT) (.ref S) = some true
  mW : PySem.W.exmOne G.K (.ref cW) (.ref S) = some true
  xT : ExcC G.K cT
  xW : ExcC G.K cW
  pT : PlainF G.K cT ["line", "column", "wanted"]
  vW : PySem.W.kitOne G.K (.ref cW) (.type "ValueError") = some true
end K01

namespace K01
variable {G : Gb}
open LamX
abbrev nRef : List Str := ["draw", "words", "some", "error", "is_word", "odd", "strange", "word", "line", "column"]
theorem scRef : FnScope nRef ["draw", "words"] (defScope (top 37)) := ⟨rfl, rfl, rfl, by decide +kernel, rfl, by decide +kernel, by decide +kernel⟩
abbrev qLam : Str := ("_law_refused_right" ++ ".<locals>.") ++ "<lambda>"
/-- _law_refused_right(draw, words) -/
def spRefR (K : PySem.W.Frag) (T : List (Addr × Str)) : Sp := fun vs H Q _ => ∃ (H0 : Hp) (p w : Addr) (B : Nat) (ws : List Wd), vs = [.ref p, .ref w] ∧ DrawAt H0 H p B ∧ B < 700000000000 ∧ Tabs T H0 ∧ WordsAt H0 w ws ∧ ws.length ≤ 500 ∧ (∀ v ∈ ws, v.1.length ≤ 500 ∧ v.1.all isTs = true) ∧
  ∀ (H0' H' : Hp), ExtN H0 H0' → Tabs T H0' → DrawAt H0' H' p (B + 600) → Q (.bl true) H'
/-- what is called -/
structure Rq (G : Gb) (e : Er G) : Prop where
  b : Bi G.mg
  FP : Fn G "_law_pick" 2 3 (spPick G.K)
  FW : Fn G "words_of" 1 6 (spWords G.K e.cT)
  FS : Fn G "sort_of" 1 6 (spSort G.K e.cW)
  FC : Fn G "_law_cut" 1 3 spSplit
  KW : FnK G "words_of" ["text"] gOne 6 (spWords G.K e.cT)
  TC : Top G "_law_caught" (top 27) ["work"]
abbrev nCaught : List Str := ["work", "caught", "error"]
theorem scCaught : FnScope nCaught ["work"] (defScope (top 27)) := ⟨rfl, rfl, rfl, by decide +kernel, rfl, by decide +kernel, by decide +kernel⟩
theorem odd_all {K : PySem.W.Frag} {H : Hp} {zs : List Str} (h : zs.all plainB = true) : ∀ x ∈ zs.map V.str, Odd K H x := fun x hx => by
  obtain ⟨z, hz, rfl⟩ := List.mem_map.mp hx
  exact odd_str (List.all_eq_true.mp h z hz)
theorem new_frame {H0 H : Hp} {d p : Addr} {B : Nat} (o : HO) (A : DrawAt H0 H d B) (hp : H p = none) : ∃ H0', Same H0 H0' ∧ H0' p = some o ∧ H0 p = none ∧ DrawAt H0' (upd H p o) d B := ⟨upd H0 p o, same_new (A.same.free hp), upd_same, A.same.free hp, A.laid hp⟩
abbrev someS : List Str := ["", " ", "a b", "a-b", " a", "a ", "<= ", "a(", "()", "-", "- 1", "1-", "===", "<==", "[]", "a\n"]
abbrev strS : List Str := ["a\tb", "\t", "cell\ta", "a\t"]
/-- what words_of refuses -/
def Bad (K : PySem.W.Frag) (H : Hp) (x : V) : Prop := (∃ l, x = .str (tx l) ∧ l.length ≤ 10000 ∧ l.all isTs = false) ∨ ∃ t, TyX K H x (.type t) ∧ kitB t "str" = some false
theorem bad_str {K : PySem.W.Frag} {H : Hp} {z : Str} (h : (decide (z.cps.toList.length ≤ 10000) && !z.cps.toList.all isTs) = true) : Bad K H (.str z) := by
  obtain ⟨h1, h2⟩ := Bool.and_eq_true_iff.mp h
  exact .inl ⟨z.cps.toList, by rw [tx_of], of_decide_eq_true h1, by simpa using h2⟩
theorem bad_all {K : PySem.W.Frag} {H : Hp} {zs : List Str} (h : (zs.all fun z => decide (z.cps.toList.length ≤ 10000) && !z.cps.toList.all isTs) = true) : ∀ x ∈ zs.map V.str, Bad K H x := fun x hx => by
  obtain ⟨z, hz, rfl⟩ := List.mem_map.mp hx
  exact bad_str (List.all_eq_true.mp h z hz)
theorem refr_three {e : Er G} {c P : Addr} {T : List (Addr × Str)} (F : Rq G e) (TB : TabB G.base G.mg c P) (hT : T = [(P, qLam)]) {X : Cx} {W : WX} (d : Fr X G nRef (defScope (top 37)) 9 W) (hq : X.env.qual = "_law_refused_right" ++ ".<locals>.") (hc : X.env.code = .ref c)
    {v2 v3 : V} {p w p9 : Addr} {odd : V} {J H : Hp} {B : Nat} {Q : VK} (A : DrawAt J H p B) (hB : B < 800000000000) (ho : Odd G.K J odd) (hTb : Tabs T J)
    (k : ∀ J' H', ExtN J J' → Tabs T J' → DrawAt J' H' p B → Q (.bl true) H') :
    WB X ((defBody (top 37)).drop 6) { nx := fun _ H' => Q .non H', rt := Q } [some (.ref p), some (.ref w), some v2, some v3, none, some odd, some (.ref p9), none, none, none] H := by
  have dd := d.toDef
  have b := F.b
  have hmT : (P, qLam) ∈ T := by rw [hT]; exact List.mem_singleton.mpr rfl
  have hu : ∀ z ∈ T, z.1 = P → z.2 = qLam := fun z hz _ => by
    rw [hT] at hz
    rw [List.mem_singleton.mp hz]
  -- behind is_word = ..
  have last : ∀ (g : Bool) (H1 : Hp), Same H H1 → (g = true → ∃ l, odd = .str (tx l) ∧ l.length ≤ 1000 ∧ l.all isTs = true ∧ single l = true) → (g = false → ∀ l, odd = .str (tx l) → l.all isTs = true → single l = false) →
      WB X ((defBody (top 37)).drop 7) { nx := fun _ H' => Q .non H', rt := Q } [some (.ref p), some (.ref w), some v2, some v3, some (.bl g), some odd, some (.ref p9), none, none, none] H1 := fun g H1 s1 hg1 hg2 => by
    have A1 := A.keep s1
    refine wb_cons ?_
    walk_at "wx"
    refine we_lam (T := T) (c := c) (P := P) (S := e.S) (k := 6) dd F.TC scCaught rfl rfl (by decide +kernel) (by decide +kernel) (by decide +kernel) (by decide +kernel) e.eS (by decide +kernel) hq hc TB hmT hu (by decide +kernel) rfl (fun _ _ _ _ _ => rfl) (hTb.ext A1.same) fun Ha eN Ta X' E d' hp hE => ?_
    obtain ⟨J1, e1, T1, A2⟩ := DrawAt_lam A1 eN Ta
    have ho1 : Odd G.K Ha odd := (ho.ext e1).ext (extN_of A2.same)
    -- refused
    have bad : ∀ H8, Same Ha H8 → g = false → E (.ref e.cW) none H8 := fun H8 s8 eg => by
      subst hE
      refine ⟨e.mW, fun a ha => ?_⟩
      have A8 := A2.keep s8
      obtain ⟨J9, s9, a9', n9, A9⟩ := new_frame (ExV a (.ref e.cW) none) A8 ha
      have h9a : (upd H8 a (ExV a (.ref e.cW) none)) a = some (ExV a (.ref e.cW) none) := upd_same
      generalize upd H8 a (ExV a (.ref e.cW) none) = H9 at A9 h9a ⊢
      subst eg
      walk_at "wx"
      refine ite_f ?_
      walk_at "wx"
      refine we_glob (v := .ref e.cW) dd (by decide +kernel) e.eW.gC rfl ?_
      walk_at "wA"
      refine rc_isV (x := .non) dd e.xW (.own _) h9a kit_self ?_
      walk_at "wx"
      refine ite_t ?_
      walk_at "wx"
      refine we_blt (v := .ty "ValueError") (u := .type "ValueError") dd (by decide +kernel) b.b_ValueError (by decide +kernel) rfl ?_
      walk_at "wA"
      refine rc_isV (x := .non) dd e.xW (.ty _) h9a e.vW ?_
      exact k _ _ (e1.trans (extN_of s9)) (T1.ext s9) A9
    refine we_callE d' F.FS (by decide) (by decide +kernel) hp (by rfl) (by rfl) ?_
    walk_at "wA"
    walk_at "wn"
    walk_at "wA"
    rcases ho1 with ⟨l, rfl, hl, ha⟩ | ⟨t, ht, hk⟩
    · refine ⟨_, rfl, .inl ⟨l, rfl, by omega, fun hs H2 s2 => ?_, fun hs H2 s2 => ?_⟩⟩
      · cases g with
        | false => rw [hg2 rfl l rfl ha] at hs; cases hs
        | true =>
          walk_at "wx"
          refine ite_t ?_
          walk_at "wx"
          exact k _ _ e1 T1 (A2.keep s2)
      · refine bad H2 s2 ?_
        cases g with
        | false => rfl
        | true =>
          obtain ⟨l', e', _, _, hs'⟩ := hg1 rfl
          have : l = l' := tx_inj.mp (by injection e')
          rw [← this, hs] at hs'
          cases hs'
    · refine ⟨_, rfl, .inr ⟨t, ht, hk, bad _ (Same.refl _) ?_⟩⟩
      cases g with
      | false => rfl
      | true =>
        obtain ⟨l', e', _⟩ := hg1 rfl
        subst e'
        cases ht with
        | base ht =>
          cases ht
          exact absurd hk (by decide +kernel)
  refine wb_cons ?_
  walk_at "wx"
  have ho0 : Odd G.K H odd := ho.ext (extN_of A.same)
  rcases ho0 with ⟨l, rfl, hl, ha⟩ | ⟨t, ht, hk⟩
  · refine rc_isi dd (ClsV.ty _) (TyX.base (TyOf.str _)) (kit_bt (r := true) (by decide +kernel)) ?_
    refine ⟨_, rfl, ite_t ?_⟩
    walk_at "wx"
    refine we_call dd F.FC (by decide) (by decide +kernel) (by rfl) (by rfl) ?_
    walk_at "wx"
    refine ⟨by omega, fun q H1 hq1 s1 W1 => ?_⟩
    walk_at "wx"
    refine ⟨by show 3 ≤ sizeLine; decide, fun q2 hq2 => ?_⟩
    walk_at "wx"
    refine ⟨by show 1 ≤ sizeLine; decide, fun q3 hq3 => ?_⟩
    have sL := (same_new (o := .tup [.str (tx l), .int 1, .int 1]) hq2).trans (same_new (o := .lst [.ref q2]) hq3)
    have f2 : (upd (upd H1 q2 (.tup [.str (tx l), .int 1, .int 1])) q3 (.lst [.ref q2])) q2 = some (.tup [.str (tx l), .int 1, .int 1]) := by rw [upd_ne (ne_of_none upd_same hq3), upd_same]
    have W2 : WordsAt (upd (upd H1 q2 (.tup [.str (tx l), .int 1, .int 1])) q3 (.lst [.ref q2])) q3 [(l, 1, 1)] := ⟨[q2], upd_same, rfl, fun i a w e1 e2 => by
      cases i with
      | zero => cases e1; cases e2; exact f2
      | succ i => simp at e1⟩
    refine ro_eqD dd (dp_words (W1.same sL)) (dp_words W2) (shaped_words _ fun w hw c hc => okL_ts ha c ((words_sub hw).2 c hc)) (shaped_words _ fun w hw => by rw [List.mem_singleton.mp hw]; exact okL_ts ha) ?_
    rw [eqv_words, ← single_eq ha]
    refine last _ _ (s1.trans sL) (fun hg => ⟨l, rfl, hl, ha, hg⟩) (fun hg l' e' _ => ?_)
    have : l = l' := tx_inj.mp (by injection e')
    rw [← this]
    exact hg
  · refine rc_isi dd (ClsV.ty _) ht (kit_bt hk) ?_
    refine ⟨_, rfl, ite_f ?_⟩
    refine last false _ (Same.refl _) (fun z => by cases z) (fun _ l e' _ => ?_)
    subst e'
    cases ht with
    | base ht =>
      cases ht
      exact absurd hk (by decide +kernel)
theorem refr_two {e : Er G} {c P : Addr} {T : List (Addr × Str)} (F : Rq G e) (TB : TabB G.base G.mg c P) (hT : T = [(P, qLam)]) {X : Cx} {W : WX} (d : Fr X G nRef (defScope (top 37)) 9 W) (hq : X.env.qual = "_law_refused_right" ++ ".<locals>.") (hc : X.env.code = .ref c)
    {v2 : V} {p w p9 : Addr} {odd : V} {J H : Hp} {B : Nat} {Q : VK} (A : DrawAt J H p B) (hB : B < 800000000000) (ho : Odd G.K J odd) (hTb : Tabs T J)
    (k : ∀ J' H', ExtN J J' → Tabs T J' → DrawAt J' H' p B → Q (.bl true) H') :
    WB X ((defBody (top 37)).drop 4) { nx := fun _ H' => Q .non H', rt := Q } [some (.ref p), some (.ref w), some v2, none, none, some odd, some (.ref p9), none, none, none] H := by
  have dd := d.toDef
  have b := F.b
  have hmT : (P, qLam) ∈ T := by rw [hT]; exact List.mem_singleton.mpr rfl
  have hu : ∀ z ∈ T, z.1 = P → z.2 = qLam := fun z hz _ => by
    rw [hT] at hz
    rw [List.mem_singleton.mp hz]
  refine wb_cons ?_
  walk_at "wx"
  refine we_lam (T := T) (c := c) (P := P) (S := e.S) (k := 6) dd F.TC scCaught rfl rfl (by decide +kernel) (by decide +kernel) (by decide +kernel) (by decide +kernel) e.eS (by decide +kernel) hq hc TB hmT hu (by decide +kernel) rfl (fun _ _ _ _ _ => rfl) (hTb.ext A.same) fun Ha eN Ta X' E d' hp hE => ?_
  obtain ⟨J1, e1, T1, A1⟩ := DrawAt_lam A eN Ta
  refine we_callK0E d' F.KW (by decide) (by decide +kernel) hp (by rfl) (by rfl) (by rfl) ?_
  walk_at "wA"
  refine we_non ?_
  walk_at "wA"
  subst hE
  refine ⟨.non, rfl, .inr ⟨.inr ⟨_, .base .non, by decide +kernel⟩, fun dx H8 hdx s8 hd8 => ⟨e.mT, fun a ha => ?_⟩⟩⟩
  have A8 := A1.keep s8
  obtain ⟨J9, s9, a9', n9, A9⟩ := new_frame (ExV a (.ref e.cT) (some dx)) A8 ha
  have h9a : (upd H8 a (ExV a (.ref e.cT) (some dx))) a = some (ExV a (.ref e.cT) (some dx)) := upd_same
  have h9d : (upd H8 a (ExV a (.ref e.cT) (some dx))) dx = some (.xd [("wanted", .non), ("column", .non), ("line", .non)]) := by rw [upd_ne (ne_of_none hd8 ha)]; exact hd8
  generalize upd H8 a (ExV a (.ref e.cT) (some dx)) = H9 at A9 h9a h9d ⊢
  have e9 : ExtN J J9 := e1.trans (extN_of s9)
  have T9 : Tabs T J9 := T1.ext s9
  walk_at "wx"
  refine we_glob (v := .ref e.cT) dd (by decide +kernel) e.eT.gC rfl ?_
  walk_at "wA"
  refine rc_isX dd e.xT (.own _) h9a (fun b hb => by cases hb; exact ⟨_, h9d⟩) kit_self ?_
  refine ⟨_, rfl, ?_⟩
  refine ite_f ?_
  walk_at "wx"
  refine we_exAttr (a := a) (C := e.cT) (dd := dx) (fs := [("wanted", .non), ("column", .non), ("line", .non)]) dd e.xT.hg e.xT.hk e.xT.hs e.xT.hd (e.pT.no _ (by simp)) (by rfl) ?_
  walk_at "wn"
  refine ⟨rfl, h9a, h9d, .non, rfl, ?_⟩
  walk_at "wA"
  refine we_exAttr (a := a) (C := e.cT) (dd := dx) (fs := [("wanted", .non), ("column", .non), ("line", .non)]) dd e.xT.hg e.xT.hk e.xT.hs e.xT.hd (e.pT.no _ (by simp)) (by rfl) ?_
  walk_at "wn"
  refine ⟨rfl, h9a, h9d, .non, rfl, ?_⟩
  walk_at "wA"
  refine we_exAttr (a := a) (C := e.cT) (dd := dx) (fs := [("wanted", .non), ("column", .non), ("line", .non)]) dd e.xT.hg e.xT.hk e.xT.hs e.xT.hd (e.pT.no _ (by simp)) (by rfl) ?_
  walk_at "wn"
  refine ⟨rfl, h9a, h9d, .non, rfl, ?_⟩
  walk_at "wA"
  refine ⟨by show 3 ≤ sizeLine; decide, fun q1 hq1 => ?_⟩
  walk_at "wx"
  refine ⟨by show 3 ≤ sizeLine; decide, fun q2 hq2 => ?_⟩
  have f1 : (upd (upd H9 q1 (.lst [.non, .non, .non])) q2 (.lst [.non, .non, .non])) q1 = some (.lst [.non, .non, .non]) := by rw [upd_ne (ne_of_none upd_same hq2), upd_same]
  refine ro_neD (da := .list [.none, .none, .none]) (db := .list [.none, .none, .none]) dd (.lst (SqL.of f1) (.cons .non (.cons .non (.cons .non .nil)))) (.lst (SqL.of upd_same) (.cons .non (.cons .non (.cons .non .nil)))) rfl rfl ?_
  refine ⟨_, rfl, ?_⟩
  refine ite_f ?_
  refine wb_nil ?_
  have sL := (same_new (o := .lst [.non, .non, .non]) hq1).trans (same_new (o := .lst [.non, .non, .non]) hq2)
  exact refr_three F TB hT d hq hc (A9.keep sL) hB (ho.ext e9) T9 fun J' H' e' t' A' => k J' H' (e9.trans e') t' A'
theorem refr_rest {e : Er G} {c P : Addr} {T : List (Addr × Str)} (F : Rq G e) (TB : TabB G.base G.mg c P) (hT : T = [(P, qLam)]) {X : Cx} {W : WX} (d : Fr X G nRef (defScope (top 37)) 9 W) (hq : X.env.qual = "_law_refused_right" ++ ".<locals>.") (hc : X.env.code = .ref c)
    {v2 : V} {p w p9 : Addr} {odd : V} {J H : Hp} {B : Nat} {Q : VK} (A : DrawAt J H p B) (hB : B < 790000000000) (a9 : J p9 = some (.lst (strS.map V.str))) (ho : Odd G.K J odd) (hTb : Tabs T J)
    (k : ∀ J' H', ExtN J J' → Tabs T J' → DrawAt J' H' p (B + 10) → Q (.bl true) H') :
    WB X ((defBody (top 37)).drop 3) { nx := fun _ H' => Q .non H', rt := Q } [some (.ref p), some (.ref w), some v2, none, none, some odd, some (.ref p9), none, none, none] H := by
  have dd := d.toDef
  have b := F.b
  have hmT : (P, qLam) ∈ T := by rw [hT]; exact List.mem_singleton.mpr rfl
  have hu : ∀ z ∈ T, z.1 = P → z.2 = qLam := fun z hz _ => by
    rw [hT] at hz
    rw [List.mem_singleton.mp hz]
  refine wb_cons ?_
  walk_at "wx"
  refine we_lam (T := T) (c := c) (P := P) (S := e.S) (k := 6) dd F.TC scCaught rfl rfl (by decide +kernel) (by decide +kernel) (by decide +kernel) (by decide +kernel) e.eS (by decide +kernel) hq hc TB hmT hu (by decide +kernel) rfl (fun _ _ _ _ _ => rfl) (hTb.ext A.same) fun Ha eN Ta X' E d' hp hE => ?_
  obtain ⟨J1, e1, T1, A1⟩ := DrawAt_lam A eN Ta
  have a91 := e1 _ _ a9 (fun _ z => by cases z)
  refine we_callE d' F.FW (by decide) (by decide +kernel) hp (by rfl) (by rfl) ?_
  walk_at "wx"
  refine we_call d' F.FP (by decide) (by decide +kernel) (by rfl) (by rfl) ?_
  walk_at "wx"
  refine ⟨by show 1 ≤ sizeLine; decide, fun p2 hp2 => ?_⟩
  obtain ⟨J2, s2, a2, n2, A2⟩ := new_frame (.lst [.str "a"]) A1 hp2
  generalize upd Ha p2 (.lst [.str "a"]) = H2 at A2 ⊢
  walk_at "wx"
  refine ⟨by show 1 ≤ sizeLine; decide, fun p3 hp3 => ?_⟩
  obtain ⟨J3, s3, a3, n3, A3⟩ := new_frame (.tup [.str "sheet"]) A2 hp3
  generalize upd H2 p3 (.tup [.str "sheet"]) = H3 at A3 ⊢
  walk_at "wx"
  refine we_newD fun p4 hp4 => ?_
  obtain ⟨J4, s4, a4, n4, A4⟩ := new_frame (.dK []) A3 hp4
  generalize upd H3 p4 (.dK []) = H4 at A4 ⊢
  walk_at "wx"
  refine ⟨by show 6 ≤ sizeLine; decide, fun p5 hp5 => ?_⟩
  obtain ⟨J5, s5, a5, n5, A5⟩ := new_frame (.lst [.non, .int 5, .bl true, .ref p2, .ref p3, .ref p4]) A4 hp5
  generalize upd H4 p5 (.lst [.non, .int 5, .bl true, .ref p2, .ref p3, .ref p4]) = H5 at A5 ⊢
  walk_at "wx"
  have s15 : Same J1 J5 := s2.trans (s3.trans (s4.trans s5))
  refine ro_cat (A5.same _ _ a5) (A5.same _ _ (s15 _ _ a91)) (by show 10 ≤ sizeLine; decide) fun p6 hp6 => ?_
  obtain ⟨J6, s6, a6, n6, A6⟩ := new_frame (.lst ([V.non, .int 5, .bl true, .ref p2, .ref p3, .ref p4] ++ strS.map V.str)) A5 hp6
  generalize upd H5 p6 (.lst ([V.non, .int 5, .bl true, .ref p2, .ref p3, .ref p4] ++ strS.map V.str)) = H6 at A6 ⊢
  have bad6 : ∀ x ∈ [V.non, .int 5, .bl true, .ref p2, .ref p3, .ref p4] ++ strS.map V.str, ∀ H', Same J6 H' → Bad G.K H' x := fun x hx H' sH => by
    rcases List.mem_append.mp hx with hx | hx
    · simp only [List.mem_cons, List.not_mem_nil, or_false] at hx
      rcases hx with rfl | rfl | rfl | rfl | rfl | rfl
      · exact .inr ⟨_, .base .non, by decide +kernel⟩
      · exact .inr ⟨_, .base (.int _), by decide +kernel⟩
      · exact .inr ⟨_, .base (.bl _), by decide +kernel⟩
      · exact .inr ⟨_, .base (.lst ((s3.trans (s4.trans (s5.trans (s6.trans sH)))) _ _ a2)), by decide +kernel⟩
      · exact .inr ⟨_, .base (.tup ((s4.trans (s5.trans (s6.trans sH))) _ _ a3)), by decide +kernel⟩
      · exact .inr ⟨_, .base (.dK ((s5.trans (s6.trans sH)) _ _ a4)), by decide +kernel⟩
    · exact bad_all (by decide +kernel) x hx
  walk_at "wA"
  refine ⟨J6, p, p6, B, _, rfl, A6, by omega, SqL.of a6, by show 0 < 10; decide, by show 10 < 1073741824; decide, fun i x H7 hx A7 => ?_⟩
  have bx := bad6 x (List.mem_of_getElem? hx) H7 A7.same
  walk_at "wA"
  subst hE
  refine ⟨x, rfl, .inr ⟨bx, fun dx H8 hdx s8 hd8 => ⟨e.mT, fun a ha => ?_⟩⟩⟩
  have e6 : ExtN J J6 := e1.trans (extN_of (s15.trans s6))
  have A8 := A7.keep s8
  obtain ⟨J9, s9, a9', n9, A9⟩ := new_frame (ExV a (.ref e.cT) (some dx)) A8 ha
  have h9a : (upd H8 a (ExV a (.ref e.cT) (some dx))) a = some (ExV a (.ref e.cT) (some dx)) := upd_same
  have h9d : (upd H8 a (ExV a (.ref e.cT) (some dx))) dx = some (.xd [("wanted", .non), ("column", .non), ("line", .non)]) := by rw [upd_ne (ne_of_none hd8 ha)]; exact hd8
  generalize upd H8 a (ExV a (.ref e.cT) (some dx)) = H9 at A9 h9a h9d ⊢
  walk_at "wA"
  refine we_glob (v := .ref e.cT) dd (by decide +kernel) e.eT.gC rfl ?_
  walk_at "wA"
  refine rc_isX dd e.xT (.own _) h9a (fun b hb => by cases hb; exact ⟨_, h9d⟩) kit_self ?_
  refine ⟨_, rfl, ?_⟩
  refine ite_f ?_
  refine wb_nil ?_
  have e9 : ExtN J J9 := e6.trans (extN_of s9)
  have T9 : Tabs T J9 := T1.ext (s15.trans (s6.trans s9))
  clear bad6 a2 a3 a4 a5 a6 s2 s3 s4 s5 s6 s15 hp2 hp3 hp4 hp5 hp6 n2 n3 n4 n5 n6 A2 A3 A4 A5 A6 A7 A8 A1 a91 hx bx
  exact refr_two (B := B + 1) F TB hT d hq hc A9 (by omega) (ho.ext e9) T9 fun J' H' e' t' A' => k J' H' (e9.trans e') t' (A'.mono (by omega))
end K01

namespace K01
variable {G : Gb}
open LamX
theorem fn_refr {e : Er G} {c P : Addr} {T : List (Addr × Str)} (F : Rq G e) (hcode : ∀ (f : Addr) (fd : FuncData), G.mg "_law_refused_right" = some (.ref f) → Fun G.K "_law_refused_right" "_law_refused_right" (top 37) f fd → fd.code = .ref c) (TB : TabB G.base G.mg c P) (hT : T = [(P, qLam)])
    (Tp : Top G "_law_refused_right" (top 37) ["draw", "words"]) : Fn G "_law_refused_right" 2 10 (spRefR G.K T) := by
  refine Tp.fnQ (N := nRef) hcode scRef (fun vs H Q E h => ?_) (fun X vs H Q E d hq hc h => ?_)
  · obtain ⟨_, _, _, _, _, rfl, _⟩ := h
    rfl
  · have dd := d.toDef
    have b := F.b
    obtain ⟨H0, p, w, B, ws, rfl, A, hB, hTb, hw, hwl, hws, k⟩ := h
    show WB X _ _ [some (.ref p), some (.ref w), none, none, none, none, none, none, none, none] H
    refine wb_cons ?_
    walk_at "wx"
    refine ⟨by show 16 ≤ sizeLine; decide, fun p1 hp1 => ?_⟩
    obtain ⟨J1, s1, a1, n1, A1⟩ := new_frame (.lst [.str "", .str " ", .str "a b", .str "a-b", .str " a", .str "a ", .str "<= ", .str "a(", .str "()", .str "-", .str "- 1", .str "1-", .str "===", .str "<==", .str "[]", .str "a\n"]) A hp1
    have a1 : J1 p1 = some (.lst (someS.map V.str)) := a1
    generalize upd H p1 (.lst [.str "", .str " ", .str "a b", .str "a-b", .str " a", .str "a ", .str "<= ", .str "a(", .str "()", .str "-", .str "- 1", .str "1-", .str "===", .str "<==", .str "[]", .str "a\n"]) = H1 at A1 ⊢
    walk_at "wx"
    refine we_call dd F.FP (by decide) (by decide +kernel) (by rfl) (by rfl) ?_
    walk_at "wx"
    refine ⟨by show 1 ≤ sizeLine; decide, fun p2 hp2 => ?_⟩
    obtain ⟨J2, s2, a2, n2, A2⟩ := new_frame (.lst [.str "a"]) A1 hp2
    generalize upd H1 p2 (.lst [.str "a"]) = H2 at A2 ⊢
    walk_at "wx"
    refine ⟨by show 1 ≤ sizeLine; decide, fun p3 hp3 => ?_⟩
    obtain ⟨J3, s3, a3, n3, A3⟩ := new_frame (.tup [.str "a"]) A2 hp3
    generalize upd H2 p3 (.tup [.str "a"]) = H3 at A3 ⊢
    walk_at "wx"
    refine we_newD fun p4 hp4 => ?_
    obtain ⟨J4, s4, a4, n4, A4⟩ := new_frame (.dK []) A3 hp4
    generalize upd H3 p4 (.dK []) = H4 at A4 ⊢
    walk_at "wx"
    refine ⟨by show 6 ≤ sizeLine; decide, fun p5 hp5 => ?_⟩
    obtain ⟨J5, s5, a5, n5, A5⟩ := new_frame (.lst [.non, .int 5, .bl true, .ref p2, .ref p3, .ref p4]) A4 hp5
    generalize upd H4 p5 (.lst [.non, .int 5, .bl true, .ref p2, .ref p3, .ref p4]) = H5 at A5 ⊢
    have s15 : Same J1 J5 := s2.trans (s3.trans (s4.trans s5))
    refine ro_cat (A5.same _ _ (s15 _ _ a1)) (A5.same _ _ a5) (by show 22 ≤ sizeLine; decide) fun p6 hp6 => ?_
    obtain ⟨J6, s6, a6, n6, A6⟩ := new_frame (.lst (someS.map V.str ++ [V.non, .int 5, .bl true, .ref p2, .ref p3, .ref p4])) A5 hp6
    generalize upd H5 p6 (.lst (someS.map V.str ++ [V.non, .int 5, .bl true, .ref p2, .ref p3, .ref p4])) = H6 at A6 ⊢
    have odd6 : ∀ x ∈ someS.map V.str ++ [V.non, .int 5, .bl true, .ref p2, .ref p3, .ref p4], Odd G.K J6 x := fun x hx => by
      rcases List.mem_append.mp hx with hx | hx
      · exact odd_all (by decide +kernel) x hx
      · simp only [List.mem_cons, List.not_mem_nil, or_false] at hx
        rcases hx with rfl | rfl | rfl | rfl | rfl | rfl
        · exact .inr ⟨_, .base .non, by decide +kernel⟩
        · exact .inr ⟨_, .base (.int _), by decide +kernel⟩
        · exact .inr ⟨_, .base (.bl _), by decide +kernel⟩
        · exact .inr ⟨_, .base (.lst ((s3.trans (s4.trans (s5.trans s6))) _ _ a2)), by decide +kernel⟩
        · exact .inr ⟨_, .base (.tup ((s4.trans (s5.trans s6)) _ _ a3)), by decide +kernel⟩
        · exact .inr ⟨_, .base (.dK ((s5.trans s6) _ _ a4)), by decide +kernel⟩
    have S6 : Same H0 J6 := s1.trans (s15.trans s6)
    have hw6 : WordsAt J6 w ws := hw.same S6
    -- [word + .. for word, line, column in words]
    refine we_lcL dd [("word", 7), ("line", 8), ("column", 9)] (by decide +kernel) (by intro _; rfl) ?_
    walk_at "wx"
    obtain ⟨as, w1, w2, w3⟩ := hw6
    refine ⟨w, as.map V.ref, rfl, SqL.of (A6.same _ _ w1), fun L hL => ⟨fun i H' => ∃ (Hb : Hp) (ys : List (List Nat)), Same J6 Hb ∧ DrawAt Hb H' p (B + i) ∧ ys.length = i ∧ (∀ y ∈ ys, y.length ≤ 1000 ∧ y.all isTs = true) ∧ Hb L = some (.lst (ys.map fun y => .str (tx y))), ?_, ?_, ?_, ?_⟩⟩
    · exact ⟨upd J6 L (.lst []), [], same_new (A6.same.free hL), A6.laid hL, rfl, (fun _ h => nomatch h), upd_same⟩
    · rintro i H' _ ⟨Hb, ys, sb, Ab, _⟩
      exact SqL.of (Ab.same _ _ (sb _ _ w1))
    · rintro i x H' hx ⟨Hb, ys, sb, Ab, el, hys, hLb⟩ X' d'
      obtain ⟨a, ha, rfl⟩ := map_at hx
      have hi : i < ws.length := by rw [← w2]; exact (List.getElem?_eq_some_iff.mp ha).1
      obtain ⟨v, hv⟩ : ∃ v, ws[i]? = some v := ⟨_, List.getElem?_eq_getElem hi⟩
      have hva := w3 i a v ha hv
      obtain ⟨v1, v2⟩ := hws v (List.mem_of_getElem? hv)
      dsimp only [L2.wipe, List.map, List.set]
      refine wg_tup d' (SqT.of (Ab.same _ _ (sb _ _ hva))) (by rfl) (by rfl) ?_
      walk_at "wx"
      refine ⟨rfl, fun X2 d2 => wts_nil (ite_t fun X3 d3 => ?_)⟩
      walk_at "wx"
      refine we_call d3 F.FP (by decide) (by decide +kernel) (by rfl) (by rfl) ?_
      walk_at "wx"
      refine ⟨by show 4 ≤ sizeLine; decide, fun q hq => ?_⟩
      have nq := Ab.same.free hq
      walk_at "wA"
      refine ⟨upd Hb q (.lst [.str "(", .str " ", .str "\n", .str "+1"]), p, q, B + i, _, rfl, Ab.laid hq, by omega, SqL.of upd_same, by show 0 < 4; decide, by show 4 < 1073741824; decide, fun j y H7 hy A7 => ?_⟩
      obtain ⟨z, rfl, z1, z2⟩ : ∃ z, y = .str (tx z) ∧ z.length ≤ 2 ∧ z.all isTs = true := by
        have hm := List.mem_of_getElem? hy
        simp only [List.mem_cons, List.not_mem_nil, or_false] at hm
        rcases hm with rfl | rfl | rfl | rfl
        · exact ⟨[40], by congr 1, by decide, by decide⟩
        · exact ⟨[32], by congr 1, by decide, by decide⟩
        · exact ⟨[10], by congr 1, by decide, by decide⟩
        · exact ⟨[43, 49], by congr 1, by decide, by decide⟩
      refine ro_addT (by show _ ≤ sizeLine; exact len_le (by omega)) ?_
      have A8 := A7.less (same_new nq)
      have h3 := A8.same _ _ hLb
      refine ⟨_, h3, by rw [List.length_map]; exact len_lt (by omega), upd Hb L (.lst ((ys.map fun y => V.str (tx y)) ++ [.str (tx (v.1 ++ z))])), ys ++ [v.1 ++ z], same_upd sb (A6.same.free hL), A8.put hLb, by rw [List.length_append, el]; rfl, fun y hm => ?_, ?_⟩
      · rcases List.mem_append.mp hm with hm | hm
        · exact hys y hm
        · rw [List.mem_singleton.mp hm]
          exact ⟨by rw [List.length_append]; omega, by rw [List.all_append, v2, z2]; rfl⟩
      · rw [upd_same, List.map_append]
        rfl
    · rintro H7 ⟨J7, ys, s7, A7, el, hys, hL7⟩
      rw [List.length_map] at el
      refine ro_cat (A7.same _ _ (s7 _ _ a6)) (A7.same _ _ hL7) (by
        show (22 : Nat) + (ys.map fun y => V.str (tx y)).length ≤ sizeLine
        rw [List.length_map]
        exact len_le (by omega)) fun p8 hp8 => ?_
      obtain ⟨J8, s8, a8, n8, A8⟩ := new_frame (.lst (someS.map V.str ++ [V.non, .int 5, .bl true, .ref p2, .ref p3, .ref p4] ++ ys.map fun y => V.str (tx y))) A7 hp8
      generalize upd H7 p8 (.lst (someS.map V.str ++ [V.non, .int 5, .bl true, .ref p2, .ref p3, .ref p4] ++ ys.map fun y => V.str (tx y))) = H8 at A8 ⊢
      walk_at "wA"
      have l8 : (someS.map V.str ++ [V.non, .int 5, .bl true, .ref p2, .ref p3, .ref p4] ++ ys.map fun y => V.str (tx y)).length = 22 + ys.length := by
        rw [List.length_append, List.length_map]
        rfl
      have hasl : (as.map V.ref).length ≤ 500 := by rw [List.length_map, w2]; exact hwl
      refine ⟨J8, p, p8, B + (as.map V.ref).length, _, rfl, A8, by omega, SqL.of a8, by omega, by omega, fun j odd H9 hodd A9 => ?_⟩
      have hodd9 : Odd G.K J8 odd := by
        rcases List.mem_append.mp (List.mem_of_getElem? hodd) with hm | hm
        · exact (odd6 odd hm).ext (extN_of (s7.trans s8))
        · obtain ⟨y, hy, rfl⟩ := List.mem_map.mp hm
          exact .inl ⟨y, rfl, hys y hy⟩
      have S8 : Same H0 J8 := S6.trans (s7.trans s8)
      clear a1 a2 a3 a4 a5 a6 a8 hL7 odd6 hys w1 w2 w3 A1 A2 A3 A4 A5 A6 A7 A8 s1 s2 s3 s4 s5 s6 s7 s8 hodd n1 n2 n3 n4 n5 n6 n8 l8 s15 hp1 hp2 hp3 hp4 hp5 hp6 hp8 hL S6
      -- strange
      walk_at "wx"
      refine ⟨by show 4 ≤ sizeLine; decide, fun p9 hp9 => ?_⟩
      obtain ⟨J9, s9, a9, n9, A10⟩ := new_frame (.lst [.str "a\tb", .str "\t", .str "cell\ta", .str "a\t"]) A9 hp9
      generalize upd H9 p9 (.lst [.str "a\tb", .str "\t", .str "cell\ta", .str "a\t"]) = H10 at A10 ⊢
      exact refr_rest (B := B + (as.map V.ref).length + 1) F TB hT d hq hc A10 (by omega) a9 (hodd9.ext (extN_of s9)) (hTb.ext (S8.trans s9)) fun J' H' e' t' A' => k J' H' ((extN_of (S8.trans s9)).trans e') t' (A'.mono (by omega))
end K01

namespace K01
variable {G : Gb}
open LamX
/-! ### sorted texts -/
theorem lt_iff {a b : List Nat} : PySem.Spec.ltCps a b = true ↔ a < b := by
  rw [PyProof.Rows.ltCps_eq, decide_eq_true_eq]
theorem rising_pw : ∀ (ss : List Str) (p : Str), PyProof.Rows.risingS p ss = true → (p :: ss).Pairwise fun a b => a.cps.toList ≤ b.cps.toList
  | [], p, _ => List.pairwise_singleton _ _
  | x :: r, p, h => by
    obtain ⟨h1, h2⟩ := Bool.and_eq_true_iff.mp (show (!PySem.Spec.ltCps x.cps.toList p.cps.toList && PyProof.Rows.risingS x r) = true from h)
    have hx : p.cps.toList ≤ x.cps.toList := by
      rw [← List.not_lt, ← lt_iff]
      simpa using h1
    have ih := rising_pw r x h2
    refine List.pairwise_cons.mpr ⟨fun y hy => ?_, ih⟩
    rcases List.mem_cons.mp hy with rfl | hy
    · exact hx
    · exact List.le_trans hx ((List.pairwise_cons.mp ih).1 y hy)
theorem sorted_one {ys zs : List Str} (h1 : PyProof.Rows.sortedS ys = true) (h2 : PyProof.Rows.sortedS zs = true) (p : ys.Perm zs) : ys = zs := by
  have pw : ∀ ss, PyProof.Rows.sortedS ss = true → ss.Pairwise fun a b => a.cps.toList ≤ b.cps.toList := fun ss h => by
    cases ss with
    | nil => exact .nil
    | cons x r => exact rising_pw r x h
  refine List.Perm.eq_of_pairwise (fun a b _ _ l1 l2 => ?_) (pw _ h1) (pw _ h2) p
  rw [← tx_of a, ← tx_of b, List.le_antisymm l1 l2]
theorem kept_sorted : PyProof.Rows.sortedS keptS = true := by decide +kernel
theorem kept_list : (keptL ++ unwS).Perm keptS := by
  decide +kernel
/-! ### names and signs -/
theorem inner_ts {c : Nat} (h : isInner c = true) : isTs c = true := by
  unfold isInner isSmall isBig isFig at h
  unfold isTs btw
  simp only [Bool.or_eq_true, Bool.and_eq_true, decide_eq_true_eq] at h ⊢
  omega
theorem name_ts {l : List Nat} (h : okName l) : l.all isTs = true := List.all_eq_true.mpr fun c hc => inner_ts (h.2.2 c hc)
theorem run_all : ∀ l : List Nat, (∀ c ∈ l, isInner c = true) → run l = l.length
  | [], _ => rfl
  | c :: r, h => by
    have ih := run_all r fun d hd => h d (List.mem_cons_of_mem _ hd)
    unfold run at ih ⊢
    rw [List.takeWhile_cons, if_pos (h c List.mem_cons_self), List.length_cons, ih, List.length_cons]
theorem name_words {l : List Nat} (h : okName l) : words l = [(l, 1, 1)] := by
  obtain ⟨h1, _, h3⟩ := h
  cases l with
  | nil => simp at h1
  | cons c r =>
    have hc := h3 c List.mem_cons_self
    have n10 : ¬ c = 10 := fun z => by rw [z] at hc; exact absurd hc (by decide)
    have n32 : ¬ c = 32 := fun z => by rw [z] at hc; exact absurd hc (by decide)
    have hw : wlen (c :: r) = (c :: r).length := by
      rw [wlen_eq, if_pos (by rw [hc]; rfl), run_all r fun d hd => h3 d (List.mem_cons_of_mem _ hd), List.length_cons]
      omega
    have := words_one n10 n32 (r := r)
    rw [hw, List.take_length] at this
    exact this
theorem signs_at (n : Nat) (h : n < 94) : ∃ c, signsT.cps.toList[n]? = some c ∧ isTs c = true := by
  have key : ∀ n ∈ List.range 94, (match signsT.cps.toList[n]? with | some c => isTs c | none => false) = true := by decide +kernel
  have := key n (List.mem_range.mpr h)
  split at this
  · rename_i c e
    exact ⟨c, e, this⟩
  · cases this
theorem single_of {l : List Nat} (h : l.all isTs = true) (e : words l = [(l, 1, 1)]) : single l = true := by
  rw [single_eq h]
  exact decide_eq_true e
/-- the kept words: each one word, no name -/
def keptOkB (z : Str) : Bool := decide (z.cps.toList.length ≤ 100) && z.cps.toList.all isTs && decide (words z.cps.toList = [(z.cps.toList, 1, 1)]) && !isNameW z.cps.toList
theorem kept_ok : (keptL ++ unwS).all keptOkB = true := by decide +kernel
end K01

namespace K01
variable {G : Gb}
open LamX
abbrev nLaw : List Str := ["script", "draw", "word", "some", "turn", "k", "names", "pieces", "any_sign", "text", "due", "found", "line", "column", "name"]
theorem scLaw : FnScope nLaw ["script"] (defScope (top 38)) := ⟨rfl, rfl, rfl, by decide +kernel, rfl, by decide +kernel, by decide +kernel⟩
def forBody : Stmt → List Stmt
  | .For _ _ b _ _ => b
  | _ => []
def turnBody : List Stmt := forBody ((defBody (top 38)).getD 4 (.Pass ⟨0, 0, 0, 0⟩))
/-- what the law asks of -/
structure Lw (G : Gb) (e : Er G) (T : List (Addr × Str)) : Prop where
  b : Bi G.mg
  FB : Fn G "_law_begun" 1 1 (spBegun G.K)
  FT : Fn G "_law_take" 2 2 spTake
  FP : Fn G "_law_pick" 2 3 (spPick G.K)
  FK : Fn G "_law_kept" 0 1 spKept
  FN : Fn G "is_name" 1 2 (spName G.K)
  FS : Fn G "sort_of" 1 6 (spSort G.K e.cW)
  FLS : Fn G "_law_sort" 1 3 spLSort
  FLN : Fn G "_law_is_name" 1 2 spLName
  FSg : Fn G "_law_signs" 0 1 spSigns
  FA : Fn G "_law_any_name" 1 4 spAnyName
  FC : Fn G "_law_cut" 1 3 spSplit
  FW : Fn G "words_of" 1 6 (spWords G.K e.cT)
  FR : Fn G "_law_refused_right" 2 10 (spRefR G.K T)
  KW : FnK G "words_of" ["text"] gOne 6 (spWords G.K e.cT)
  KS : FnK G "sort_of" ["word"] gOne 6 (spSort G.K e.cW)
  KN : FnK G "is_name" ["thing"] gOne 2 (spName G.K)
  PK : TupG G "KEPT" keptS
theorem DrawAt_over {H0 H H1 : Hp} {d f : Addr} {B : Nat} {o : HO} (A : DrawAt H0 H d B) (hf : H f = none) (s : Same H H1) : DrawAt H0 (upd H1 f o) d B := by
  obtain ⟨s1, n, aw, ac, ws, cs, r, t, n1, n2, I⟩ := A
  refine ⟨same_upd (s1.trans s) (s1.free hf), n, aw, ac, ws, cs, r, t, n1, n2, ⟨?_, ?_, ?_, I.t0, I.tB, I.cB, I.wl, I.ne⟩⟩
  · rw [upd_ne (ne_of_none I.hd hf)]; exact s _ _ I.hd
  · rw [upd_ne (ne_of_none I.hw hf)]; exact s _ _ I.hw
  · rw [upd_ne (ne_of_none I.hc hf)]; exact s _ _ I.hc
/-- a word that is one word -/
def okW (l : List Nat) : Prop := l.length ≤ 500 ∧ l.all isTs = true ∧ single l = true
/-- the loop over the words -/
theorem law_words {e : Er G} {T : List (Addr × Str)} (F : Lw G e T) {X : Cx} {W : WX} (d : Fr X G nLaw (defScope (top 38)) 10 W) {D : Ends} {vsc vd v2 vso vtu vk vn vp va vt vdu vf v12 v13 : Option V} {H : Hp} {l : List Nat} (hl : okW l) {ln co : Int}
    (k : ∀ H', Same H H' → D.nx [vsc, vd, some (.str (tx l)), vso, vtu, vk, vn, vp, va, vt, vdu, vf, some (.int ln), some (.int co), none] H') :
    WB X (forBody (turnBody.getD 9 (.Pass ⟨0, 0, 0, 0⟩))) D [vsc, vd, some (.str (tx l)), vso, vtu, vk, vn, vp, va, vt, vdu, vf, some (.int ln), some (.int co), none] H := by
  have dd := d.toDef
  have b := F.b
  obtain ⟨h1, h2, h3⟩ := hl
  have ho : okL l := okL_ts h2
  refine wb_one ?_
  walk_at "wx"
  refine we_call dd F.FS (by decide) (by decide +kernel) (by rfl) (by rfl) ?_
  walk_at "wx"
  refine .inl ⟨l, rfl, by omega, fun _ H1 s1 => ?_, fun z => by rw [h3] at z; cases z⟩
  walk_at "wx"
  refine we_call dd F.FLS (by decide) (by decide +kernel) (by rfl) (by rfl) ?_
  walk_at "wx"
  refine ⟨by omega, ho, fun H2 s2 => ?_⟩
  walk_at "wx"
  rw [ne_self]
  refine ite_f ?_
  walk_at "wx"
  refine we_callK0 dd F.KS (by decide) (by decide +kernel) (by rfl) (by rfl) (by rfl) ?_
  walk_at "wx"
  refine .inl ⟨l, rfl, by omega, fun _ H3 s3 => ?_, fun z => by rw [h3] at z; cases z⟩
  walk_at "wx"
  refine we_call dd F.FLS (by decide) (by decide +kernel) (by rfl) (by rfl) ?_
  walk_at "wx"
  refine ⟨by omega, ho, fun H4 s4 => ?_⟩
  walk_at "wx"
  rw [ne_self]
  refine ite_f ?_
  walk_at "wx"
  refine we_call dd F.FN (by decide) (by decide +kernel) (by rfl) (by rfl) ?_
  walk_at "wx"
  refine .inl ⟨l, rfl, by omega, fun H5 s5 => ?_⟩
  walk_at "wx"
  refine rc_reprB ?_
  walk_at "wx"
  refine we_call dd F.FLN (by decide) (by decide +kernel) (by rfl) (by rfl) ?_
  walk_at "wx"
  refine ⟨by omega, ho, fun H6 s6 => ?_⟩
  walk_at "wx"
  refine rc_reprB ?_
  walk_at "wx"
  rw [ne_self]
  refine ite_f ?_
  walk_at "wx"
  exact k _ (s1.trans (s2.trans (s3.trans (s4.trans (s5.trans s6)))))
end K01

namespace K01
variable {G : Gb}
open LamX
theorem WordsAt.cat {H : Hp} {p q r : Addr} {ws vs : List Wd} {xs ys : List V} (h1 : WordsAt H p ws) (h2 : WordsAt H q vs) (e1 : H p = some (.lst xs)) (e2 : H q = some (.lst ys)) (hr : H r = none) : WordsAt (upd H r (.lst (xs ++ ys))) r (ws ++ vs) := by
  obtain ⟨as, a1, a2, a3⟩ := h1
  obtain ⟨bs, b1, b2, b3⟩ := h2
  rw [a1] at e1
  rw [b1] at e2
  cases e1
  cases e2
  refine ⟨as ++ bs, by rw [upd_same, List.map_append], by rw [List.length_append, List.length_append, a2, b2], fun i a w q1 q2 => ?_⟩
  have key : H a = some (.tup (wv w)) := by
    by_cases hi : i < as.length
    · rw [List.getElem?_append_left hi] at q1
      rw [List.getElem?_append_left (by omega)] at q2
      exact a3 i a w q1 q2
    · rw [List.getElem?_append_right (by omega)] at q1 q2
      rw [← a2] at q2
      exact b3 _ a w q1 q2
  rw [upd_ne (ne_of_none key hr)]
  exact key
/-- all but the draw joins the frame -/
theorem DrawAt_all {H0 H H1 : Hp} {p : Addr} {B : Nat} (A : DrawAt H0 H p B) (s : Same H H1) : ∃ J, Same H0 J ∧ DrawAt J H1 p B ∧ ∀ b o, H1 b = some o → (H b = none ∨ ((∀ kvs, o ≠ .dK kvs) ∧ ∀ xs, o ≠ .lst xs)) → J b = some o := by
  obtain ⟨s1, n, aw, ac, ws, cs, r, t, n1, n2, I⟩ := A
  refine ⟨fun b => if b = p ∨ b = aw ∨ b = ac then none else H1 b, ?_, ?_, ?_⟩
  · intro b o ho
    have : ¬ (b = p ∨ b = aw ∨ b = ac) := by
      rintro (z | z | z)
      · rw [z, n] at ho; cases ho
      · rw [z, n1] at ho; cases ho
      · rw [z, n2] at ho; cases ho
    show (if _ then none else H1 b) = _
    rw [if_neg this]
    exact s _ _ (s1 _ _ ho)
  · refine ⟨fun b u q => ?_, if_pos (.inl rfl), aw, ac, ws, cs, r, t, if_pos (.inr (.inl rfl)), if_pos (.inr (.inr rfl)), ⟨s _ _ I.hd, s _ _ I.hw, s _ _ I.hc, I.t0, I.tB, I.cB, I.wl, I.ne⟩⟩
    by_cases z : b = p ∨ b = aw ∨ b = ac
    · rw [if_pos z] at q
      cases q
    · rw [if_neg z] at q
      exact q
  · intro b o ho h
    have : ¬ (b = p ∨ b = aw ∨ b = ac) := by
      rcases h with h | ⟨h1, h2⟩
      · rintro (z | z | z)
        · rw [z, I.hd] at h; cases h
        · rw [z, I.hw] at h; cases h
        · rw [z, I.hc] at h; cases h
      · rintro (z | z | z)
        · rw [z, s _ _ I.hd] at ho
          exact h1 _ (Option.some.inj ho).symm
        · rw [z, s _ _ I.hw] at ho
          exact h2 _ (Option.some.inj ho).symm
        · rw [z, s _ _ I.hc] at ho
          exact h2 _ (Option.some.inj ho).symm
    show (if _ then none else H1 b) = _
    rw [if_neg this]
    exact ho
theorem WordsAt.list {H : Hp} {p : Addr} {ws : List Wd} (h : WordsAt H p ws) : ∃ xs : List V, H p = some (.lst xs) ∧ xs.length = ws.length := by
  obtain ⟨as, a1, a2, a3⟩ := h
  exact ⟨_, a1, by rw [List.length_map]; exact a2⟩
theorem law_tail {e : Er G} {T : List (Addr × Str)} (F : Lw G e T) {X : Cx} {W : WX} (d : Fr X G nLaw (defScope (top 38)) 10 W) {D : Ends} {sc p ps nm : Addr} {v2 vtu vk vp va vdu vf v12 v13 : Option V} {J H : Hp} {B : Nat} {l : List Nat} {nms : List (List Nat)}
    (A : DrawAt J H p B) (hB : B < 600000000000) (hTb : Tabs T J) (hl : l.length ≤ 500) (ha : l.all isTs = true) (hn : J nm = some (.lst ((nms.map tx).map V.str))) (hnl : nms.length ≤ 10) (hno : ∀ z ∈ nms, okName z)
    (k : ∀ J' H' v2 vdu vf v12 v13, ExtN J J' → Tabs T J' → DrawAt J' H' p (B + 600) → D.nx [some (.ref sc), some (.ref p), v2, some (.ref ps), vtu, vk, some (.ref nm), vp, va, some (.str (tx l)), vdu, vf, v12, v13, none] H') :
    WB X (turnBody.drop 4) D [some (.ref sc), some (.ref p), v2, some (.ref ps), vtu, vk, some (.ref nm), vp, va, some (.str (tx l)), vdu, vf, v12, v13, none] H := by
  have dd := d.toDef
  have b := F.b
  have hw500 : ∀ v ∈ words l, v.1.length ≤ 500 ∧ v.1.all isTs = true := fun v hv => by
    obtain ⟨q1, q2⟩ := words_sub hv
    exact ⟨by omega, List.all_eq_true.mpr fun c hc => List.all_eq_true.mp ha c (q2 c hc)⟩
  have hwok : ∀ v ∈ words l, okW v.1 := fun v hv => by
    obtain ⟨q1, q2⟩ := hw500 v hv
    exact ⟨q1, q2, single_of q2 (cut_words _ _ _ _ v hv)⟩
  have hsh : ∀ v ∈ words l, okL v.1 := fun v hv => okL_ts (hw500 v hv).2
  have hwl : (words l).length ≤ 500 := by
    have key : ∀ (n : Nat) (l : List Nat) (ln co : Int), (cut n l ln co).length ≤ n := by
      intro n
      induction n with
      | zero => intro l ln co; exact Nat.le_refl _
      | succ n ih =>
        intro l ln co
        cases l with
        | nil => exact Nat.zero_le _
        | cons c r =>
          by_cases h1 : c = 10
          · rw [cut_blank h1]
            exact Nat.le_succ_of_le (ih _ _ _)
          · by_cases h2 : c = 32
            · rw [cut_space h1 h2]
              exact Nat.le_succ_of_le (ih _ _ _)
            · rw [cut_word h1 h2, List.length_cons]
              exact Nat.succ_le_succ (ih _ _ _)
    exact Nat.le_trans (key _ _ _ _) hl
  refine wb_cons ?_
  walk_at "wx"
  refine we_call dd F.FC (by decide) (by decide +kernel) (by rfl) (by rfl) ?_
  walk_at "wx"
  refine ⟨by omega, fun q H1 hq s1 W1 => ?_⟩
  walk_at "wx"
  refine we_call dd F.FW (by decide) (by decide +kernel) (by rfl) (by rfl) ?_
  walk_at "wx"
  refine .inl ⟨l, rfl, by omega, ha, fun f H2 hf s2 W2 => ?_⟩
  walk_at "wx"
  refine ro_neD dd (dp_words W2) (dp_words (W1.same s2)) (shaped_words _ hsh) (shaped_words _ hsh) ?_
  rw [eqv_words, decide_eq_true rfl]
  walk_at "wy"
  obtain ⟨xsf, f1, f2⟩ := W2.list
  refine we_bm dd PySem.F.plainAttrs_list PySem.F.slot_list_append PySem.F.type_list_append (by rfl) (by rfl) (by rfl) (by rfl) (by rfl) ?_
  walk_at "wx"
  refine ⟨ty_list f1, ?_⟩
  walk_at "wx"
  refine rm_append f1 (by rw [f2]; exact len_lt (by omega)) ?_
  -- the frame with the words due
  have A1 : DrawAt J (upd H2 f (.lst (xsf ++ [.non]))) p B := DrawAt_over (A.keep s1) hf s2
  have sF : Same H1 (upd H2 f (.lst (xsf ++ [.non]))) := same_upd s2 hf
  have sH3 : Same H (upd H2 f (.lst (xsf ++ [.non]))) := same_upd (s1.trans s2) (s1.free hf)
  have W3 := W1.same sF
  generalize upd H2 f (.lst (xsf ++ [.non])) = H3 at A1 sF W3 sH3 ⊢
  walk_at "wx"
  refine we_callK0 dd F.KW (by decide) (by decide +kernel) (by rfl) (by rfl) (by rfl) ?_
  walk_at "wx"
  refine .inl ⟨l, rfl, by omega, ha, fun g H4 hg s4 W4 => ?_⟩
  have W5 := W3.same s4
  walk_at "wx"
  refine ro_neD dd (dp_words W4) (dp_words W5) (shaped_words _ hsh) (shaped_words _ hsh) ?_
  rw [eqv_words, decide_eq_true rfl]
  refine ⟨_, rfl, ?_⟩
  refine ite_f ?_
  refine wb_nil ?_
  have A4 : DrawAt J H4 p B := A1.keep s4
  have hn4 : H4 nm = some (.lst ((nms.map tx).map V.str)) := A4.same _ _ hn
  have hmm : (nms.map tx).map V.str = nms.map fun z => V.str (tx z) := by rw [List.map_map]; rfl
  refine wb_cons (ws_forL d (by intro _; rfl) ?_)
  walk_at "wx"
  refine we_lcL dd [("name", 14)] (by decide +kernel) (by intro _; rfl) ?_
  walk_at "wx"
  refine ⟨nm, (nms.map tx).map V.str, rfl, SqL.of hn4, fun L hL => ⟨fun i H' => Same H4 H' ∧ WordsAt H' L ((nms.take i).map fun z => (z, 1, 1)), ⟨same_new hL, WordsAt.nil⟩, fun i H' _ h => SqL.of (h.1 _ _ hn4), ?_, ?_⟩⟩
  · rintro i x H' hx ⟨sH, Wi⟩ X' d'
    rw [hmm] at hx
    obtain ⟨z, hz, rfl⟩ := map_at hx
    dsimp only [L2.wipe, List.map, List.set]
    walk_at "wg"
    refine ⟨rfl, fun X2 d2 => wts_nil (ite_t fun X3 d3 => ?_)⟩
    walk_at "wx"
    refine ⟨by show 3 ≤ sizeLine; decide, fun r hr => ?_⟩
    obtain ⟨as, g1, g2, g3⟩ := Wi
    have hi : i < nms.length := (List.getElem?_eq_some_iff.mp hz).1
    have W := WordsAt.snoc (w := (z, 1, 1)) g1 g2 g3 hr
    refine ⟨as.map V.ref, by rw [upd_ne (ne_of_none g1 hr)]; exact g1, by rw [List.length_map, g2, List.length_map, List.length_take]; exact len_lt (by omega), same_app sH hL hr, ?_⟩
    rw [take_succ hz, List.map_append]
    exact W
  · rintro H5 ⟨s5, W6⟩
    rw [List.length_map, List.length_map, List.take_length] at W6
    have W7 := W5.same s5
    obtain ⟨xs1, x1, x2⟩ := W7.list
    obtain ⟨xs2, y1, y2⟩ := W6.list
    refine ro_cat x1 y1 (len_le (by rw [x2, y2, List.length_map]; omega)) fun r hr => ?_
    have W8 := WordsAt.cat W7 W6 x1 y1 hr
    have hall : ∀ v ∈ words l ++ nms.map fun z => ((z, 1, 1) : Wd), okW v.1 := fun v hv => by
      rcases List.mem_append.mp hv with hv | hv
      · exact hwok v hv
      · obtain ⟨z, hz, rfl⟩ := List.mem_map.mp hv
        have oz := hno z hz
        exact ⟨by have := oz.2.1; show z.length ≤ 500; omega, name_ts oz, single_of (name_ts oz) (name_words oz)⟩
    obtain ⟨bs, b1, b2, b3⟩ := W8
    refine ⟨r, _, rfl, SqL.of b1, fun i σ H' => Same (upd H5 r (.lst (xs1 ++ xs2))) H' ∧ ∃ v2 v12 v13, σ = [some (.ref sc), some (.ref p), v2, some (.ref ps), vtu, vk, some (.ref nm), vp, va, some (.str (tx l)), some (.ref q), some (.ref f), v12, v13, none], ⟨Same.refl _, _, _, _, rfl⟩, ?_, ?_, ?_⟩
    · rintro i σ H' _ ⟨sH, _⟩
      exact SqL.of (sH _ _ b1)
    · rintro i x σ H' hx ⟨sH, v2, v12, v13, rfl⟩
      obtain ⟨a, hba, rfl⟩ := map_at hx
      have hi : i < (words l ++ nms.map fun z => ((z, 1, 1) : Wd)).length := by rw [← b2]; exact (List.getElem?_eq_some_iff.mp hba).1
      obtain ⟨v, hv⟩ : ∃ v, (words l ++ nms.map fun z => ((z, 1, 1) : Wd))[i]? = some v := ⟨_, List.getElem?_eq_getElem hi⟩
      have hva := sH _ _ (b3 i a v hba hv)
      refine wg_tup dd (SqT.of hva) (by rfl) (by rfl) ?_
      repeat walk_at "wG"
      dsimp only [List.set]
      refine law_words (v2 := v2) (v12 := v12) (v13 := v13) F d (ln := v.2.1) (co := v.2.2) (hall v (List.mem_of_getElem? hv)) fun H6 s6 => ?_
      exact ⟨sH.trans s6, _, _, _, rfl⟩
    · rintro σ H6 ⟨s6, v2, v12, v13, rfl⟩
      have sAll := (s4.trans s5).trans ((same_new (o := .lst (xs1 ++ xs2)) hr).trans s6)
      have W9 := W3.same sAll
      have A6 : DrawAt J H6 p B := A1.keep sAll
      -- the words due join the frame
      obtain ⟨H0, sJ0, A7, hin⟩ := DrawAt_all A (sH3.trans sAll)
      have sJ : ExtN J H0 := extN_of sJ0
      have T0 : Tabs T H0 := hTb.ext sJ0
      have WJ : WordsAt H0 q (words l) := by
        obtain ⟨cs, c1, c2, c3⟩ := W9
        exact ⟨cs, hin _ _ c1 (.inl hq), c2, fun i a w e1 e2 => hin _ _ (c3 i a w e1 e2) (.inr ⟨(fun _ z => nomatch z), (fun _ z => nomatch z)⟩)⟩
      walk_at "wx"
      refine we_call dd F.FR (by decide) (by decide +kernel) (by rfl) (by rfl) ?_
      walk_at "wx"
      refine ⟨H0, p, q, B, words l, rfl, A7, by omega, T0, WJ, hwl, hw500, fun J' H7 e7 t7 A8 => ?_⟩
      refine ⟨_, rfl, ?_⟩
      refine ite_f ?_
      refine wb_nil ?_
      exact k J' H7 _ _ _ _ _ (sJ.trans e7) t7 A8
end K01

namespace K01
variable {G : Gb}
open LamX
def okP (x : V) : Prop := ∃ l, x = .str (tx l) ∧ l.length ≤ 10 ∧ l.all isTs = true
theorem okP_all {zs : List Str} (h : (zs.all fun z => decide (z.cps.toList.length ≤ 10) && z.cps.toList.all isTs) = true) : ∀ x ∈ zs.map V.str, okP x := fun x hx => by
  obtain ⟨z, hz, rfl⟩ := List.mem_map.mp hx
  obtain ⟨h1, h2⟩ := Bool.and_eq_true_iff.mp (List.all_eq_true.mp h z hz)
  exact ⟨z.cps.toList, by rw [tx_of], of_decide_eq_true h1, h2⟩
abbrev sumS : List Str := ["a", "b", "z", "if", "cases", "leaf", "A", "0", "1", "7", "-", "-", "_", "$", "<", "=", "==", "<=", "(", ")", "[", "]", "{", "}", ",", ":", "+", "*", "."]
abbrev gapS : List Str := [" ", " ", "\n", "  ", "\n\n", "fork", "greatest"]
theorem sum_len10 : ∀ (ls : List (List Nat)), (∀ l ∈ ls, l.length ≤ 10 ∧ l.all isTs = true) → ls.flatten.length ≤ 10 * ls.length ∧ ls.flatten.all isTs = true
  | [], _ => ⟨Nat.le_refl _, rfl⟩
  | l :: ls, h => by
    obtain ⟨h1, h2⟩ := h l List.mem_cons_self
    obtain ⟨i1, i2⟩ := sum_len10 ls fun z hz => h z (List.mem_cons_of_mem _ hz)
    refine ⟨?_, ?_⟩
    · rw [List.flatten_cons, List.length_append, List.length_cons]
      omega
    · rw [List.flatten_cons, List.all_append, h2, i2]
      rfl
theorem law_turn {e : Er G} {T : List (Addr × Str)} (F : Lw G e T) {X : Cx} {W : WX} (d : Fr X G nLaw (defScope (top 38)) 10 W) {D : Ends} {sc p ps : Addr} {v2 vtu v5 v6 v7 v8 v9 v10 v11 v12 v13 : Option V} {J H : Hp} {B : Nat}
    (A : DrawAt J H p B) (hB : B < 500000000000) (hTb : Tabs T J) (hs : J ps = some (.lst (sumS.map V.str)))
    (k : ∀ J' H' v2 v5 v6 v7 v8 v9 v10 v11 v12 v13, ExtN J J' → Tabs T J' → DrawAt J' H' p (B + 2000) → D.nx [some (.ref sc), some (.ref p), v2, some (.ref ps), vtu, v5, v6, v7, v8, v9, v10, v11, v12, v13, none] H') :
    WB X turnBody D [some (.ref sc), some (.ref p), v2, some (.ref ps), vtu, v5, v6, v7, v8, v9, v10, v11, v12, v13, none] H := by
  have dd := d.toDef
  have b := F.b
  refine wb_cons ?_
  refine ws_lcR d 6 [("k", 5)] (by rfl) (by decide +kernel) (by decide +kernel) (by decide +kernel) b.b_range (by intro _; rfl) (by rfl) (by rfl) (by decide +kernel) ?_
  walk_at "wx"
  refine ⟨by omega, by omega, fun L hL => ⟨fun i H' => ∃ (Hb : Hp) (ls : List (List Nat)), Same J Hb ∧ DrawAt Hb H' p (B + 20 * i) ∧ ls.length = i ∧ (∀ l ∈ ls, okName l) ∧ Hb L = some (.lst (ls.map fun l => .str (tx l))), ?_, ?_, ?_⟩⟩
  · exact ⟨upd J L (.lst []), [], same_new (A.same.free hL), A.laid hL, rfl, (fun _ h => nomatch h), upd_same⟩
  · rintro j H2 hj ⟨Hb, ls, sb, A2, el, hl, hL2⟩ X' d'
    dsimp only [L2.wipe, List.map, List.set]
    walk_at "wg"
    refine ⟨rfl, fun X2 d2 => wts_nil (ite_t fun X3 d3 => ?_)⟩
    walk_at "wx"
    refine we_call d3 F.FA (by decide) (by decide +kernel) (by rfl) (by rfl) ?_
    walk_at "wx"
    have hj2 : j < 2 := hj
    refine ⟨Hb, p, B + 20 * j, rfl, A2, by omega, fun l H3 ol A3 => ?_⟩
    have h3 := A3.same _ _ hL2
    refine ⟨_, h3, by rw [List.length_map]; exact len_lt (by omega), upd Hb L (.lst ((ls.map fun l => V.str (tx l)) ++ [.str (tx l)])), ls ++ [l], same_upd sb (A.same.free hL), (A3.put hL2).mono (by omega), by rw [List.length_append, el]; rfl, fun z hm => ?_, ?_⟩
    · rcases List.mem_append.mp hm with hm | hm
      · exact hl z hm
      · rw [List.mem_singleton.mp hm]
        exact ol
    · rw [upd_same, List.map_append]
      rfl
  · rintro H2 ⟨J1, nms, s1, A1, nl, hno, hn⟩
    have nl2 : nms.length = 2 := nl
    have A1 : DrawAt J1 H2 p (B + 40) := A1
    refine wb_cons ?_
    walk_at "wx"
    refine ⟨by decide, fun pc hpc => ?_⟩
    walk_at "wx"
    have A2 := A1.laid (o := .lst []) hpc
    have s2 : Same J1 (upd J1 pc (.lst [])) := same_new (A1.same.free hpc)
    have hp2 : (upd J1 pc (.lst [])) pc = some (.lst []) := upd_same
    have hn2 := s2 _ _ hn
    have hs2 := s2 _ _ (s1 _ _ hs)
    have fpc : J1 pc = none := A1.same.free hpc
    generalize upd J1 pc (.lst []) = J2 at A2 s2 hp2 hn2 hs2
    generalize upd H2 pc (.lst []) = H2' at A2 ⊢
    refine ws_forR d (by decide +kernel) b.b_range (by rfl) (by intro _; rfl) ?_
    walk_at "wx"
    refine we_call dd F.FT (by decide) (by decide +kernel) (by rfl) (by rfl) ?_
    walk_at "wx"
    refine ⟨J2, p, _, 40, rfl, A2, by omega, by decide, by decide, fun n H3 c0 c1 A3 => ?_⟩
    walk_at "wx"
    refine ⟨by omega, by omega, fun i σ H' => ∃ (Hb : Hp) (ls : List (List Nat)) (v5 v8 : Option V), Same J1 Hb ∧ DrawAt Hb H' p (B + 41 + 2 * i) ∧ ls.length = i ∧ (∀ l ∈ ls, l.length ≤ 10 ∧ l.all isTs = true) ∧ Hb pc = some (.lst (ls.map fun l => .str (tx l))) ∧ σ = [some (.ref sc), some (.ref p), v2, some (.ref ps), vtu, v5, some (.ref L), some (.ref pc), v8, v9, v10, v11, v12, v13, none], ⟨J2, [], v5, v8, s2, A3, rfl, (fun _ h => nomatch h), hp2, rfl⟩, ?_, ?_⟩
    · rintro i σ H' hi ⟨Hb, ls, v5, v8, sb, A4, el, hl, hpb, rfl⟩
      have hi' : i < 40 := by omega
      have hnb := sb _ _ hn
      have hsb := sb _ _ (s1 _ _ hs)
      walk_at "wg"
      walk_at "wx"
      refine we_call0 dd F.FSg (by decide) (by decide +kernel) ⟨rfl, ?_⟩
      walk_at "wx"
      refine we_call dd F.FT (by decide) (by decide +kernel) (by rfl) (by rfl) ?_
      walk_at "wx"
      refine ⟨Hb, p, _, 94, rfl, A4, by omega, by decide, by decide, fun m H5 m0 m1 A5 => ?_⟩
      obtain ⟨mn, rfl⟩ : ∃ mn : Nat, m = (mn : Int) := ⟨m.toNat, by omega⟩
      obtain ⟨c, hc, ic⟩ := signs_at mn (by omega)
      walk_at "wx"
      refine rx_str (by decide +kernel) (atI_nat hc) ?_
      walk_at "wx"
      refine we_bm dd PySem.F.plainAttrs_list PySem.F.slot_list_append PySem.F.type_list_append (by rfl) (by rfl) (by rfl) (by rfl) (by rfl) ?_
      walk_at "wx"
      refine ⟨ty_list (A5.same _ _ hpb), ?_⟩
      walk_at "wx"
      refine we_call dd F.FP (by decide) (by decide +kernel) (by rfl) (by rfl) ?_
      walk_at "wx"
      refine ro_cat (A5.same _ _ hsb) (A5.same _ _ hnb) (len_le (by rw [List.length_map, List.length_map]; show 29 + nms.length ≤ _; omega)) fun r1 g1 => ?_
      have A6 := A5.keep (same_new (o := .lst (sumS.map V.str ++ nms.map fun l => V.str (tx l))) g1)
      have e1 : (upd H5 r1 (.lst (sumS.map V.str ++ nms.map fun l => V.str (tx l)))) r1 = some (.lst (sumS.map V.str ++ nms.map fun l => V.str (tx l))) := upd_same
      generalize upd H5 r1 (.lst (sumS.map V.str ++ nms.map fun l => V.str (tx l))) = H6 at A6 e1 ⊢
      walk_at "wx"
      refine ⟨by decide, fun r2 g2 => ?_⟩
      walk_at "wx"
      have A6b := A6.keep (same_new (o := .lst [V.str " ", V.str " ", V.str "\n", V.str "  ", V.str "\n\n", V.str "fork", V.str "greatest"]) g2)
      have e1b : (upd H6 r2 (.lst [V.str " ", V.str " ", V.str "\n", V.str "  ", V.str "\n\n", V.str "fork", V.str "greatest"])) r1 = some (.lst (sumS.map V.str ++ nms.map fun l => V.str (tx l))) := by rw [upd_ne (ne_of_none e1 g2)]; exact e1
      have e2b : (upd H6 r2 (.lst [V.str " ", V.str " ", V.str "\n", V.str "  ", V.str "\n\n", V.str "fork", V.str "greatest"])) r2 = some (.lst (gapS.map V.str)) := upd_same
      generalize upd H6 r2 (.lst [V.str " ", V.str " ", V.str "\n", V.str "  ", V.str "\n\n", V.str "fork", V.str "greatest"]) = H6b at A6b e1b e2b ⊢
      refine ro_cat e1b e2b (len_le (by rw [List.length_append, List.length_map, List.length_map, List.length_map]; show 29 + nms.length + 7 ≤ _; omega)) fun r3 g3 => ?_
      have A7 := A6b.keep (same_new (o := .lst (sumS.map V.str ++ (nms.map fun l => V.str (tx l)) ++ gapS.map V.str)) g3)
      have e3 : (upd H6b r3 (.lst (sumS.map V.str ++ (nms.map fun l => V.str (tx l)) ++ gapS.map V.str))) r3 = some (.lst (sumS.map V.str ++ (nms.map fun l => V.str (tx l)) ++ gapS.map V.str)) := upd_same
      generalize upd H6b r3 (.lst (sumS.map V.str ++ (nms.map fun l => V.str (tx l)) ++ gapS.map V.str)) = H7 at A7 e3 ⊢
      walk_at "wx"
      refine ⟨by show 1 ≤ sizeLine; decide, fun r4 g4 => ?_⟩
      walk_at "wx"
      refine ro_rep (i := 9) (xs := [.str (tx [c])]) upd_same (by decide) (by decide) (by show 9 ≤ sizeLine; decide) fun r5 g5 => ?_
      refine ro_cat (xs := sumS.map V.str ++ (nms.map fun l => V.str (tx l)) ++ gapS.map V.str) (ys := (List.replicate (9 : Int).toNat [V.str (tx [c])]).flatten) (by rw [upd_ne (ne_of_none (by rw [upd_ne (ne_of_none e3 g4)]; exact e3) g5), upd_ne (ne_of_none e3 g4)]; exact e3) upd_same (len_le (by rw [List.length_append, List.length_append, List.length_map, List.length_map, List.length_map]; show 29 + nms.length + 7 + 9 ≤ _; omega)) fun r6 g6 => ?_
      have A8 := ((A7.keep (same_new (o := .lst [V.str (tx [c])]) g4)).keep (same_new (o := .lst (List.replicate (9 : Int).toNat [V.str (tx [c])]).flatten) g5)).laid (o := .lst (sumS.map V.str ++ (nms.map fun l => V.str (tx l)) ++ gapS.map V.str ++ (List.replicate (9 : Int).toNat [V.str (tx [c])]).flatten)) g6
      have n6 : Hb r6 = none := ((A7.keep (same_new (o := .lst [V.str (tx [c])]) g4)).keep (same_new (o := .lst (List.replicate (9 : Int).toNat [V.str (tx [c])]).flatten) g5)).same.free g6
      have hall : ∀ x ∈ sumS.map V.str ++ (nms.map fun l => V.str (tx l)) ++ gapS.map V.str ++ (List.replicate (9 : Int).toNat [V.str (tx [c])]).flatten, okP x := fun x hx => by
        rcases List.mem_append.mp hx with hx | hx
        · rcases List.mem_append.mp hx with hx | hx
          · rcases List.mem_append.mp hx with hx | hx
            · exact okP_all (by decide +kernel) x hx
            · obtain ⟨z, hz, rfl⟩ := List.mem_map.mp hx
              exact ⟨z, rfl, (hno z hz).2.1, name_ts (hno z hz)⟩
          · exact okP_all (by decide +kernel) x hx
        · obtain ⟨y, hy, hx⟩ := List.mem_flatten.mp hx
          rw [(List.mem_replicate.mp hy).2] at hx
          rw [List.mem_singleton.mp hx]
          exact ⟨[c], rfl, by rw [List.length_singleton]; decide, by rw [List.all_cons, ic]; rfl⟩
      have hlen : (sumS.map V.str ++ (nms.map fun l => V.str (tx l)) ++ gapS.map V.str ++ (List.replicate (9 : Int).toNat [V.str (tx [c])]).flatten).length = 47 := by
        rw [List.length_append, List.length_append, List.length_append, List.length_map, List.length_map, List.length_map, nl2]
        rfl
      walk_at "wx"
      refine ⟨_, p, r6, _, _, rfl, A8, by omega, SqL.of upd_same, by rw [hlen]; decide, by rw [hlen]; decide, fun j x H9 hx A9 => ?_⟩
      obtain ⟨l, rfl, hl1, hl2⟩ := hall x (List.mem_of_getElem? hx)
      walk_at "wx"
      have h9 := A9.same _ _ (same_new (o := .lst (sumS.map V.str ++ (nms.map fun l => V.str (tx l)) ++ gapS.map V.str ++ (List.replicate (9 : Int).toNat [V.str (tx [c])]).flatten)) n6 _ _ hpb)
      refine rm_append h9 (by rw [List.length_map]; exact len_lt (by omega)) ?_
      walk_at "wx"
      have A10 := A9.less (same_new (o := .lst (sumS.map V.str ++ (nms.map fun l => V.str (tx l)) ++ gapS.map V.str ++ (List.replicate (9 : Int).toNat [V.str (tx [c])]).flatten)) n6)
      refine ⟨upd Hb pc (.lst ((ls.map fun l => V.str (tx l)) ++ [.str (tx l)])), ls ++ [l], _, _, ?_, (A10.put hpb).mono (by omega), by rw [List.length_append, el]; rfl, fun z hm => ?_, ?_, rfl⟩
      · exact same_upd sb fpc
      · rcases List.mem_append.mp hm with hm | hm
        · exact hl z hm
        · rw [List.mem_singleton.mp hm]
          exact ⟨hl1, hl2⟩
      · rw [upd_same, List.map_append]
        rfl
    · rintro σ H9 ⟨Hb, ls, v5, v8, sb, A9, el, hl, hpb, rfl⟩
      obtain ⟨q1, q2⟩ := sum_len10 ls hl
      have hj : ls.map (fun l => V.str (tx l)) = (ls.map tx).map V.str := by rw [List.map_map]; rfl
      have hjn : nms.map (fun l => V.str (tx l)) = (nms.map tx).map V.str := by rw [List.map_map]; rfl
      rw [hj] at hpb
      walk_at "wx"
      refine we_bm dd PySem.F.plainAttrs_str PySem.F.slot_str_join PySem.F.type_str_join (by rfl) (by rfl) (by rfl) (by rfl) (by rfl) ?_
      walk_at "wx"
      refine ⟨rfl, ?_⟩
      walk_at "wx"
      refine rm_join dd (SqL.of (A9.same _ _ hpb)) ?_ ?_
      · rw [sum_len, List.length_map]
        show ls.flatten.length + ls.length * 0 ≤ _
        omega
      rw [join_tx]
      refine law_tail F d (A9.mono (C := B + 200) (by omega)) (by omega) (hTb.ext (s1.trans sb)) (by omega) q2 (by rw [← hjn]; exact sb _ _ hn) (by omega) hno fun J' H' v2 vdu vf v12 v13 eN TJ A' => ?_
      exact k J' H' _ _ _ _ _ _ _ _ _ _ ((extN_of (s1.trans sb)).trans eN) TJ (A'.mono (by omega))
end K01

namespace K01
variable {G : Gb}
open LamX
theorem filterMap_none {α β : Type} : ∀ l : List α, l.filterMap (fun _ => (none : Option β)) = []
  | [] => rfl
  | _ :: l => filterMap_none l
/-- law(script) -/
def spLaw (K : PySem.W.Frag) (T : List (Addr × Str)) : Sp := fun vs H Q _ => ∃ (a : Addr) (ns : List Int), vs = [.ref a] ∧ SqL K H a (ns.map V.int) ∧ ns.length ≤ 63 ∧ Tabs T H ∧ ∀ H', Q (.bl true) H'
theorem dpa_strs {K : PySem.W.Frag} {H : Hp} : ∀ ss : List Str, DpAll K H (ss.map V.str) (ss.map PyData.str)
  | [] => .nil
  | n :: ns => .cons (.str n) (dpa_strs ns)
theorem dp_tupS {K : PySem.W.Frag} {H : Hp} {a : Addr} {ss : List Str} (h : SqT K H a (ss.map V.str)) : Dp K H (.ref a) (.tuple (ss.map PyData.str)) := .tup h (dpa_strs ss)
abbrev two : List Str := ["fork", "leaf"]
theorem law_end {e : Er G} {T : List (Addr × Str)} (F : Lw G e T) {X : Cx} {W : WX} (d : Fr X G nLaw (defScope (top 38)) 10 W) {Q : VK} {v0 v2 v3 v4 v5 v6 v7 v8 v9 v10 v11 v12 v13 v14 : Option V} {p : Addr} {J H : Hp} {B : Nat}
    (A : DrawAt J H p B) (hB : B < 500000000000) (k : ∀ H', Q (.bl true) H') :
    WB X ((defBody (top 38)).drop 5) { nx := fun _ H' => Q .non H', rt := Q } [v0, some (.ref p), v2, v3, v4, v5, v6, v7, v8, v9, v10, v11, v12, v13, v14] H := by
  have dd := d.toDef
  have b := F.b
  refine wb_one ?_
  walk_at "wx"
  refine we_callK0 dd F.KN (by decide) (by decide +kernel) (by rfl) (by rfl) (by rfl) ?_
  walk_at "wx"
  refine we_call dd F.FP (by decide) (by decide +kernel) (by rfl) (by rfl) ?_
  walk_at "wx"
  refine ⟨by show 1 ≤ sizeLine; decide, fun q1 g1 => ?_⟩
  obtain ⟨J1, s1, a1, n1, A1⟩ := new_frame (.lst [.str "a"]) A g1
  walk_at "wx"
  refine ⟨by decide, fun q2 g2 => ?_⟩
  obtain ⟨J2, s2, a2, n2, A2⟩ := new_frame (.tup [.str "a"]) A1 g2
  walk_at "wx"
  refine ⟨by show 9 ≤ sizeLine; decide, fun q3 g3 => ?_⟩
  obtain ⟨J3, s3, a3, n3, A3⟩ := new_frame (.lst [.non, .int 5, .bl true, .ref q1, .str "", .str "abcdefghi", .str "Z", .str "a b", .ref q2]) A2 g3
  walk_at "wA"
  refine ⟨J3, p, q3, B, _, rfl, A3, by omega, SqL.of a3, by show 0 < 9; decide, by show 9 < 1073741824; decide, fun i x H7 hx A7 => ?_⟩
  have h1 := A7.same _ _ (s3 _ _ (s2 _ _ a1))
  have h2 := A7.same _ _ (s3 _ _ a2)
  have key : (∃ z : Str, x = .str z ∧ z.cps.toList.length ≤ 100 ∧ isNameW z.cps.toList = false) ∨ ∃ t, TyX G.K H7 x (.type t) ∧ kitB t "str" = some false := by
    have hm := List.mem_of_getElem? hx
    simp only [List.mem_cons, List.not_mem_nil, or_false] at hm
    rcases hm with rfl | rfl | rfl | rfl | rfl | rfl | rfl | rfl | rfl
    · exact .inr ⟨_, .base .non, by decide +kernel⟩
    · exact .inr ⟨_, .base (.int _), by decide +kernel⟩
    · exact .inr ⟨_, .base (.bl _), by decide +kernel⟩
    · exact .inr ⟨_, .base (.lst h1), by decide +kernel⟩
    · exact .inl ⟨_, rfl, by decide +kernel, by decide +kernel⟩
    · exact .inl ⟨_, rfl, by decide +kernel, by decide +kernel⟩
    · exact .inl ⟨_, rfl, by decide +kernel, by decide +kernel⟩
    · exact .inl ⟨_, rfl, by decide +kernel, by decide +kernel⟩
    · exact .inr ⟨_, .base (.tup h2), by decide +kernel⟩
  walk_at "wA"
  rcases key with ⟨z, rfl, z1, z2⟩ | ⟨t, t1, t2⟩
  · refine ⟨_, rfl, .inl ⟨z.cps.toList, by rw [tx_of], by omega, fun H8 s8 => ?_⟩⟩
    rw [z2]
    walk_at "wx"
    exact k _
  · refine ⟨_, rfl, .inr ⟨t, t1, t2, ?_⟩⟩
    walk_at "wx"
    exact k _
theorem fn_law {e : Er G} {T : List (Addr × Str)} (F : Lw G e T) (TL : Top G "law" (top 38) ["script"]) : FnR G "law" 1 11 (spLaw G.K T) := by
  refine TL.fnR (N := nLaw) scLaw (fun vs H Q E h => ?_) (fun X vs H Q E d gd h => ?_)
  · obtain ⟨_, _, rfl, _⟩ := h
    rfl
  · have dd := d.toDef
    have b := F.b
    obtain ⟨a, ns, rfl, hq, hn, hT, k⟩ := h
    show WB X _ _ [some (.ref a), none, none, none, none, none, none, none, none, none, none, none, none, none, none] H
    refine wb_cons ?_
    walk_at "wx"
    refine we_call dd F.FB (by decide) (by decide +kernel) (by rfl) (by rfl) ?_
    walk_at "wx"
    refine ⟨a, ns, rfl, hq, hn, fun p H1 A => ?_⟩
    walk_at "wx"
    obtain ⟨aK, hK, sK⟩ := F.PK.is
    refine we_glob dd (v := .ref aK) (by decide +kernel) hK rfl ?_
    walk_at "wx"
    refine rc_reprD dd gd (dp_tupS (sK H1)) (by decide +kernel) (by decide +kernel) (by decide +kernel) (by decide +kernel) ?_
    walk_at "wx"
    refine we_call0 dd F.FK (by decide) (by decide +kernel) ⟨rfl, fun q1 H2 g1 s2 e1 => ?_⟩
    walk_at "wx"
    refine ⟨by show 2 ≤ sizeLine; decide, fun q2 g2 => ?_⟩
    refine ro_cat (xs := keptL.map V.str) (ys := two.map V.str) (by rw [upd_ne (ne_of_none e1 g2)]; exact e1) upd_same (by show 23 ≤ sizeLine; decide) fun q3 g3 => ?_
    walk_at "wx"
    refine rc_sortedS dd (ss := keptL ++ two) (SqL.of (by rw [upd_same, List.map_append])) (by decide) fun ys q4 py sy g4 => ?_
    obtain rfl : ys = keptS := sorted_one sy kept_sorted (py.trans kept_list)
    walk_at "wx"
    refine rc_tupleL dd (SqL.of upd_same) fun q5 g5 => ?_
    walk_at "wx"
    refine rc_reprD dd gd (dp_tupS (SqT.of upd_same)) (by decide +kernel) (by decide +kernel) (by decide +kernel) (by decide +kernel) ?_
    walk_at "wx"
    rw [decide_eq_true rfl]
    refine ite_f ?_
    walk_at "wx"
    refine we_lcL dd [("word", 2)] (by decide +kernel) (by intro _; rfl) ?_
    walk_at "wx"
    have A9 := ((((A.keep s2).keep (same_new (o := .lst (two.map V.str)) g2)).keep (same_new (o := .lst (keptL.map V.str ++ two.map V.str)) g3)).keep (same_new (o := .lst (keptS.map V.str)) g4)).keep (same_new (o := .tup (keptS.map V.str)) g5)
    refine we_call0 dd F.FK (by decide) (by decide +kernel) ⟨rfl, fun q6 H4 g6 s6 e6 => ?_⟩
    have A10 := A9.keep s6
    walk_at "wx"
    refine ⟨by show 2 ≤ sizeLine; decide, fun q7 g7 => ?_⟩
    have A11 := A10.keep (same_new (o := .lst (two.map V.str)) g7)
    refine ro_cat (xs := keptL.map V.str) (ys := two.map V.str) (by rw [upd_ne (ne_of_none e6 g7)]; exact e6) upd_same (by show 23 ≤ sizeLine; decide) fun q8 g8 => ?_
    have A12 := A11.keep (same_new (o := .lst (keptL.map V.str ++ two.map V.str)) g8)
    refine lcL_map (zs := keptL ++ two) V.str (fun _ => none) (SqL.of (by rw [upd_same, List.map_append])) (by decide) (fun z hz H5 s5 R hR => ?_) (fun L H5 hL s5 h5 => ?_)
    · have kz := List.all_eq_true.mp kept_ok z hz
      unfold keptOkB at kz
      simp only [Bool.and_eq_true, decide_eq_true_eq, Bool.not_eq_true'] at kz
      obtain ⟨⟨⟨k1, k2⟩, k3⟩, k4⟩ := kz
      intro X' d'
      dsimp only [L2.wipe, List.map, List.set]
      walk_at "wg"
      refine ⟨rfl, fun X2 d2 => wts_one ?_⟩
      walk_at "wx"
      refine we_call d2 F.FN (by decide) (by decide +kernel) (by rfl) (by rfl) ?_
      walk_at "wx"
      refine .inl ⟨z.cps.toList, by rw [tx_of], by omega, fun H6 s6 => ?_⟩
      rw [k4]
      walk_at "wx"
      rw [show (!decide (false = false)) = false from rfl]
      refine ite_f ?_
      walk_at "wx"
      refine we_call d2 F.FS (by decide) (by decide +kernel) (by rfl) (by rfl) ?_
      walk_at "wx"
      refine .inl ⟨z.cps.toList, by rw [tx_of], by omega, fun _ H7 s7 => ?_, fun y => by rw [single_of k2 k3] at y; cases y⟩
      walk_at "wx"
      refine we_call d2 F.FLS (by decide) (by decide +kernel) (by rfl) (by rfl) ?_
      walk_at "wx"
      refine ⟨by show z.cps.toList.length ≤ 10000; omega, okL_ts k2, fun H8 s8 => ?_⟩
      walk_at "wx"
      rw [ne_self]
      exact ite_f (hR _ (s6.trans (s7.trans s8)))
    · have A13 := A12.keep s5
      rw [filterMap_none] at h5
      walk_at "wx"
      refine ⟨by decide, fun q9 g9 => ?_⟩
      have A14 := A13.keep (same_new (o := .lst []) g9)
      refine ro_neD dd (.lst (SqL.of (by rw [upd_ne (ne_of_none h5 g9)]; exact h5)) .nil) (.lst (SqL.of upd_same) .nil) rfl rfl ?_
      refine ⟨_, rfl, ?_⟩
      refine ite_f ?_
      walk_at "wx"
      refine ⟨by show 29 ≤ sizeLine; decide, fun ps gs => ?_⟩
      obtain ⟨J0, sJ, aJ, nJ, AJ⟩ := new_frame (.lst (sumS.map V.str)) A14 gs
      walk_at "wx"
      refine ws_forR d (by decide +kernel) b.b_range (by rfl) (by intro _; rfl) ?_
      walk_at "wx"
      refine rc_lenL dd (AJ.same.seq (sJ.seq hq)) ?_
      walk_at "wx"
      refine rc_min2 dd ?_
      walk_at "wx"
      have hl : (((ns.map V.int).length : Nat) : Int) ≤ 63 := by
        rw [List.length_map]
        omega
      refine ⟨by split <;> omega, by split <;> omega, fun i σ H' => ∃ (J : Hp) (v2 vtu v5 v6 v7 v8 v9 v10 v11 v12 v13 : Option V), DrawAt J H' p (i * 2000) ∧ Tabs T J ∧ J ps = some (.lst (sumS.map V.str)) ∧ σ = [some (.ref a), some (.ref p), v2, some (.ref ps), vtu, v5, v6, v7, v8, v9, v10, v11, v12, v13, none], ⟨J0, _, _, _, _, _, _, _, _, _, _, _, AJ.mono (by omega), hT.ext sJ, aJ, rfl⟩, ?_, ?_⟩
      · rintro i σ H' hi ⟨J, v2, vtu, v5, v6, v7, v8, v9, v10, v11, v12, v13, A', T', a', rfl⟩
        have hi' : i < 100 := by
          have : (4 + if (((ns.map V.int).length : Nat) : Int) < 20 then (((ns.map V.int).length : Nat) : Int) else 20 : Int) ≤ 24 := by split <;> omega
          omega
        walk_at "wG"
        refine law_turn F d A' (by omega) T' a' fun J' H8 v2 v5 v6 v7 v8 v9 v10 v11 v12 v13 eN T'' A'' => ?_
        exact ⟨J', _, _, _, _, _, _, _, _, _, _, _, A''.mono (by omega), T'', eN _ _ a' (fun _ z => by cases z), rfl⟩
      · rintro σ H' ⟨J, v2, vtu, v5, v6, v7, v8, v9, v10, v11, v12, v13, A', T', a', rfl⟩
        exact law_end F d A' (by split <;> omega) k
end K01

namespace K01
open LamX
/-- a def stands at its name -/
structure DefAt (K : PySem.W.Frag) (x : Str) (st : Stmt) : Prop where
  is : ∃ (f : Addr) (oc : Value) (od : Option Addr) (kV dc pm : Value) (an : Option Addr) (cd ct : Value) (sl : Array (Option Value)), PySem.W.nsIn K mainGlobals x = some (some (.ref f)) ∧
    K.lookup f = some ⟨oc, od, .func (PySem.W.fnOf x x (defArgs st) (defBody st) (defScope st) .none kV dc pm an cd ct), sl⟩ ∧ PySem.W.codeIn K cd x = true ∧ PySem.W.keepIn K (.ref f) = true
theorem at_mk {K : PySem.W.Frag} {x : Str} {st : Stmt} {f : Addr} {oc : Value} {od : Option Addr} {kV dc pm : Value} {an : Option Addr} {cd ct : Value} {sl : Array (Option Value)} (a : PySem.W.nsIn K mainGlobals x = some (some (.ref f)))
    (l : K.lookup f = some ⟨oc, od, .func (PySem.W.fnOf x x (defArgs st) (defBody st) (defScope st) .none kV dc pm an cd ct), sl⟩) (c : PySem.W.codeIn K cd x = true) (k : PySem.W.keepIn K (.ref f) = true) : DefAt K x st :=
  ⟨f, oc, od, kV, dc, pm, an, cd, ct, sl, a, l, c, k⟩
theorem DefAt.top {G : Gb} {x : Str} {st : Stmt} {ps : List Str} {h : Heap} (D : DefAt G.K x st) (X : G.K.In h) (M : h.Ns mainGlobals G.mg)
    (hb : ∀ (kV doc pm : Value) (an : Option Addr) (cdv ct : Value) (us : List Value), us.length = ps.length → bindArgs (PySem.W.fnOf x x (defArgs st) (defBody st) (defScope st) .none kV doc pm an cdv ct) { pos := us } = pure (ps.zip us))
    (pn : ps = (defArgs st).args.map (·.arg)) : Top G x st ps := by
  obtain ⟨f, oc, od, kV, dc, pm, an, cd, ct, sl, a, l, c, k⟩ := D.is
  have F := fun_mk (st := st) l c k
  exact ⟨⟨f, _, PySem.W.mg_of X M a, F, F.binds hb⟩, pn⟩
/-- an error's class stands at its name, below the class at S -/
structure ErrAt (K : PySem.W.Frag) (x : Str) (S C : Addr) : Prop where
  gC : PySem.W.nsIn K mainGlobals x = some (some (.ref C))
  xC : PySem.W.excIn K C [.type "ValueError", .type "Exception", .type "BaseException", .type "object"] "ValueError.__new__" = true
  kC : PySem.W.keepIn K (.ref C) = true
  bC : PySem.W.subIn K (.ref C) (.type "BaseException") = some true
  tC : PySem.W.typeIn K (.ref C) = some (.type "type")
  sC : PySem.W.subIn K (.ref C) (.ref S) = some true
  hg : PySem.W.findIn K (.ref C) "__getattribute__" = some (some (.builtin "BaseException.__getattribute__"))
  hk : PySem.W.findIn K (.ref C) "__getattr__" = some none
  hd : PySem.W.hasDictIn K C = true
  ha : PySem.W.findIn K (.ref C) "__class__" = some (some (.builtin "object.__class__"))
  hn : PySem.W.specialIn K (.builtin "object.__class__") "__get__" = some (some (.builtin "getset_descriptor.__get__"))
  ht : PySem.W.takesIn K (.builtin "object.__class__") = some true
  hm : PySem.W.mroIn K C (.type "object") = some true
theorem ErrAt.exc {K : PySem.W.Frag} {x : Str} {S C : Addr} (e : ErrAt K x S C) : ExcC K C := ⟨e.hg, e.hk, e.bC, e.hd, e.ha, e.hn, e.ht, e.hm⟩
theorem ErrAt.cls {G : Gb} {x : Str} {S C : Addr} {h : Heap} (e : ErrAt G.K x S C) (X : G.K.In h) (M : h.Ns mainGlobals G.mg) : ExC G x C := ⟨PySem.W.mg_of X M e.gC, e.xC, e.kC, e.bC, e.tC⟩
/-- the root of the program's errors -/
structure RootAt (K : PySem.W.Frag) (S : Addr) : Prop where
  gS : PySem.W.nsIn K mainGlobals "SheetError" = some (some (.ref S))
  hd : PySem.W.hasDictIn K S = true
  bS : PySem.W.subIn K (.ref S) (.type "BaseException") = some true
  tS : PySem.W.typeIn K (.ref S) = some (.type "type")
/-- no name of the language is hidden -/
structure BiAt (K : PySem.W.Frag) : Prop where
  z_int : PySem.W.nsIn K mainGlobals "int" = some none
  z_bool : PySem.W.nsIn K mainGlobals "bool" = some none
  z_str : PySem.W.nsIn K mainGlobals "str" = some none
  z_list : PySem.W.nsIn K mainGlobals "list" = some none
  z_tuple : PySem.W.nsIn K mainGlobals "tuple" = some none
  z_set : PySem.W.nsIn K mainGlobals "set" = some none
  z_dict : PySem.W.nsIn K mainGlobals "dict" = some none
  z_type : PySem.W.nsIn K mainGlobals "type" = some none
  z_len : PySem.W.nsIn K mainGlobals "len" = some none
  z_isinstance : PySem.W.nsIn K mainGlobals "isinstance" = some none
  z_abs : PySem.W.nsIn K mainGlobals "abs" = some none
  z_min : PySem.W.nsIn K mainGlobals "min" = some none
  z_max : PySem.W.nsIn K mainGlobals "max" = some none
  z_any : PySem.W.nsIn K mainGlobals "any" = some none
  z_all : PySem.W.nsIn K mainGlobals "all" = some none
  z_sum : PySem.W.nsIn K mainGlobals "sum" = some none
  z_sorted : PySem.W.nsIn K mainGlobals "sorted" = some none
  z_repr : PySem.W.nsIn K mainGlobals "repr" = some none
  z_range : PySem.W.nsIn K mainGlobals "range" = some none
  z_enumerate : PySem.W.nsIn K mainGlobals "enumerate" = some none
  z_zip : PySem.W.nsIn K mainGlobals "zip" = some none
  z_reversed : PySem.W.nsIn K mainGlobals "reversed" = some none
  z_ValueError : PySem.W.nsIn K mainGlobals "ValueError" = some none
theorem BiAt.bi {G : Gb} {h : Heap} (b : BiAt G.K) (X : G.K.In h) (M : h.Ns mainGlobals G.mg) : Bi G.mg where
  b_int := PySem.W.mg_none_of X M b.z_int
  b_bool := PySem.W.mg_none_of X M b.z_bool
  b_str := PySem.W.mg_none_of X M b.z_str
  b_list := PySem.W.mg_none_of X M b.z_list
  b_tuple := PySem.W.mg_none_of X M b.z_tuple
  b_set := PySem.W.mg_none_of X M b.z_set
  b_dict := PySem.W.mg_none_of X M b.z_dict
  b_type := PySem.W.mg_none_of X M b.z_type
  b_len := PySem.W.mg_none_of X M b.z_len
  b_isinstance := PySem.W.mg_none_of X M b.z_isinstance
  b_abs := PySem.W.mg_none_of X M b.z_abs
  b_min := PySem.W.mg_none_of X M b.z_min
  b_max := PySem.W.mg_none_of X M b.z_max
  b_any := PySem.W.mg_none_of X M b.z_any
  b_all := PySem.W.mg_none_of X M b.z_all
  b_sum := PySem.W.mg_none_of X M b.z_sum
  b_sorted := PySem.W.mg_none_of X M b.z_sorted
  b_repr := PySem.W.mg_none_of X M b.z_repr
  b_range := PySem.W.mg_none_of X M b.z_range
  b_enumerate := PySem.W.mg_none_of X M b.z_enumerate
  b_zip := PySem.W.mg_none_of X M b.z_zip
  b_reversed := PySem.W.mg_none_of X M b.z_reversed
  b_ValueError := PySem.W.mg_none_of X M b.z_ValueError
/-- a tuple of texts stands at its name -/
def strsB : List Str → List Value → Bool
  | [], [] => true
  | z :: zs, .str y _ :: us => z == y && strsB zs us
  | _, _ => false
theorem strsB_vals : ∀ {ss : List Str} {us : List Value}, strsB ss us = true → Vals (ss.map V.str) us
  | [], [], _ => .nil
  | [], _ :: _, h => by cases h
  | _ :: _, [], h => by cases h
  | z :: zs, u :: us, h => by
    cases u with
    | str y t =>
      obtain ⟨h1, h2⟩ := Bool.and_eq_true_iff.mp (show (z == y && strsB zs us) = true from h)
      rw [← beq_iff_eq.mp h1]
      exact .cons ⟨t, rfl⟩ (strsB_vals h2)
    | _ => cases h
structure TupAt (K : PySem.W.Frag) (x : Str) (ss : List Str) : Prop where
  is : ∃ (a : Addr) (od : Option Addr) (its : Array Value) (n : Nat) (sl : Array (Option Value)), PySem.W.nsIn K mainGlobals x = some (some (.ref a)) ∧ K.lookup a = some ⟨.type "tuple", od, .seq its n, sl⟩ ∧ (decide (its.size ≤ 1000) && strsB ss its.toList) = true
theorem tupAt_mk {K : PySem.W.Frag} {x : Str} {ss : List Str} {a : Addr} {od : Option Addr} {its : Array Value} {n : Nat} {sl : Array (Option Value)} (h1 : PySem.W.nsIn K mainGlobals x = some (some (.ref a))) (h2 : K.lookup a = some ⟨.type "tuple", od, .seq its n, sl⟩) (h3 : (decide (its.size ≤ 1000) && strsB ss its.toList) = true) : TupAt K x ss := ⟨a, od, its, n, sl, h1, h2, h3⟩
theorem TupAt.tup {G : Gb} {x : Str} {ss : List Str} {h : Heap} (t : TupAt G.K x ss) (X : G.K.In h) (M : h.Ns mainGlobals G.mg) : TupG G x ss := by
  obtain ⟨a, od, its, n, sl, h1, h2, h3⟩ := t.is
  obtain ⟨h4, h5⟩ := Bool.and_eq_true_iff.mp h3
  exact ⟨⟨a, PySem.W.mg_of X M h1, fun H => .inr ⟨_, its, n, h2, rfl, rfl, len_le (Nat.le_trans (of_decide_eq_true h4) (by decide)), strsB_vals h5⟩⟩⟩
/-- an error's class with an __init__ of its own -/
structure OexAt (K : PySem.W.Frag) (x : Str) (st : Stmt) (q : Str) (fs : List Str) (S C : Addr) : Prop where
  gC : PySem.W.nsIn K mainGlobals x = some (some (.ref C))
  T : OexC K C
  init : ∃ (f : Addr) (oc : Value) (od : Option Addr) (kV dc pm : Value) (an : Option Addr) (cd ct : Value) (sl : Array (Option Value)), PySem.W.findIn K (.ref C) "__init__" = some (some (.ref f)) ∧ PySem.W.typeIn K (.ref f) = some (.type "function") ∧
    K.lookup f = some ⟨oc, od, .func (PySem.W.fnOf "__init__" q (defArgs st) (defBody st) (defScope st) .none kV dc pm an cd ct), sl⟩ ∧ PySem.W.codeIn K cd q = true ∧ PySem.W.keepIn K (.ref f) = true
  no : PlainF K C fs
  x : ExcC K C
  sC : PySem.W.subIn K (.ref C) (.ref S) = some true
theorem exc_mk {K : PySem.W.Frag} {C : Addr} (hg : PySem.W.findIn K (.ref C) "__getattribute__" = some (some (.builtin "BaseException.__getattribute__"))) (hk : PySem.W.findIn K (.ref C) "__getattr__" = some none) (hs : PySem.W.subIn K (.ref C) (.type "BaseException") = some true) (hd : PySem.W.hasDictIn K C = true) (ha : PySem.W.findIn K (.ref C) "__class__" = some (some (.builtin "object.__class__")))
    (hn : PySem.W.specialIn K (.builtin "object.__class__") "__get__" = some (some (.builtin "getset_descriptor.__get__"))) (ht : PySem.W.takesIn K (.builtin "object.__class__") = some true) (hm : PySem.W.mroIn K C (.type "object") = some true) : ExcC K C := ⟨hg, hk, hs, hd, ha, hn, ht, hm⟩
theorem oex_mk {K : PySem.W.Frag} {C : Addr} {nm q N bs bm sn sub ab col dd k0 k1 k2 k3 k5} (l : K.lookup C = some (excClassObj nm q C N bs bm true sn sub ab col dd k0 k1 k2 k3 k5 "ValueError.__new__")) (r : PySem.HandSPX.refsVE bm = true)
    (sa : PySem.W.findIn K (.ref C) "__setattr__" = some (some (.builtin "object.__setattr__"))) (e : PySem.W.subIn K (.ref C) (.type "BaseException") = some true) (t : PySem.W.typeIn K (.ref C) = some (.type "type")) (k : PySem.W.keepIn K (.ref C) = true) : OexC K C :=
  ⟨⟨_, _, _, _, _, _, _, _, _, _, _, _, _, _, _, l, r⟩, sa, e, t, k⟩
theorem oexAt_mk {K : PySem.W.Frag} {x : Str} {st : Stmt} {q : Str} {fs : List Str} {S C f : Addr} {oc : Value} {od : Option Addr} {kV dc pm : Value} {an : Option Addr} {cd ct : Value} {sl : Array (Option Value)} (g : PySem.W.nsIn K mainGlobals x = some (some (.ref C))) (T : OexC K C)
    (i1 : PySem.W.findIn K (.ref C) "__init__" = some (some (.ref f))) (i2 : PySem.W.typeIn K (.ref f) = some (.type "function")) (i3 : K.lookup f = some ⟨oc, od, .func (PySem.W.fnOf "__init__" q (defArgs st) (defBody st) (defScope st) .none kV dc pm an cd ct), sl⟩)
    (i4 : PySem.W.codeIn K cd q = true) (i5 : PySem.W.keepIn K (.ref f) = true) (no : PlainF K C fs) (xx : ExcC K C) (s : PySem.W.subIn K (.ref C) (.ref S) = some true) : OexAt K x st q fs S C := ⟨g, T, ⟨f, oc, od, kV, dc, pm, an, cd, ct, sl, i1, i2, i3, i4, i5⟩, no, xx, s⟩
theorem plain3 {K : PySem.W.Frag} {C : Addr} {a b c : Str} (h1 : PySem.W.findIn K (.ref C) a = some none) (h2 : PySem.W.findIn K (.ref C) b = some none) (h3 : PySem.W.findIn K (.ref C) c = some none) : PlainF K C [a, b, c] := ⟨fun f hf => by
  simp only [List.mem_cons, List.not_mem_nil, or_false] at hf
  rcases hf with rfl | rfl | rfl
  · exact h1
  · exact h2
  · exact h3⟩
theorem OexAt.oxc {G : Gb} {S C : Addr} {h : Heap} (e : OexAt G.K "BadText" initSt "BadText.__init__" ["line", "column", "wanted"] S C) (X : G.K.In h) (M : h.Ns mainGlobals G.mg) : OxC G "BadText" C 4 1 (spInit G.K C) := by
  obtain ⟨f, oc, od, kV, dc, pm, an, cd, ct, sl, i1, i2, i3, i4, i5⟩ := e.init
  have F : Fun G.K "__init__" "BadText.__init__" initSt f _ := fun_mk i3 i4 i5
  exact ⟨PySem.W.mg_of X M e.gC, e.T, f, _, nInit, i1, i2, fn_init e.T e.no F, F.binds fun _ _ _ _ _ _ us hl => match us, hl with | [_, _, _, _], _ => rfl⟩
theorem kit_val {K : PySem.W.Frag} {C : Addr} (h : PySem.W.subIn K (.ref C) (.type "ValueError") = some true) : PySem.W.kitOne K (.ref C) (.type "ValueError") = some true := by
  unfold PySem.W.kitOne PySem.W.kitCls
  rw [if_neg (by intro z; cases (beq_iff_eq.mp z))]
  exact h
def er_mk {G : Gb} {S c1 c2 : Addr} {h : Heap} (X : G.K.In h) (M : h.Ns mainGlobals G.mg) (R : RootAt G.K S) (e1 : OexAt G.K "BadText" initSt "BadText.__init__" ["line", "column", "wanted"] S c1) (e2 : ErrAt G.K "BadWord" S c2) (v2 : PySem.W.subIn G.K (.ref c2) (.type "ValueError") = some true) : Er G where
  S := S
  cT := c1
  cW := c2
  eS := PySem.W.mg_of X M R.gS
  eT := e1.oxc X M
  eW := e2.cls X M
  mT := PySem.W.exm_ref R.bS R.hd R.tS e1.sC
  mW := PySem.W.exm_ref R.bS R.hd R.tS e2.sC
  xT := e1.x
  xW := e2.exc
  pT := e1.no
  vW := kit_val v2
/-- what the text's top has written -/
structure AllAt (K : PySem.W.Frag) : Prop where
  b : BiAt K
  h9 : DefAt K "is_name" (top 9)
  h10 : DefAt K "sort_of" (top 10)
  h11 : DefAt K "known_sort" (top 11)
  h12 : DefAt K "is_number_word" (top 12)
  h13 : DefAt K "is_text" (top 13)
  h14 : DefAt K "split_words" (top 14)
  h15 : DefAt K "word_end" (top 15)
  h16 : DefAt K "inner_end" (top 16)
  h17 : DefAt K "is_inner" (top 17)
  h18 : DefAt K "is_small" (top 18)
  h19 : DefAt K "is_figure" (top 19)
  h21 : DefAt K "words_of" (top 21)
  h23 : DefAt K "_law_begun" (top 23)
  h24 : DefAt K "_law_mixed" (top 24)
  h25 : DefAt K "_law_take" (top 25)
  h26 : DefAt K "_law_pick" (top 26)
  h27 : DefAt K "_law_caught" (top 27)
  h28 : DefAt K "_law_kept" (top 28)
  h29 : DefAt K "_law_is_small" (top 29)
  h30 : DefAt K "_law_is_name" (top 30)
  h31 : DefAt K "_law_sort" (top 31)
  h32 : DefAt K "_law_signs" (top 32)
  h33 : DefAt K "_law_inner" (top 33)
  h34 : DefAt K "_law_word_at" (top 34)
  h35 : DefAt K "_law_cut" (top 35)
  h36 : DefAt K "_law_any_name" (top 36)
  h37 : DefAt K "_law_refused_right" (top 37)
  h38 : DefAt K "law" (top 38)
  t5 : TupAt K "KEPT" keptS
  t6 : TupAt K "UNWRITTEN" unwS
  t7 : TupAt K "SIGNS" signsS
  t8 : TupAt K "PAIRED" ["<=", "=="]
theorem law_all {G : Gb} {h : Heap} {S c1 c2 c P : Addr} (X : G.K.In h) (M : h.Ns mainGlobals G.mg) (A : AllAt G.K) (R : RootAt G.K S) (e1 : OexAt G.K "BadText" initSt "BadText.__init__" ["line", "column", "wanted"] S c1) (e2 : ErrAt G.K "BadWord" S c2) (v2 : PySem.W.subIn G.K (.ref c2) (.type "ValueError") = some true)
    (L : LamAt G.K "_law_refused_right" c P) (TB : TabB G.base G.mg c P) : FnR G "law" 1 11 (spLaw G.K [(P, qLam)]) := by
  have b := A.b.bi X M
  have e := er_mk X M R e1 e2 v2
  have T9 : Top G "is_name" (top 9) ["thing"] := A.h9.top X M (fun _ _ _ _ _ _ us hl => match us, hl with | [_], _ => rfl) rfl
  have T10 : Top G "sort_of" (top 10) ["word"] := A.h10.top X M (fun _ _ _ _ _ _ us hl => match us, hl with | [_], _ => rfl) rfl
  have T11 : Top G "known_sort" (top 11) ["word"] := A.h11.top X M (fun _ _ _ _ _ _ us hl => match us, hl with | [_], _ => rfl) rfl
  have T12 : Top G "is_number_word" (top 12) ["word"] := A.h12.top X M (fun _ _ _ _ _ _ us hl => match us, hl with | [_], _ => rfl) rfl
  have T13 : Top G "is_text" (top 13) ["thing"] := A.h13.top X M (fun _ _ _ _ _ _ us hl => match us, hl with | [_], _ => rfl) rfl
  have T14 : Top G "split_words" (top 14) ["text"] := A.h14.top X M (fun _ _ _ _ _ _ us hl => match us, hl with | [_], _ => rfl) rfl
  have T15 : Top G "word_end" (top 15) ["text", "at"] := A.h15.top X M (fun _ _ _ _ _ _ us hl => match us, hl with | [_, _], _ => rfl) rfl
  have T16 : Top G "inner_end" (top 16) ["text", "at"] := A.h16.top X M (fun _ _ _ _ _ _ us hl => match us, hl with | [_, _], _ => rfl) rfl
  have T17 : Top G "is_inner" (top 17) ["sign"] := A.h17.top X M (fun _ _ _ _ _ _ us hl => match us, hl with | [_], _ => rfl) rfl
  have T18 : Top G "is_small" (top 18) ["sign"] := A.h18.top X M (fun _ _ _ _ _ _ us hl => match us, hl with | [_], _ => rfl) rfl
  have T19 : Top G "is_figure" (top 19) ["sign"] := A.h19.top X M (fun _ _ _ _ _ _ us hl => match us, hl with | [_], _ => rfl) rfl
  have T21 : Top G "words_of" (top 21) ["text"] := A.h21.top X M (fun _ _ _ _ _ _ us hl => match us, hl with | [_], _ => rfl) rfl
  have T23 : Top G "_law_begun" (top 23) ["script"] := A.h23.top X M (fun _ _ _ _ _ _ us hl => match us, hl with | [_], _ => rfl) rfl
  have T24 : Top G "_law_mixed" (top 24) ["draw"] := A.h24.top X M (fun _ _ _ _ _ _ us hl => match us, hl with | [_], _ => rfl) rfl
  have T25 : Top G "_law_take" (top 25) ["draw", "many"] := A.h25.top X M (fun _ _ _ _ _ _ us hl => match us, hl with | [_, _], _ => rfl) rfl
  have T26 : Top G "_law_pick" (top 26) ["draw", "some"] := A.h26.top X M (fun _ _ _ _ _ _ us hl => match us, hl with | [_, _], _ => rfl) rfl
  have T27 : Top G "_law_caught" (top 27) ["work"] := A.h27.top X M (fun _ _ _ _ _ _ us hl => match us, hl with | [_], _ => rfl) rfl
  have T28 : Top G "_law_kept" (top 28) [] := A.h28.top X M (fun _ _ _ _ _ _ us hl => match us, hl with | [], _ => rfl) rfl
  have T29 : Top G "_law_is_small" (top 29) ["word"] := A.h29.top X M (fun _ _ _ _ _ _ us hl => match us, hl with | [_], _ => rfl) rfl
  have T30 : Top G "_law_is_name" (top 30) ["matter"] := A.h30.top X M (fun _ _ _ _ _ _ us hl => match us, hl with | [_], _ => rfl) rfl
  have T31 : Top G "_law_sort" (top 31) ["word"] := A.h31.top X M (fun _ _ _ _ _ _ us hl => match us, hl with | [_], _ => rfl) rfl
  have T32 : Top G "_law_signs" (top 32) [] := A.h32.top X M (fun _ _ _ _ _ _ us hl => match us, hl with | [], _ => rfl) rfl
  have T33 : Top G "_law_inner" (top 33) ["sign"] := A.h33.top X M (fun _ _ _ _ _ _ us hl => match us, hl with | [_], _ => rfl) rfl
  have T34 : Top G "_law_word_at" (top 34) ["text", "at"] := A.h34.top X M (fun _ _ _ _ _ _ us hl => match us, hl with | [_, _], _ => rfl) rfl
  have T35 : Top G "_law_cut" (top 35) ["text"] := A.h35.top X M (fun _ _ _ _ _ _ us hl => match us, hl with | [_], _ => rfl) rfl
  have T36 : Top G "_law_any_name" (top 36) ["draw"] := A.h36.top X M (fun _ _ _ _ _ _ us hl => match us, hl with | [_], _ => rfl) rfl
  have T37 : Top G "_law_refused_right" (top 37) ["draw", "words"] := A.h37.top X M (fun _ _ _ _ _ _ us hl => match us, hl with | [_, _], _ => rfl) rfl
  have T38 : Top G "law" (top 38) ["script"] := A.h38.top X M (fun _ _ _ _ _ _ us hl => match us, hl with | [_], _ => rfl) rfl
  have PK := A.t5.tup X M
  have FSm := fn_small T18
  have FFi := fn_figure T19
  have FIn := fn_inner FSm FFi T17
  have FIe := fn_iend FIn b T16
  have FWe := fn_wend FIn FFi FIe (A.t8.tup X M) T15
  have FSp := fn_split b FWe T14
  have FTe := fn_text b T13
  have FNw := fn_numw b FFi T12
  have FNa := fn_name b FSm PK T9
  have FKn := fn_known b FNa FNw (A.t7.tup X M) PK (A.t6.tup X M) T11
  have FSo := fn_sort b e.eW FTe FSp FKn T10
  have FWo := fn_words b e.eT FTe FSp T21
  have FM := fn_mixed b T24
  have FT := fn_take b FM T25
  have FP := fn_pick b FT T26
  have FKe := fn_kept T28
  have FLs := fn_lsmall b T29
  have FLn := fn_lname b FKe FLs T30
  have FLo := fn_lsort b FKe FLn T31
  have FLi := fn_linner T33
  have FLw := fn_wordat b FLi T34
  have FLc := fn_cut b FLw T35
  have FR := fn_refr (e := e) ⟨b, FP, FWo, FSo, FLc, k_words T21 FWo, T27⟩ (fun f fd hf F => L.code X M hf F) TB rfl T37
  exact fn_law (e := e) ⟨b, fn_begun b T23, FT, FP, FKe, FNa, FSo, FLo, FLn, fn_signs T32, fn_anyname b FT FP T36, FLc, FWo, FR, k_words T21 FWo, k_sort T10 FSo, k_name T9 FNa, PK⟩ T38
theorem all_mk {l : PySem.W.OpenLaw} {w : World} {K : PySem.W.Frag} {h : Heap} {mg : Str → Option Value} {fa S c1 c2 c P : Addr} (X : K.In h) (M : h.Ns mainGlobals mg) (hfa : mg "law" = some (.ref fa)) (A : AllAt K) (R : RootAt K S) (e1 : OexAt K "BadText" initSt "BadText.__init__" ["line", "column", "wanted"] S c1) (e2 : ErrAt K "BadWord" S c2) (v2 : PySem.W.subIn K (.ref c2) (.type "ValueError") = some true)
    (L : LamAt K "_law_refused_right" c P) :
    ∃ (fd : FuncData) (c P : Addr), LamAt K "_law_refused_right" c P ∧ (∀ (s : Shared) (v : Value), BindsTo s fd ⟨[v], []⟩ [("script", v)]) ∧ ∀ base : Heap, K.In base → base.Ns mainGlobals mg → TabB base mg c P → FnG l.prog w K mg base 11 fa fd ["script"] (spLaw K [(P, qLam)]) := by
  obtain ⟨f, oc, od, kV, dc, pm, an, cd, ct, sl, a, lk, cc, k⟩ := A.h38.is
  have ef := hfa.symm.trans (PySem.W.mg_of X M a)
  cases ef
  refine ⟨PySem.W.fnOf "law" "law" (defArgs (top 38)) (defBody (top 38)) (defScope (top 38)) .none kV dc pm an cd ct, c, P, L, fun s v => .of_eq rfl, fun base X' M' TB => ?_⟩
  obtain ⟨f', fd', ps', h1, kp, ok, _, _, ep, st', F2⟩ := (law_all (G := ⟨l.prog, w, K, mg, base⟩) (h := base) X' M' A R e1 e2 v2 L TB).is
  have F1 := fun_mk (st := top 38) lk cc k
  have ef := hfa.symm.trans h1
  injection ef with ef
  injection ef with ef
  subst ef
  have e3 := fun_one F1 F2
  subst e3
  have e4 : ps' = [("script" : Str)] := ep
  subst e4
  exact ok
theorem walk {l : PySem.W.OpenLaw} {q : Program} {loose : List Str} {XP : (Str → Option Value) → Heap → Prop} {YP : World → Heap → Prop} {d : DefRec} {K : Params → PySem.W.Frag} (hn : l.most = some 63) (hdf : d.params.defaults = []) (hrec : ((PyProof.Rows.recsOf q).any fun e => e.name == "_law_refused_right") = true)
    (hY : ∀ (w : World) (h : Heap), YP w h → (K w.params).In h)
    (F : ∀ (w : World) (mg : Str → Option Value) (fa : Addr) (h : Heap), (K w.params).In h → h.Ns mainGlobals mg → mg d.name = some (.ref fa) →
      ∃ (fd : FuncData) (c P : Addr), LamAt (K w.params) "_law_refused_right" c P ∧ (∀ (s : Shared) (u : Value), BindsTo s fd ⟨[u], []⟩ [("script", u)]) ∧ ∀ base : Heap, (K w.params).In base → base.Ns mainGlobals mg → TabB base mg c P → FnG l.prog w (K w.params) mg base 11 fa fd ["script"] (spLaw (K w.params) [(P, qLam)])) :
    PySem.W.WalkO q loose XP YP l.row.toRowW d [] (fun f vs => PySem.call f vs) := by
  refine Att.attach_callB hn hdf fun w s₀ s₁ mg mb fa o pm cd doc a vs ns G Y ho hd hcd hmg hobj hints hlen hbits hg => ?_
  have KX := hY w _ Y
  obtain ⟨fd, c, P, L, hb, hF⟩ := F w mg fa _ KX G.T.g hmg
  refine law_run (cs := [(c, P)]) (k := 11) KX G.T.g G.T.b G.T.builtins G.T.nolimit hg (fun p hp => ?_) (fun p hp => ?_) (fun p hp => ?_) G.T.bmain hobj hints (Nat.le_trans hlen (by decide)) ⟨rfl, by decide, by decide⟩ (fun base X' M' TB => hF base X' M' (TB _ (List.mem_singleton.mpr rfl))) hb (fun H hH hS => ⟨a, ns, rfl, hS, hlen, fun p hp => ?_, fun _ => rfl⟩) fun H e s' h => ?_
  · rw [List.mem_singleton.mp hp]
    exact L.tab KX G.T hrec
  · rw [List.mem_singleton.mp hp]
    exact L.nP
  · rw [List.mem_singleton.mp hp]
    exact PySem.W.codeHd_of_K KX L.hd
  · rw [List.mem_singleton.mp hp]
    exact TabS.nil (hH _ (List.mem_singleton.mpr rfl))
  · obtain ⟨_, _, _, _, _, _, _, _, _, _, _, _, z⟩ := h
    exact z
end K01

end

open PySem PySem.W PyProof.Rows in
set_option maxRecDepth 100000 in
set_option maxHeartbeats 0 in
theorem PySem.Challenge.cw_whysheets_k01_words_of_texts_holds : PySem.Challenge.rw_whysheets_k01_words_of_texts.Holds := by
  w_on; o_law; k_head; (case hw => w_witness2)
  k_fill
  refine K01.walk (l := PySem.Challenge.rw_whysheets_k01_words_of_texts) rfl rfl (by decide +kernel) (fun w h Y => by first | exact PySem.W.km_in_of Y | exact PySem.W.kIn_of Y) ?F
  case F =>
    intro w mg fa h KX G hmg
    refine' K01.all_mk KX G hmg ?A ?R ?e1 ?e2 ?v2 ?L
    (case R => (refine' K01.RootAt.mk ?gS ?hd ?bS ?tS; (case gS => k_is); (case hd => k_is); (case bS => k_is); (case tS => k_is)))
    (case e1 =>
      refine' K01.oexAt_mk ?g ?T ?i1 ?i2 ?i3 ?i4 ?i5 ?no ?xx ?s
      (case g => k_is)
      (case T => (refine' K01.oex_mk ?l ?r ?sa ?e ?t ?k; (case l => k_is); (case r => rfl); (case sa => k_is); (case e => k_is); (case t => k_is); (case k => k_is)))
      (case i1 => k_is); (case i2 => k_is); (case i3 => k_is); (case i4 => k_is); (case i5 => k_is)
      (case no => (refine' K01.plain3 ?a ?b ?c; (case a => k_is); (case b => k_is); (case c => k_is)))
      (case xx => (refine' K01.exc_mk ?hg ?hk ?hs ?hd ?ha ?hn ?ht ?hm; (case hg => k_is); (case hk => k_is); (case hs => k_is); (case hd => k_is); (case ha => k_is); (case hn => k_is); (case ht => k_is); (case hm => k_is)))
      (case s => k_is))
    (case e2 => (refine' K01.ErrAt.mk ?gC ?xC ?kC ?bC ?tC ?sC ?hg ?hk ?hd ?ha ?hn ?ht ?hm; (case gC => k_is); (case xC => k_exc); (case kC => k_is); (case bC => k_is); (case tC => k_is); (case sC => k_is); (case hg => k_is); (case hk => k_is); (case hd => k_is); (case ha => k_is); (case hn => k_is); (case ht => k_is); (case hm => k_is)))
    (case v2 => k_is)
    (case L => (refine' Wx.lamAt_mk ?h1 ?h2 ?h3 ?h4 ?h5 ?h6 ?h7 ?h8; (case h1 => k_is); (case h2 => k_is); (case h3 => rfl); (case h4 => rfl); (case h5 => k_is); (case h6 => rfl); (case h7 => kernel_rfl); (case h8 => kernel_rfl)))
    case A =>
      refine' K01.AllAt.mk ?b ?h9 ?h10 ?h11 ?h12 ?h13 ?h14 ?h15 ?h16 ?h17 ?h18 ?h19 ?h21 ?h23 ?h24 ?h25 ?h26 ?h27 ?h28 ?h29 ?h30 ?h31 ?h32 ?h33 ?h34 ?h35 ?h36 ?h37 ?h38 ?t5 ?t6 ?t7 ?t8
      (case b => (refine' K01.BiAt.mk ?zint ?zbool ?zstr ?zlist ?ztuple ?zset ?zdict ?ztype ?zlen ?zisinstance ?zabs ?zmin ?zmax ?zany ?zall ?zsum ?zsorted ?zrepr ?zrange ?zenumerate ?zzip ?zreversed ?zValueError; (case zint => k_is); (case zbool => k_is); (case zstr => k_is); (case zlist => k_is); (case ztuple => k_is); (case zset => k_is); (case zdict => k_is); (case ztype => k_is); (case zlen => k_is); (case zisinstance => k_is); (case zabs => k_is); (case zmin => k_is); (case zmax => k_is); (case zany => k_is); (case zall => k_is); (case zsum => k_is); (case zsorted => k_is); (case zrepr => k_is); (case zrange => k_is); (case zenumerate => k_is); (case zzip => k_is); (case zreversed => k_is); (case zValueError => k_is)))
      (case h9 => (refine' K01.at_mk ?a ?l ?c ?k; (case a => k_is); (case l => k_is); (case c => k_is); (case k => k_is)))
      (case h10 => (refine' K01.at_mk ?a ?l ?c ?k; (case a => k_is); (case l => k_is); (case c => k_is); (case k => k_is)))
      (case h11 => (refine' K01.at_mk ?a ?l ?c ?k; (case a => k_is); (case l => k_is); (case c => k_is); (case k => k_is)))
      (case h12 => (refine' K01.at_mk ?a ?l ?c ?k; (case a => k_is); (case l => k_is); (case c => k_is); (case k => k_is)))
      (case h13 => (refine' K01.at_mk ?a ?l ?c ?k; (case a => k_is); (case l => k_is); (case c => k_is); (case k => k_is)))
      (case h14 => (refine' K01.at_mk ?a ?l ?c ?k; (case a => k_is); (case l => k_is); (case c => k_is); (case k => k_is)))
      (case h15 => (refine' K01.at_mk ?a ?l ?c ?k; (case a => k_is); (case l => k_is); (case c => k_is); (case k => k_is)))
      (case h16 => (refine' K01.at_mk ?a ?l ?c ?k; (case a => k_is); (case l => k_is); (case c => k_is); (case k => k_is)))
      (case h17 => (refine' K01.at_mk ?a ?l ?c ?k; (case a => k_is); (case l => k_is); (case c => k_is); (case k => k_is)))
      (case h18 => (refine' K01.at_mk ?a ?l ?c ?k; (case a => k_is); (case l => k_is); (case c => k_is); (case k => k_is)))
      (case h19 => (refine' K01.at_mk ?a ?l ?c ?k; (case a => k_is); (case l => k_is); (case c => k_is); (case k => k_is)))
      (case h21 => (refine' K01.at_mk ?a ?l ?c ?k; (case a => k_is); (case l => k_is); (case c => k_is); (case k => k_is)))
      (case h23 => (refine' K01.at_mk ?a ?l ?c ?k; (case a => k_is); (case l => k_is); (case c => k_is); (case k => k_is)))
      (case h24 => (refine' K01.at_mk ?a ?l ?c ?k; (case a => k_is); (case l => k_is); (case c => k_is); (case k => k_is)))
      (case h25 => (refine' K01.at_mk ?a ?l ?c ?k; (case a => k_is); (case l => k_is); (case c => k_is); (case k => k_is)))
      (case h26 => (refine' K01.at_mk ?a ?l ?c ?k; (case a => k_is); (case l => k_is); (case c => k_is); (case k => k_is)))
      (case h27 => (refine' K01.at_mk ?a ?l ?c ?k; (case a => k_is); (case l => k_is); (case c => k_is); (case k => k_is)))
      (case h28 => (refine' K01.at_mk ?a ?l ?c ?k; (case a => k_is); (case l => k_is); (case c => k_is); (case k => k_is)))
      (case h29 => (refine' K01.at_mk ?a ?l ?c ?k; (case a => k_is); (case l => k_is); (case c => k_is); (case k => k_is)))
      (case h30 => (refine' K01.at_mk ?a ?l ?c ?k; (case a => k_is); (case l => k_is); (case c => k_is); (case k => k_is)))
      (case h31 => (refine' K01.at_mk ?a ?l ?c ?k; (case a => k_is); (case l => k_is); (case c => k_is); (case k => k_is)))
      (case h32 => (refine' K01.at_mk ?a ?l ?c ?k; (case a => k_is); (case l => k_is); (case c => k_is); (case k => k_is)))
      (case h33 => (refine' K01.at_mk ?a ?l ?c ?k; (case a => k_is); (case l => k_is); (case c => k_is); (case k => k_is)))
      (case h34 => (refine' K01.at_mk ?a ?l ?c ?k; (case a => k_is); (case l => k_is); (case c => k_is); (case k => k_is)))
      (case h35 => (refine' K01.at_mk ?a ?l ?c ?k; (case a => k_is); (case l => k_is); (case c => k_is); (case k => k_is)))
      (case h36 => (refine' K01.at_mk ?a ?l ?c ?k; (case a => k_is); (case l => k_is); (case c => k_is); (case k => k_is)))
      (case h37 => (refine' K01.at_mk ?a ?l ?c ?k; (case a => k_is); (case l => k_is); (case c => k_is); (case k => k_is)))
      (case h38 => (refine' K01.at_mk ?a ?l ?c ?k; (case a => k_is); (case l => k_is); (case c => k_is); (case k => k_is)))
      (case t5 => (refine' K01.tupAt_mk ?a ?l ?k; (case a => k_is); (case l => k_is); (case k => rfl)))
      (case t6 => (refine' K01.tupAt_mk ?a ?l ?k; (case a => k_is); (case l => k_is); (case k => rfl)))
      (case t7 => (refine' K01.tupAt_mk ?a ?l ?k; (case a => k_is); (case l => k_is); (case k => rfl)))
      (case t8 => (refine' K01.tupAt_mk ?a ?l ?k; (case a => k_is); (case l => k_is); (case k => rfl)))
