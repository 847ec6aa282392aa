import PyProof.Rows.All
import Wide.All
import OpenK.AllK
import Wide.FinOn
import PyProof.EqAt
import PyProof.EqKinds
import PyProof.TupleCall
import HandS.ForMost
import HandS.ForExc
import HandS.IsInst
import HandS.Flow
import HandS.More
import HandS.ExcIs
import HandS.Defaults
import HandS.Wide
import HandS.Conv
import HandS.Lambda
import HandS.EndTab
import KE.KNestM
import HandS.Text
import HandS.TupLe
import HandS.RaiseMore
import HandS.ExcInit
import HandS.SortInts
import KE.KExcIs
import HandS.Iter
import KE.GoesMore
import HandS.TupAny
import HandS.Deep
import HandS.CallLocal
import HandS.Small
import HandS.Style
import PySem.Challenge.RW_whysheets_k02_trees_judged
set_option Elab.async false
set_option linter.all false
set_option maxRecDepth 100000
set_option maxHeartbeats 4000000
/-! A weakest-wish reading of the hand layer: what an expression, a test, a statement must show, said of the syntax itself; the rule of an operator is chosen by the values that are met. -/
namespace Wx
open PySem L2

def WE (X : Cx) (e : Expr) (σ : L2.St) (H : Hp) (Q : VK) : Prop :=
  ∀ (pins : List (Addr × Obj)) (s : Shared), Inv X pins σ H s → wpAny (model X.prog X.w) X.A (eval e X.env) (EP X pins σ Q) X.xe s
def WT (X : Cx) (e : Expr) (σ : L2.St) (H : Hp) (Q : Bool → Hp → Prop) : Prop :=
  ∀ (pins : List (Addr × Obj)) (s : Shared), Inv X pins σ H s → wpAny (model X.prog X.w) X.A (isTrue e X.env (eval e X.env)) (TP X pins σ Q) X.xe s
def WW (X : Cx) (e : Expr) (σ : L2.St) (H : Hp) (Q : Bool → Hp → Prop) : Prop :=
  ∀ (whole : Sem Value) (pins : List (Addr × Obj)) (s : Shared), Inv X pins σ H s → wpAny (model X.prog X.w) X.A (isTrue e X.env whole) (TP X pins σ Q) X.xe s
def WA (X : Cx) (es : List Expr) (σ : L2.St) (H : Hp) (Q : List V → Hp → Prop) : Prop :=
  ∀ (pos : Pos) (pins : List (Addr × Obj)) (s : Shared), Inv X pins σ H s → wpAny (model X.prog X.w) X.A (spliced (backTo pos (starEach es X.env))) (AP X pins σ Q) X.xe s
def WK (X : Cx) (ks : List Keyword) (σ : L2.St) (H : Hp) (Q : List V → Hp → Prop) : Prop :=
  ∀ (pos : Pos) (pins : List (Addr × Obj)) (s : Shared), Inv X pins σ H s → wpAny (model X.prog X.w) X.A (evalAll ((backToKw pos (keywordEach ks X.env)).map (·.2))) (AP X pins σ Q) X.xe s
def WS (X : Cx) (st : Stmt) (D : Ends) (σ : L2.St) (H : Hp) : Prop :=
  ∀ (pins : List (Addr × Obj)) (s : Shared), Inv X pins σ H s → wpAny (model X.prog X.w) X.A (exec st X.env) (SP X pins D) X.xe s
def WB (X : Cx) (sts : List Stmt) (D : Ends) (σ : L2.St) (H : Hp) : Prop :=
  ∀ (pins : List (Addr × Obj)) (s : Shared), Inv X pins σ H s → wpAny (model X.prog X.w) X.A (execs sts X.env) (SP X pins D) X.xe s

section
variable {X : Cx} {e a b c : Expr} {es : List Expr} {st : Stmt} {sts rest : List Stmt} {σ : L2.St} {H : Hp} {Q : VK} {QT : Bool → Hp → Prop} {QA : List V → Hp → Prop} {D : Ends} {pos p : Pos} {x : Str} {v : V}
theorem pe_we : PE X e (WE X e) := ⟨fun pins s σ H Q I h => h pins s I⟩
theorem pt_wt : PT X e (WT X e) := ⟨fun pins s σ H Q I h => h pins s I⟩
theorem pw_ww : PW X e (WW X e) := ⟨fun wh pins s σ H Q I h => h wh pins s I⟩
theorem pa_wa : PA X es (WA X es) := ⟨fun pos pins s σ H Q I h => h pos pins s I⟩
theorem pk_wk {ks : List Keyword} : PK X ks (WK X ks) := ⟨fun pos pins s σ H Q I h => h pos pins s I⟩
theorem ps_ws : PS X st (WS X st) := ⟨fun pins s σ H D I h => h pins s I⟩
theorem pss_wb : PSs X sts (WB X sts) := ⟨fun pins s σ H D I h => h pins s I⟩
theorem we_of {t : TE} (h : PE X e t) (q : t σ H Q) : WE X e σ H Q := fun pins s I => h.run pins s σ H Q I q
theorem wt_of {t : TT} (h : PT X e t) (q : t σ H QT) : WT X e σ H QT := fun pins s I => h.run pins s σ H QT I q
theorem ww_of {t : TT} (h : PW X e t) (q : t σ H QT) : WW X e σ H QT := fun wh pins s I => h.run wh pins s σ H QT I q
theorem wa_of {t : TA} (h : PA X es t) (q : t σ H QA) : WA X es σ H QA := fun pos pins s I => h.run pos pins s σ H QA I q
theorem wk_of {ks : List Keyword} {t : TA} (h : PK X ks t) (q : t σ H QA) : WK X ks σ H QA := fun pos pins s I => h.run pos pins s σ H QA I q
theorem ws_of {t : TS} (h : PS X st t) (q : t D σ H) : WS X st D σ H := fun pins s I => h.run pins s σ H D I q
theorem wb_of {t : TS} (h : PSs X sts t) (q : t D σ H) : WB X sts D σ H := fun pins s I => h.run pins s σ H D I q

/-! ### names and constants -/
def visB (sc : Scope) (x : Str) : Bool := match sc.names.lookup x with | some .local => true | some .cell => true | some .free => true | _ => false
theorem vis_of {sc : Scope} (h : visB sc x = true) : Vis sc x := by
  unfold visB at h
  unfold Vis
  split at h
  · exact .inl (by assumption)
  · exact .inr (.inl (by assumption))
  · exact .inr (.inr (by assumption))
  · cases h
def locB (sc : Scope) (x : Str) : Bool := match sc.names.lookup x with | some .local => true | _ => false
theorem loc_of {sc : Scope} (h : locB sc x = true) : sc.names.lookup x = some .local := by
  unfold locB at h
  split at h
  · assumption
  · cases h
def glB (sc : Scope) (x : Str) : Bool := match sc.names.lookup x with | some .globalImplicit => true | _ => false
/-- what the program's top has left, of which every def's body speaks -/
structure Gb where
  prog : Program
  w : World
  K : PySem.W.Frag
  mg : Str → Option Value
  base : Heap
/-- what the walk knows of the def (or the block of a comprehension) whose body runs -/
structure Def (X : Cx) (G : Gb) (N : List Str) (sc : Scope) (k : Nat) : Prop where
  prog : X.prog = G.prog
  w : X.w = G.w
  K : X.K = G.K
  mg : X.mg = G.mg
  base : X.base = G.base
  n : X.N = N
  sc : X.env.scope = sc
  nd : N.Nodup
  calm : X.calm = true
  room : Room k X.A
/-- the same of a def's own frame: W is what is wanted of an exception that leaves it -/
structure Fr (X : Cx) (G : Gb) (N : List Str) (sc : Scope) (k : Nat) (W : WX) : Prop extends Def X G N sc k where
  fn : ∀ x, X.fn x = true
  own : PassesOwn (model X.prog X.w) X.A X.env X.xe
  tk : Takes X W
  stk : X.stack = X.env :: X.outer
  frm : X.env.frame = some X.env.locals
  ex : X.ex = []
variable {G : Gb} {N : List Str} {sc : Scope} {k : Nat} {W : WX}
theorem Def.gl (d : Def X G N sc k) (h : glB sc x = true) : Gl X x := by
  unfold Gl Env.kindOf
  rw [d.sc]
  unfold glB at h
  split at h
  · assumption
  · cases h
theorem Def.hu (d : Def X G N sc k) : X.A.units + 1 < cLine := hu_of d.room
theorem we_name (d : Def X G N sc k) (i : Nat) (h1 : N[i]? = some x) (h2 : visB sc x = true) (h3 : σ[i]? = some (some v)) (q : Q v H) (hd : (x == ("__debug__" : Str)) = false := by decide +kernel) (hc : (x == ("__classdict__" : Str)) = false := by decide +kernel) :
    WE X (.Name x pos) σ H Q := we_of (pe_var (i := i) (by rw [d.n]; exact h1) (by rw [d.sc]; exact vis_of h2) hd hc) ⟨v, h3, q⟩
theorem we_blt (d : Def X G N sc k) {u : Value} (hg : glB sc x = true) (hm : G.mg x = none) (hv : bootBuiltins x = some u) (r : RelV v u) (q : Q v H) (hn : x ≠ "__name__" := by decide +kernel) (hd : (x == ("__debug__" : Str)) = false := by decide +kernel) :
    WE X (.Name x pos) σ H Q := we_of (pe_bltn (d.gl hg) (by rw [d.mg]; exact hm) hv r hn hd) q
theorem we_glob (d : Def X G N sc k) {u : Value} (hg : glB sc x = true) (hm : G.mg x = some u) (r : RelV v u) (q : Q v H) (hd : (x == ("__debug__" : Str)) = false := by decide +kernel) :
    WE X (.Name x pos) σ H Q := we_of (pe_glob (d.gl hg) (by rw [d.mg]; exact hm) r hd) q
theorem we_int {i : Int} {j} (q : Q (.int i) H) : WE X (.Constant (.int i) j pos) σ H Q := we_of pe_int q
theorem we_bl {i : Bool} {j} (q : Q (.bl i) H) : WE X (.Constant (.bool i) j pos) σ H Q := we_of pe_bl q
theorem we_non {j} (q : Q .non H) : WE X (.Constant .none j pos) σ H Q := we_of pe_non q
theorem we_str {z : Str} {j} (q : Q (.str z) H) : WE X (.Constant (.str z) j pos) σ H Q := we_of pe_str q

/-! ### operators: the rule is chosen by the values -/
def RO (X : Cx) (f : Value → Value → Sem Value) (x y : V) (H : Hp) (Q : VK) : Prop := ∃ r, OpR X f r ∧ r x y H Q
theorem ro_ok {f : Value → Value → Sem Value} : OpR X f (RO X f) := by
  intro pins s σ H x y v u Q I rx ry h
  obtain ⟨r, ho, hr⟩ := h
  exact ho pins s σ H x y v u Q I rx ry hr
theorem we_bin {op : Operator} (h : WE X a σ H fun x H1 => WE X b σ H1 fun y H2 => RO X (binaryOp op) x y H2 Q) : WE X (.BinOp a op b pos) σ H Q := we_of (pe_op ro_ok pe_we pe_we) h
theorem we_cmp {op : CmpOp} (hm : behindInMarks op b = false) (h : WE X a σ H fun x H1 => WE X b σ H1 fun y H2 => RO X (compareOp op) x y H2 Q) : WE X (.Compare a [op] [b] pos) σ H Q := we_of (pe_cmpR ro_ok pe_we pe_we hm) h
theorem wt_cmp {op : CmpOp} (hm : behindInMarks op b = false) (h : WE X a σ H fun x H1 => WE X b σ H1 fun y H2 => RO X (compareOp op) x y H2 fun z H3 => ∃ k, z = .bl k ∧ QT k H3) : WT X (.Compare a [op] [b] pos) σ H QT := wt_of (pt_cmpR ro_ok pe_we pe_we hm) h
def RU (X : Cx) (f : Value → Sem Value) (x : V) (H : Hp) (Q : VK) : Prop := ∃ r, UnR X f r ∧ r x H Q
theorem ru_ok {f : Value → Sem Value} : UnR X f (RU X f) := by
  intro pins s σ H x v Q I rx h
  obtain ⟨r, ho, hr⟩ := h
  exact ho pins s σ H x v Q I rx hr
theorem we_un {op : UnaryOp} (h : WE X a σ H fun x H1 => RU X (unaryOp op) x H1 Q) : WE X (.UnaryOp op a pos) σ H Q := we_of (pe_un ru_ok pe_we) h

/-! ### tests -/
theorem wt_not (h : WT X a σ H fun k H1 => QT (!k) H1) : WT X (.UnaryOp .Not a pos) σ H QT := wt_of (pt_not pt_wt) h
theorem wt_ww (h : WW X e σ H QT) : WT X e σ H QT := wt_of pw_ww.pt h
theorem ww_and (h : WT X a σ H fun k H1 => if k = true then WW X (.BoolOp .And (b :: es) pos) σ H1 QT else QT false H1) : WW X (.BoolOp .And (a :: b :: es) pos) σ H QT := ww_of (pw_and pt_wt pw_ww) h
theorem ww_or (h : WT X a σ H fun k H1 => if k = true then QT true H1 else WW X (.BoolOp .Or (b :: es) pos) σ H1 QT) : WW X (.BoolOp .Or (a :: b :: es) pos) σ H QT := ww_of (pw_or pt_wt pw_ww) h
theorem ww_and1 (h : WT X a σ H QT) : WW X (.BoolOp .And [a] pos) σ H QT := ww_of (pw_and1 pt_wt) h
theorem ww_or1 (h : WT X a σ H QT) : WW X (.BoolOp .Or [a] pos) σ H QT := ww_of (pw_or1 pt_wt) h
theorem wt_truth (he : ∀ whole, isTrue a X.env whole = (do let v ← whole; standAt a.pos; holding [v] (truthy v))) (h : WE X a σ H fun x H1 => ∃ k, TruV X.K x H1 k ∧ QT k H1) : WT X a σ H QT := wt_of (pt_truth pe_we he) h
theorem we_if (h : WT X c σ H fun k H1 => if k = true then WE X a σ H1 Q else WE X b σ H1 Q) : WE X (.IfExp c a b pos) σ H Q := we_of (pe_ifExp pt_wt pe_we pe_we) h
theorem we_and (h : WE X a σ H fun x H1 => ∃ k, x = .bl k ∧ if k = true then WE X (.BoolOp .And (b :: es) pos) σ H1 Q else Q (.bl false) H1) : WE X (.BoolOp .And (a :: b :: es) pos) σ H Q := we_of (pe_and pe_we pe_we) h
theorem we_or (h : WE X a σ H fun x H1 => ∃ k, x = .bl k ∧ if k = true then Q (.bl true) H1 else WE X (.BoolOp .Or (b :: es) pos) σ H1 Q) : WE X (.BoolOp .Or (a :: b :: es) pos) σ H Q := we_of (pe_or pe_we pe_we) h
theorem we_one {op : BoolOp} (h : WE X a σ H Q) : WE X (.BoolOp op [a] pos) σ H Q := we_of (pe_one pe_we) h
theorem we_not (h : WE X a σ H fun x H1 => ∃ k, x = .bl k ∧ Q (.bl (!k)) H1) : WE X (.UnaryOp .Not a pos) σ H Q := we_of (pe_not pe_we) h
theorem we_notT (h : WE X a σ H fun x H1 => ∃ k, TruV X.K x H1 k ∧ Q (.bl (!k)) H1) : WE X (.UnaryOp .Not a pos) σ H Q := we_of (pe_notT pe_we) h

/-! ### arguments, displays -/
/-- no star -/
def ns : Expr → Bool
  | .Starred _ _ => false
  | _ => true
def nss : List Expr → Bool
  | [] => true
  | e :: es => ns e && nss es
theorem star_ns {env : Env} {e : Expr} {es : List Expr} (h : ns e = true) : starEach (e :: es) env = (false, eval e env) :: starEach es env := by
  cases e with
  | Starred _ _ => cases h
  | _ => rfl
theorem hpl_ns {env : Env} {pos : Pos} : ∀ {es : List Expr}, nss es = true → (backTo pos (starEach es env)).any (·.1) = false
  | [], _ => rfl
  | e :: es, h => by
    have h' := Bool.and_eq_true_iff.mp h
    rw [star_ns h'.1]
    have ih := hpl_ns (env := env) (pos := pos) h'.2
    show (false || (backTo pos (starEach es env)).any (·.1)) = false
    rw [ih] <;> rfl
theorem all_ns {env : Env} {pos : Pos} : ∀ {es : List Expr}, nss es = true → (backTo pos (starEach es env)).all (fun x => !x.1) = true
  | [], _ => rfl
  | e :: es, h => by
    have h' := Bool.and_eq_true_iff.mp h
    rw [star_ns h'.1]
    have ih := all_ns (env := env) (pos := pos) h'.2
    show (true && (backTo pos (starEach es env)).all (fun x => !x.1)) = true
    rw [ih] <;> rfl
theorem wa_nil (q : QA [] H) : WA X [] σ H QA := wa_of pa_nil q
theorem wa_cons (hs : ns e = true) (h : WE X e σ H fun x H1 => WA X es σ H1 fun xs H2 => QA (x :: xs) H2) : WA X (e :: es) σ H QA := wa_of (pa_cons pe_we pa_wa (star_ns hs)) h
theorem we_tup {x1} (h : WA X es σ H fun xs H1 => xs.length ≤ sizeLine ∧ ∀ p, H1 p = none → Q (.ref p) (upd H1 p (.tup xs))) : WE X (.Tuple es x1 pos) σ H Q := we_of (pe_tup pa_wa) h
theorem we_lst (h : WA X es σ H fun xs H1 => xs.length ≤ sizeLine ∧ ∀ p, H1 p = none → Q (.ref p) (upd H1 p (.lst xs))) : WE X (.List es pos) σ H Q := we_of (pe_lst pa_wa) h

/-! ### statements -/
theorem wb_nil (q : D.nx σ H) : WB X [] D σ H := wb_of pss_nil q
theorem wb_one (h : WS X st D σ H) : WB X [st] D σ H := wb_of (pss_one ps_ws) h
theorem wb_cons (h : WS X st { D with nx := WB X rest D } σ H) : WB X (st :: rest) D σ H := wb_of (pss_cons ps_ws pss_wb) h
theorem ws_pass (q : D.nx σ H) : WS X (.Pass pos) D σ H := ws_of ps_pass q
theorem ws_break (q : D.bk σ H) : WS X (.Break pos) D σ H := ws_of ps_break q
theorem ws_continue (q : D.ct σ H) : WS X (.Continue pos) D σ H := ws_of ps_continue q
theorem ws_expr (hs : swapsWith e none pos.line X.env = pure false) (h : WE X e σ H fun _ H1 => D.nx σ H1) : WS X (.Expr e pos) D σ H := ws_of (ps_expr pe_we hs) h
theorem ws_ret (h : WE X e σ H D.rt) : WS X (.Return (some e) pos) D σ H := ws_of (ps_ret pe_we) h
theorem ws_retN (q : D.rt .non H) : WS X (.Return none pos) D σ H := ws_of ps_retN q
theorem ws_if {t u : List Stmt} (h : WT X c σ H fun k H1 => if k = true then WB X t D σ H1 else WB X u D σ H1) : WS X (.If c t u pos) D σ H := ws_of (ps_if pt_wt pss_wb pss_wb) h
theorem ws_set (d : Fr X G N sc k W) (i : Nat) {pos' : Pos} (h1 : N[i]? = some x) (hl : Loc sc x) (hs : swapsWith e (some (.Name x pos')) pos.line X.env = pure false) (h : WE X e σ H fun v H1 => D.nx (σ.set i (some v)) H1) :
    WS X (.Assign [.Name x pos'] e pos) D σ H :=
  ws_of (ps_set (i := i) (by rw [d.n]; exact d.nd) (by rw [d.n]; exact h1) (by rw [d.sc]; exact hl) pe_we hs (.inl (d.fn x))) h
/-! ### targets -/
def WG (X : Cx) (tg : Expr) (v : V) (σ : L2.St) (H : Hp) (R : L2.St → Hp → Prop) : Prop :=
  ∀ (pins : List (Addr × Obj)) (s : Shared) (u : Value), Inv X pins σ H s → RelV v u → wpAny (model X.prog X.w) X.A (assign tg X.env u) (fun _ s' => ∃ σ' H', Inv X pins σ' H' s' ∧ R σ' H') X.xe s
def WGs (X : Cx) (tgs : List Expr) (vs : List V) (σ : L2.St) (H : Hp) (R : L2.St → Hp → Prop) : Prop :=
  ∀ (pins : List (Addr × Obj)) (s : Shared) (us : List Value), Inv X pins σ H s → Vals vs us → wpAny (model X.prog X.w) X.A (assignInOrder ((assignEach tgs X.env).map (·.2)) us) (fun _ s' => ∃ σ' H', Inv X pins σ' H' s' ∧ R σ' H') X.xe s
variable {R : L2.St → Hp → Prop} {tg : Expr} {tgs : List Expr}
theorem pg_wg : PG X tg (fun v σ H R => WG X tg v σ H R) := ⟨fun pins s σ H v u R I r h => h pins s u I r⟩
theorem pgs_wgs : PGs X tgs (fun v σ H R => WGs X tgs v σ H R) := ⟨fun pins s σ H v u R I r h => h pins s u I r⟩
theorem wg_of {t : TG} (h : PG X tg t) (q : t v σ H R) : WG X tg v σ H R := fun pins s u I r => h.run pins s σ H v u R I r q
theorem wgs_of {t : TGs} {vs : List V} (h : PGs X tgs t) (q : t vs σ H R) : WGs X tgs vs σ H R := fun pins s u I r => h.run pins s σ H vs u R I r q
theorem wg_name (d : Def X G N sc k) (i : Nat) (h1 : N[i]? = some x) (hl : Loc sc x) (hf : X.fn x = true ∨ sc.names.lookup x = some .local) (q : R (σ.set i (some v)) H) : WG X (.Name x pos) v σ H R :=
  wg_of (pg_name (i := i) (by rw [d.n]; exact d.nd) (by rw [d.n]; exact h1) (by rw [d.sc]; exact hl) (by rw [d.sc]; exact hf)) q
theorem wgs_nil (q : R σ H) : WGs X [] [] σ H R := wgs_of pgs_nil ⟨rfl, q⟩
theorem wgs_cons {vs : List V} (hs : (assignEach (tg :: tgs) X.env).map (·.2) = assign tg X.env :: (assignEach tgs X.env).map (·.2)) (h : WG X tg v σ H fun σ1 H1 => WGs X tgs vs σ1 H1 R) : WGs X (tg :: tgs) (v :: vs) σ H R :=
  wgs_of (pgs_cons pg_wg pgs_wgs hs) ⟨v, vs, rfl, h⟩
theorem wg_tup (d : Def X G N sc k) {kk : Nat} {a : Addr} {vs : List V} (ht : SqT G.K H a vs) (hn : (assignEach tgs X.env).length = vs.length) (hst : (assignEach tgs X.env).findIdx? (·.1) = none) (h : WGs X tgs vs σ H R) : WG X (.Tuple tgs kk pos) (.ref a) σ H R :=
  wg_of (pg_tup (n := vs.length) d.calm pgs_wgs hn hst) ⟨a, vs, rfl, by rw [d.K]; exact ht, rfl, h⟩
theorem ws_asg (hs : swapsWithSole [tg] e pos.line X.env = pure false) (hw : swappedStores [tg] e X.env = pure none) (h1 : (assignEach [tg] X.env).map (·.2) = [assign tg X.env]) (h : WE X e σ H fun v H1 => WG X tg v σ H1 D.nx) : WS X (.Assign [tg] e pos) D σ H :=
  ws_of (ps_asg pe_we pg_wg hs hw h1) h
/-- a, b = e1, e2 -/
theorem ws_par (d : Fr X G N sc k W) (i j : Nat) {y : Str} {px py pt : Pos} {kt k2 pt2} (h1 : N[i]? = some x) (h2 : N[j]? = some y) (hij : i ≠ j) (hx : sc.names.lookup x = some .local) (hy : sc.names.lookup y = some .local)
    (hpar : PS X (.Assign [.Tuple [.Name x px, .Name y py] kt pt] (.Tuple [a, b] k2 pt2) pos) (tPar i j (WA X [a, b])))
    (h : WA X [a, b] σ H fun vs H1 => ∃ v w, vs = [v, w] ∧ D.nx ((σ.set i (some v)).set j (some w)) H1) : WS X (.Assign [.Tuple [.Name x px, .Name y py] kt pt] (.Tuple [a, b] k2 pt2) pos) D σ H := ws_of hpar h

/-! ### loops -/
theorem ws_forL (d : Fr X G N sc k W) {iter : Expr} {body : List Stmt} (hs : ∀ x, foldedSetIterable iter X.env x = pure x)
    (h : WE X iter σ H fun y H1 => ∃ (a : Addr) (xs : List V), y = .ref a ∧ SqL G.K H1 a xs ∧ ∃ Pv : Nat → L2.St → Hp → Prop, Pv 0 σ H1 ∧ (∀ i σ H, i ≤ xs.length → Pv i σ H → SqL G.K H a xs) ∧
      (∀ i x σ H, xs[i]? = some x → Pv i σ H → WG X tg x σ H fun σ2 H2 => WB X body { D with nx := Pv (i + 1), ct := Pv (i + 1), bk := D.nx } σ2 H2) ∧ ∀ σ H, Pv xs.length σ H → D.nx σ H) :
    WS X (.For tg iter body [] pos) D σ H := by
  refine ws_of (ps_for d.own d.calm (pi_list pe_we) pg_wg pss_wb hs) (t := tFor _ _ _) ?_
  show WE X iter σ H _
  intro pins s I
  refine thn (h pins s I) fun u s1 ⟨y, H1, I1, r1, a, xs, e, hq, Pv, h0, hl, hst, hd⟩ => ⟨y, H1, I1, r1, a, e, ⟨xs, by rw [d.K]; exact hq⟩, ?_⟩
  rw [d.K]
  exact for_list Pv h0 hl hst hd
theorem ws_forT (d : Fr X G N sc k W) {iter : Expr} {body : List Stmt} (hs : ∀ x, foldedSetIterable iter X.env x = pure x)
    (h : WE X iter σ H fun y H1 => ∃ (a : Addr) (xs : List V), y = .ref a ∧ SqT G.K H1 a xs ∧ ∃ Pv : Nat → L2.St → Hp → Prop, Pv 0 σ H1 ∧ (∀ i σ H, i ≤ xs.length → Pv i σ H → SqT G.K H a xs) ∧
      (∀ i x σ H, xs[i]? = some x → Pv i σ H → WG X tg x σ H fun σ2 H2 => WB X body { D with nx := Pv (i + 1), ct := Pv (i + 1), bk := D.nx } σ2 H2) ∧ ∀ σ H, Pv xs.length σ H → D.nx σ H) :
    WS X (.For tg iter body [] pos) D σ H := by
  refine ws_of (ps_for d.own d.calm (pi_tup pe_we) pg_wg pss_wb hs) (t := tFor _ _ _) ?_
  show WE X iter σ H _
  intro pins s I
  refine thn (h pins s I) fun u s1 ⟨y, H1, I1, r1, a, xs, e, hq, Pv, h0, hl, hst, hd⟩ => ⟨y, H1, I1, r1, a, e, ⟨xs, by rw [d.K]; exact hq⟩, ?_⟩
  rw [d.K]
  exact for_tup Pv h0 hl hst hd
theorem ws_forR (d : Fr X G N sc k W) {n : Expr} {body : List Stmt} {rp : Pos} (hg : glB sc "range" = true) (hm : G.mg "range" = none) (ha : ns n = true) (hs : ∀ x, foldedSetIterable (.Call (.Name "range" rp) [n] [] p) X.env x = pure x)
    (h : WE X n σ H fun y H1 => ∃ j : Int, y = .int j ∧ -(2 ^ 62) ≤ j ∧ j < 2 ^ 62 ∧ ∃ Pv : Nat → L2.St → Hp → Prop, Pv 0 σ H1 ∧
      (∀ i σ H, i < j.toNat → Pv i σ H → WG X tg (.int i) σ H fun σ2 H2 => WB X body { D with nx := Pv (i + 1), ct := Pv (i + 1), bk := D.nx } σ2 H2) ∧ ∀ σ H, Pv j.toNat σ H → D.nx σ H) :
    WS X (.For tg (.Call (.Name "range" rp) [n] [] p) body [] pos) D σ H := by
  refine ws_of (ps_for d.own d.calm (pi_range1 (d.gl hg) (by rw [d.mg]; exact hm) pa_wa (star_ns ha)) pg_wg pss_wb hs) (t := tFor _ _ _) ?_
  show WA X [n] σ H _
  refine wa_cons ha ?_
  intro pins s I
  refine thn (h pins s I) fun u s1 ⟨y, H1, I1, r1, j, e, b1, b2, Pv, h0, hst, hd⟩ => ⟨y, H1, I1, r1, ?_⟩
  refine wa_nil ⟨j, by rw [e], b1, b2, ?_⟩
  refine for_range (lo := 0) (n := j.toNat) Pv h0 (fun i σ H hi hp => ?_) hd
  rw [Int.zero_add]
  exact hst i σ H hi hp
theorem wt_mono {Q' : Bool → Hp → Prop} (h : ∀ b H1, QT b H1 → Q' b H1) (q : WT X e σ H QT) : WT X e σ H Q' := fun pins s I => thn (q pins s I) fun u s1 ⟨H1, I1, q1⟩ => ⟨H1, I1, h _ _ q1⟩
theorem we_mono {Q' : VK} (h : ∀ b H1, Q b H1 → Q' b H1) (q : WE X e σ H Q) : WE X e σ H Q' := fun pins s I => thn (q pins s I) fun u s1 ⟨v, H1, I1, r, q1⟩ => ⟨v, H1, I1, r, h _ _ q1⟩
theorem wa_mono {Q' : List V → Hp → Prop} (h : ∀ b H1, QA b H1 → Q' b H1) (q : WA X es σ H QA) : WA X es σ H Q' := fun pos pins s I => thn (q pos pins s I) fun u s1 ⟨v, H1, I1, r, q1⟩ => ⟨v, H1, I1, r, h _ _ q1⟩
theorem ws_while (d : Fr X G N sc k W) {body : List Stmt} (Pv : L2.St → Hp → Prop) (μ : L2.St → Hp → Nat) (h0 : Pv σ H)
    (h : ∀ σ H, Pv σ H → WT X c σ H fun b H1 => if b = true then WB X body { D with nx := fun σ' H' => Pv σ' H' ∧ μ σ' H' < μ σ H, ct := fun σ' H' => Pv σ' H' ∧ μ σ' H' < μ σ H, bk := D.nx } σ H1 else D.nx σ H1) :
    WS X (.While c body [] pos) D σ H :=
  ws_of (ps_while d.own pt_wt pss_wb) (while_by (c := WT X c) (tb := WB X body) Pv μ h0 h fun σ H Q Q' m q => wt_mono m q)
theorem ends_mono {D D' : Ends} (h1 : ∀ σ H, D.nx σ H → D'.nx σ H) (h2 : ∀ v H, D.rt v H → D'.rt v H) (h3 : ∀ σ H, D.bk σ H → D'.bk σ H) (h4 : ∀ σ H, D.ct σ H → D'.ct σ H) (q : WB X sts D σ H) : WB X sts D' σ H := fun pins s I => thn (q pins s I) fun f s1 z => by
  cases f with
  | next => obtain ⟨a, b, c, e⟩ := z; exact ⟨a, b, c, h1 _ _ e⟩
  | brk => obtain ⟨a, b, c, e⟩ := z; exact ⟨a, b, c, h3 _ _ e⟩
  | cont => obtain ⟨a, b, c, e⟩ := z; exact ⟨a, b, c, h4 _ _ e⟩
  | ret u => obtain ⟨w, a, b, c, r, e⟩ := z; exact ⟨w, a, b, c, r, h2 _ _ e⟩
theorem ws_mono {D D' : Ends} (h1 : ∀ σ H, D.nx σ H → D'.nx σ H) (h2 : ∀ v H, D.rt v H → D'.rt v H) (h3 : ∀ σ H, D.bk σ H → D'.bk σ H) (h4 : ∀ σ H, D.ct σ H → D'.ct σ H) (q : WS X st D σ H) : WS X st D' σ H := fun pins s I => thn (q pins s I) fun f s1 z => by
  cases f with
  | next => obtain ⟨a, b, c, e⟩ := z; exact ⟨a, b, c, h1 _ _ e⟩
  | brk => obtain ⟨a, b, c, e⟩ := z; exact ⟨a, b, c, h3 _ _ e⟩
  | cont => obtain ⟨a, b, c, e⟩ := z; exact ⟨a, b, c, h4 _ _ e⟩
  | ret u => obtain ⟨w, a, b, c, r, e⟩ := z; exact ⟨w, a, b, c, r, h2 _ _ e⟩

/-! ### calls -/
/-- a def of the text stands at the module's name x and keeps the promise sp, by level k -/
structure Fn (G : Gb) (x : Str) (n k : Nat) (sp : Sp) : Prop where
  is : ∃ (f : Addr) (fd : FuncData) (ps : List Str), G.mg x = some (.ref f) ∧ PySem.W.keepIn G.K (.ref f) = true ∧ FnOk G.prog G.w G.K G.mg G.base (L2.CX G.prog G.w) k f fd ps sp ∧ Binds G.K fd ps [] ∧ ps.length = n ∧ ps = fd.params.args.map (·.arg) ∧ ∃ st, Fun G.K x x st f fd
theorem Fn.imp {n j : Nat} {sp sp' : Sp} (F : Fn G x n j sp) (h : ∀ vs H Q E, sp' vs H Q E → sp vs H Q E) : Fn G x n j sp' := by
  obtain ⟨f, fd, ps, h1, h2, h3, h4, h5⟩ := F.is
  exact ⟨f, fd, ps, h1, h2, h3.imp h, h4, h5⟩
theorem we_callE {E : XK} (d : Def X G N sc k) {n j : Nat} {sp : Sp} (F : Fn G x n j sp) (hj : j ≤ k) (hg : glB sc x = true) (hx : Passes (L2.CX G.prog G.w) X E)
    (he : ns e = true) (hpl : nss es = true) (h : WA X (e :: es) σ H fun vs H1 => sp vs H1 Q E) (hdb : (x == ("__debug__" : Str)) = false := by decide +kernel) :
    WE X (.Call (.Name x p) (e :: es) [] pos) σ H Q := by
  obtain ⟨f, fd, ps, h1, h2, h3, h4, _⟩ := F.is
  refine we_of (pe_call (ds := []) (dvs := []) (E := E) (k := j) (f := f) (fd := fd) (ps := ps) (sp := sp) (CX := L2.CX G.prog G.w) ?_ (d.room.mono hj) (d.gl hg) (by rw [d.mg]; exact h1) (by rw [d.K]; exact h2) (by rw [d.K]; exact h4) .nil hx pa_wa hdb (star_ns he) (hpl_ns hpl)) ?_
  · rw [d.prog, d.w, d.K, d.mg, d.base]
    exact h3
  · show WA X (e :: es) σ H _
    refine wa_mono (fun vs H1 q => ?_) h
    rw [List.append_nil]
    exact q
/-- .. of which nothing may leave -/
theorem we_call (d : Def X G N sc k) {n j : Nat} {sp : Sp} (F : Fn G x n j sp) (hj : j ≤ k) (hg : glB sc x = true)
    (he : ns e = true) (hpl : nss es = true) (h : WA X (e :: es) σ H fun vs H1 => sp vs H1 Q E0) (hdb : (x == ("__debug__" : Str)) = false := by decide +kernel) :
    WE X (.Call (.Name x p) (e :: es) [] pos) σ H Q := we_callE d F hj hg (by rw [← d.prog, ← d.w]; exact passL) he hpl h hdb
theorem we_call0E {E : XK} (d : Def X G N sc k) {n j : Nat} {sp : Sp} (F : Fn G x n j sp) (hj : j ≤ k) (hg : glB sc x = true) (hx : Passes (L2.CX G.prog G.w) X E) (h : sp [] H Q E) (hdb : (x == ("__debug__" : Str)) = false := by decide +kernel) :
    WE X (.Call (.Name x p) [] [] pos) σ H Q := by
  obtain ⟨f, fd, ps, h1, h2, h3, h4, _⟩ := F.is
  refine we_of (pe_call0 (ds := []) (dvs := []) (E := E) (k := j) (f := f) (fd := fd) (ps := ps) (sp := sp) (CX := L2.CX G.prog G.w) ?_ (d.room.mono hj) (d.gl hg) (by rw [d.mg]; exact h1) (by rw [d.K]; exact h2) (by rw [d.K]; exact h4) .nil hx hdb) h
  rw [d.prog, d.w, d.K, d.mg, d.base]
  exact h3
theorem we_call0 (d : Def X G N sc k) {n j : Nat} {sp : Sp} (F : Fn G x n j sp) (hj : j ≤ k) (hg : glB sc x = true) (h : sp [] H Q E0) (hdb : (x == ("__debug__" : Str)) = false := by decide +kernel) :
    WE X (.Call (.Name x p) [] [] pos) σ H Q := we_call0E d F hj hg (by rw [← d.prog, ← d.w]; exact passL) h hdb
/-- .. from a def's frame: what leaves the callee is wished for at the slots as they stand -/
theorem we_callW (d : Fr X G N sc k W) {n j : Nat} {sp : Sp} (F : Fn G x n j sp) (hj : j ≤ k) (hg : glB sc x = true)
    (he : ns e = true) (hpl : nss es = true) (h : WA X (e :: es) σ H fun vs H1 => sp vs H1 Q fun c o H' => W c o σ H') (hdb : (x == ("__debug__" : Str)) = false := by decide +kernel) :
    WE X (.Call (.Name x p) (e :: es) [] pos) σ H Q := by
  obtain ⟨f, fd, ps, h1, h2, h3, h4, _⟩ := F.is
  refine we_of (pe_callS (E := fun τ c o H' => W c o τ H') (k := j) (f := f) (fd := fd) (ps := ps) (sp := sp) (CX := L2.CX G.prog G.w) ?_ (d.room.mono hj) (d.gl hg) (by rw [d.mg]; exact h1) (by rw [d.K]; exact h2) (by rw [d.K]; exact h4) (fun τ => ?_) pa_wa hdb (star_ns he) (hpl_ns hpl)) h
  · rw [d.prog, d.w, d.K, d.mg, d.base]
    exact h3
  · rw [← d.prog, ← d.w]
    exact passAt d.tk τ
/-- a built-in function, a built-in type, by values -/
def RC (X : Cx) (f : Value) (vs : List V) (H : Hp) (Q : VK) : Prop := ∃ r, CallR X f r ∧ r vs H Q
theorem rc_ok {f : Value} : CallR X f (RC X f) := by
  intro pins s σ H xs us Q I r h
  obtain ⟨r0, ho, hr⟩ := h
  exact ho pins s σ H xs us Q I r hr
theorem we_callB (d : Def X G N sc k) {id : String} (hg : glB sc x = true) (hm : G.mg x = none) (hv : bootBuiltins x = some (.builtin id))
    (he : ns e = true) (hpl : nss es = true) (h : WA X (e :: es) σ H fun vs H1 => RC X (.builtin id) vs H1 Q) (hn : x ≠ "__name__" := by decide +kernel) (hdb : (x == ("__debug__" : Str)) = false := by decide +kernel) :
    WE X (.Call (.Name x p) (e :: es) [] pos) σ H Q := we_of (pe_callB rc_ok (d.gl hg) (by rw [d.mg]; exact hm) hv pa_wa hn hdb (star_ns he) (hpl_ns hpl)) h
theorem we_callTy (d : Def X G N sc k) {T : String} (hg : glB sc x = true) (hm : G.mg x = none) (hv : bootBuiltins x = some (.type T))
    (he : ns e = true) (hpl : nss es = true) (h : WA X (e :: es) σ H fun vs H1 => RC X (.type T) vs H1 Q) (hn : x ≠ "__name__" := by decide +kernel) (hdb : (x == ("__debug__" : Str)) = false := by decide +kernel) :
    WE X (.Call (.Name x p) (e :: es) [] pos) σ H Q := we_of (pe_callTy rc_ok (d.gl hg) (by rw [d.mg]; exact hm) hv pa_wa hn hdb (star_ns he) (hpl_ns hpl)) h

/-! ### subscripts -/
def RX (X : Cx) (x y : V) (H : Hp) (Q : VK) : Prop := ∃ r, IxR X r ∧ r x y H Q
theorem rx_ok : IxR X (RX X) := by
  intro value slice pins s σ H x y v u Q I rx ry h
  obtain ⟨r, ho, hr⟩ := h
  exact ho value slice pins s σ H x y v u Q I rx ry hr
theorem we_ix (hs : PlainIx b) (h : WE X a σ H fun x H1 => WE X b σ H1 fun y H2 => RX X x y H2 Q) : WE X (.Subscript a b pos) σ H Q := we_of (pe_ix rx_ok pe_we pe_we hs) h
theorem we_dget (d : Def X G N sc k) (hs : NoSl b) (h : WE X a σ H fun x H1 => WE X b σ H1 fun y H2 => ∃ (p : Addr) (v : V), x = .ref p ∧ DGet H2 p y (some v) ∧ Q v H2) : WE X (.Subscript a b pos) σ H Q := we_of (pe_dget d.hu pe_we pe_we hs) h
theorem ws_dput (d : Def X G N sc k) {pos' : Pos} (hs : swapsWith e (some (.Subscript a b pos')) pos.line X.env = pure false)
    (h : WE X e σ H fun v H1 => WE X a σ H1 fun x H2 => WE X b σ H2 fun y H3 => ∃ (p : Addr) (H4 : Hp), x = .ref p ∧ DPut H3 p y v H4 ∧ D.nx σ H4) : WS X (.Assign [.Subscript a b pos'] e pos) D σ H := ws_of (ps_dput d.hu pe_we pe_we pe_we hs) h
theorem rx_list (d : Def X G N sc k) {p : Addr} {xs : List V} {i : Int} (h : SqL G.K H p xs) (ha : atI xs i = some v) (q : Q v H) : RX X (.ref p) (.int i) H Q := ⟨_, ix_list, p, xs, i, v, rfl, rfl, by rw [d.K]; exact h, ha, q⟩
theorem rx_tup (d : Def X G N sc k) {p : Addr} {xs : List V} {i : Int} (h : SqT G.K H p xs) (ha : atI xs i = some v) (q : Q v H) : RX X (.ref p) (.int i) H Q := ⟨_, ix_tup, p, xs, i, v, rfl, rfl, by rw [d.K]; exact h, ha, q⟩
theorem rx_str {z : Str} {i : Int} {c : Nat} (hl : z.length ≤ sizeLine) (ha : atI z.cps.toList i = some c) (q : Q (.str ⟨#[c]⟩) H) : RX X (.str z) (.int i) H Q := ⟨_, ix_str, z, i, c, rfl, rfl, hl, ha, q⟩

/-! ### methods of built-in types -/
def RM (X : Cx) (id : String) (o : V) (vs : List V) (H : Hp) (Q : VK) : Prop := ∃ r, MtR X id r ∧ r o vs H Q
theorem rm_ok {id : String} : MtR X id (RM X id) := by
  intro pins s σ H x xs v us Q I rx rs h
  obtain ⟨r, ho, hr⟩ := h
  exact ho pins s σ H x xs v us Q I rx rs hr
theorem few_ns {env : Env} (h : (nss (e :: es) && decide (es.length < 28)) = true) : ((backTo pos (starEach (e :: es) env)).all (fun x => !x.1) && (backToKw pos (keywordEach [] env)).all (fun x => x.1.isSome)
      && decide ((e :: es).length + ([] : List Keyword).length + (if ([] : List Keyword).isEmpty then 0 else 1) < 30)) = true := by
  obtain ⟨h1, h2⟩ := Bool.and_eq_true_iff.mp h
  have h3 := of_decide_eq_true h2
  have e1 : decide ((e :: es).length + ([] : List Keyword).length + (if ([] : List Keyword).isEmpty then 0 else 1) < 30) = true := decide_eq_true (by
    show es.length + 1 + 0 + 0 < 30
    omega)
  rw [all_ns h1, e1] <;> rfl
theorem we_bm (d : Def X G N sc k) {o : Expr} {name : Str} {apos : Pos} {T id : String} (pa : PlainAttrs T) (slot : Slot T name id) (hty : typeOf (.builtin id) = pure (.type "method_descriptor"))
    (hbase : attributeBase o name X.env (eval o X.env) = eval o X.env)
    (hfew : (nss (e :: es) && decide (es.length < 28)) = true)
    (hline : (apos.endLine == pos.line) = true) (hs : ns e = true) (hplain : nss es = true)
    (h : WE X o σ H fun x H1 => tyV G.K T x H1 ∧ WA X (e :: es) σ H1 fun vs H2 => RM X id x vs H2 Q) : WE X (.Call (.Attribute o name apos) (e :: es) [] pos) σ H Q :=
  we_of (pe_bm pa slot hty rm_ok pe_we pa_wa hbase (few_ns hfew) hline (star_ns hs) (hpl_ns hplain)) (by rw [← d.K] at h; exact h)
end
end Wx

namespace Wx
open PySem L2
section
variable {X : Cx} {e a b c : Expr} {es : List Expr} {st : Stmt} {sts rest : List Stmt} {σ : L2.St} {H : Hp} {Q : VK} {QT : Bool → Hp → Prop} {QA : List V → Hp → Prop} {D : Ends} {pos p : Pos} {x : Str} {v : V} {G : Gb} {N : List Str} {sc scope : Scope} {k : Nat} {W : WX}
/-! ### chains of two comparisons -/
theorem we_chain {op op' : CmpOp} (hm : lastMarks [op, op'] [b, c] = false)
    (h : WE X a σ H fun x H1 => WE X b σ H1 fun y H2 => RO X (compareOp op) x y H2 fun z H3 => ∃ k, z = .bl k ∧ (if k = true then WE X c σ H3 fun w' H4 => RO X (compareOp op') y w' H4 Q else Q (.bl false) H3)) :
    WE X (.Compare a [op, op'] [b, c] pos) σ H Q := we_of (pe_chain ro_ok ro_ok pe_we pe_we pe_we hm) h
theorem wt_chain {op op' : CmpOp} (hm : lastMarks [op, op'] [b, c] = false)
    (h : WE X a σ H fun x H1 => WE X b σ H1 fun y H2 => RO X (compareOp op) x y H2 fun z H3 => ∃ k, z = .bl k ∧ (if k = true then WE X c σ H3 fun w' H4 => RO X (compareOp op') y w' H4 fun z2 H5 => ∃ k2, z2 = .bl k2 ∧ QT k2 H5 else QT false H3)) :
    WT X (.Compare a [op, op'] [b, c] pos) σ H QT := by
  refine wt_of (pt_chain ro_ok ro_ok pe_we pe_we pe_we hm) ?_
  show WE X a σ H _
  refine we_mono (fun x H1 q => we_mono (fun y H2 q => ?_) q) h
  obtain ⟨r, ho, hr⟩ := q
  refine ⟨fun x y H Q' => ∃ Q0 : VK, r x y H Q0 ∧ ∀ v H', Q0 v H' → Q' v H', ?_, _, hr, ?_⟩
  · intro pins s τ H3 x3 y3 v3 u3 Q3 I3 rx ry ⟨Q0, h0, m⟩
    refine thn (ho pins s τ H3 x3 y3 v3 u3 Q0 I3 rx ry h0) fun u s1 ⟨v1, H4, I4, r4, q4⟩ => ⟨v1, H4, I4, r4, m _ _ q4⟩
  · rintro z H3 ⟨kk, rfl, q⟩
    refine ⟨kk, rfl, ?_⟩
    cases kk with
    | true => exact q
    | false => exact ⟨false, rfl, q⟩

/-! ### keywords -/
theorem wk_nil (q : QA [] H) : WK X [] σ H QA := wk_of pk_nil q
theorem wk_cons {nm : Option Str} {kpos : Pos} {ks : List Keyword} (h : WE X e σ H fun y H1 => WK X ks σ H1 fun zs H2 => QA (y :: zs) H2) : WK X (⟨nm, e, kpos⟩ :: ks) σ H QA := wk_of (pk_cons pe_we pk_wk) h
/-- the def at the name x, called with the keywords ks; gV puts the written values and the keywords' in the parameters' order -/
structure FnK (G : Gb) (x : Str) (ks : List Str) (gV : List V → List V → List V) (k : Nat) (sp : Sp) : Prop where
  is : ∃ (f : Addr) (fd : FuncData) (ps : List Str) (g : List Value → List Value → List Value), G.mg x = some (.ref f) ∧ PySem.W.keepIn G.K (.ref f) = true ∧ FnOk G.prog G.w G.K G.mg G.base (L2.CX G.prog G.w) k f fd ps sp ∧ KBinds G.K fd ps ks g gV
theorem we_callK (d : Def X G N sc k) {ks : List Str} {gV : List V → List V → List V} {kws : List Keyword} {j : Nat} {sp : Sp} (F : FnK G x ks gV j sp) (hj : j ≤ k) (hg : glB sc x = true)
    (hall : (backToKw pos (keywordEach kws X.env)).all (·.1.isSome) = true) (hks : (backToKw pos (keywordEach kws X.env)).filterMap (·.1) = ks)
    (he : ns e = true) (hpl : ((backTo pos (starEach (e :: es) X.env)).any (·.1) || (backToKw pos (keywordEach kws X.env)).any (·.1.isNone)) = false)
    (h : WA X (e :: es) σ H fun vs H1 => WK X kws σ H1 fun zs H2 => sp (gV vs zs) H2 Q E0) (hdb : (x == ("__debug__" : Str)) = false := by decide +kernel) : WE X (.Call (.Name x p) (e :: es) kws pos) σ H Q := by
  obtain ⟨f, fd, ps, g, h1, h2, h3, h4⟩ := F.is
  refine we_of (pe_callK (E := E0) (k := j) (f := f) (fd := fd) (ps := ps) (ks := ks) (g := g) (gV := gV) (sp := sp) (CX := L2.CX G.prog G.w) ?_ (d.room.mono hj) (d.gl hg) (by rw [d.mg]; exact h1) (by rw [d.K]; exact h2) (by rw [d.K]; exact h4) (by rw [← d.prog, ← d.w]; exact passL) pa_wa pk_wk hall hks hdb (star_ns he) hpl) h
  rw [d.prog, d.w, d.K, d.mg, d.base]
  exact h3
/-- f(k = v, ..) -/
theorem we_callK0 (d : Def X G N sc k) {ks : List Str} {gV : List V → List V → List V} {kws : List Keyword} {j : Nat} {sp : Sp} (F : FnK G x ks gV j sp) (hj : j ≤ k) (hg : glB sc x = true)
    (hall : (backToKw pos (keywordEach kws X.env)).all (·.1.isSome) = true) (hks : (backToKw pos (keywordEach kws X.env)).filterMap (·.1) = ks)
    (hpl : ((backTo pos (starEach [] X.env)).any (·.1) || (backToKw pos (keywordEach kws X.env)).any (·.1.isNone)) = false)
    (h : WK X kws σ H fun zs H2 => sp (gV [] zs) H2 Q E0) (hdb : (x == ("__debug__" : Str)) = false := by decide +kernel) : WE X (.Call (.Name x p) [] kws pos) σ H Q := by
  obtain ⟨f, fd, ps, g, h1, h2, h3, h4⟩ := F.is
  intro pins s I
  have F' : FnOk X.prog X.w X.K X.mg X.base (L2.CX G.prog G.w) j f fd ps sp := by
    rw [d.prog, d.w, d.K, d.mg, d.base]
    exact h3
  refine PySem.wpAny_Call_Name_kw (ld_glob I (d.gl hg) (by rw [d.mg]; exact h1) ?_ hdb)
  refine PySem.W.callWith_KW0 (h₀ := X.base) I.ok.mod.kin (by rw [d.K]; exact h2) hall ?_ hpl
  refine thn (h pos pins s I) fun ws s2 ⟨zs, H2, I2, rz, q2⟩ => ⟨I2.kIn, ?_⟩
  rw [hks]
  exact run_fnk (us := []) (vs := []) F' (d.room.mono hj) (by rw [d.K]; exact h4) (by rw [← d.prog, ← d.w]; exact passL) I2 .nil rz q2

/-! ### comprehensions of one clause -/
def WTs (X : Cx) (ifs : List Expr) (σ : L2.St) (H : Hp) (Q : Bool → Hp → Prop) : Prop :=
  ∀ (pins : List (Addr × Obj)) (s : Shared), Inv X pins σ H s → wpAny (model X.prog X.w) X.A (forIn ifs true fun c r => if r = true then do let ok ← isTrue c X.env (eval c X.env); pure (ForInStep.yield ok) else pure (ForInStep.yield r)) (TP X pins σ Q) X.xe s
theorem wts_of {ifs : List Expr} {t : TT} (h : PTs X ifs t) (q : t σ H QT) : WTs X ifs σ H QT := fun pins s I => h.run pins s σ H QT I q
theorem wts_nil (q : QT true H) : WTs X [] σ H QT := wts_of pts_nil q
theorem wts_one (h : WT X c σ H QT) : WTs X [c] σ H QT := wts_of (pts_one pt_wt) h
theorem Def.blk (d : Def X G N sc k) (s : Shared) (H : Hp) (C : Addr) (cl : List (Str × Addr)) (fp : List Addr) : Def (X.blk s H scope (compEnvC scope cl C X.env) fp) G N (relS scope sc) k :=
  ⟨d.prog, d.w, d.K, d.mg, d.base, d.n, by rw [← d.sc] <;> rfl, d.nd, d.calm, d.room⟩
/-- a turn of a comprehension's block, in whatever context its block is -/
abbrev Blk (X : Cx) (G : Gb) (N : List Str) (sc scope : Scope) (k : Nat) (f : Cx → Prop) : Prop := ∀ X', Def X' G N (relS scope sc) k → f X'
theorem pe_lcW (d : Def X G N sc k) {elt tg iter : Expr} {ifs : List Expr} {own : List (Str × Nat)} {wi : TI} (hi : PI X tg iter wi) (ok : BlkOk N sc scope own) (hs : ∀ x, foldedSetIterable iter X.env x = pure x) :
    PE X (.ListComp elt [⟨tg, iter, ifs, 0⟩] scope pos) (tLc wi (fun v σ H R => Blk X G N sc scope k fun X' => WG X' tg v σ H R) (fun σ H R => Blk X G N sc scope k fun X' => WTs X' ifs σ H R) (fun σ H R => Blk X G N sc scope k fun X' => WE X' elt σ H R) (own.map (·.2))) :=
  pe_lc d.calm (by rw [d.n]; exact d.nd) hi (by rw [d.n, d.sc]; exact ok) (fun s H C cl fp => ⟨fun pins s σ H v u Q I r h => h _ (d.blk _ _ _ _ _) pins s u I r⟩) (fun s H C cl fp => ⟨fun pins s σ H Q I h => h _ (d.blk _ _ _ _ _) pins s I⟩) (fun s H C cl fp => ⟨fun pins s σ H Q I h => h _ (d.blk _ _ _ _ _) pins s I⟩) hs
/-- over a list: Pv by the turn and the heap, the new list at L within -/
def LcL (X : Cx) (G : Gb) (N : List Str) (sc scope : Scope) (k : Nat) (tg elt : Expr) (ifs : List Expr) (vs : List Nat) (σ : L2.St) (y : V) (H1 : Hp) (Q : VK) : Prop :=
  ∃ (a : Addr) (xs : List V), y = .ref a ∧ SqL G.K H1 a xs ∧ ∀ L, H1 L = none → ∃ Pv : Nat → Hp → Prop, Pv 0 (upd H1 L (.lst [])) ∧ (∀ i H, i ≤ xs.length → Pv i H → SqL G.K H a xs) ∧
    (∀ i x H, xs[i]? = some x → Pv i H → Blk X G N sc scope k fun X' => WG X' tg x (wipe σ vs) H fun σ2 H2 => wipe σ2 vs = wipe σ vs ∧ Blk X G N sc scope k fun X' => WTs X' ifs σ2 H2 fun b H3 =>
      if b = true then Blk X G N sc scope k fun X' => WE X' elt σ2 H3 fun y H4 => ∃ acc, H4 L = some (.lst acc) ∧ acc.length < sizeLine ∧ Pv (i + 1) (upd H4 L (.lst (acc ++ [y]))) else Pv (i + 1) H3) ∧ ∀ H, Pv xs.length H → Q (.ref L) H
theorem we_lcL (d : Def X G N sc k) {elt tg iter : Expr} {ifs : List Expr} (own : List (Str × Nat)) (ok : blkC N sc scope own = true) (hs : ∀ x, foldedSetIterable iter X.env x = pure x)
    (h : WE X iter σ H fun y H1 => LcL X G N sc scope k tg elt ifs (own.map (·.2)) σ y H1 Q) : WE X (.ListComp elt [⟨tg, iter, ifs, 0⟩] scope pos) σ H Q := by
  refine we_of (pe_lcW d (pi_list pe_we) (blkOk_by ok) hs) ?_
  show WE X iter σ H _
  refine we_mono (fun y H1 q => ?_) h
  obtain ⟨a, xs, e, hq, q⟩ := q
  refine ⟨a, e, ⟨xs, by rw [d.K]; exact hq⟩, fun L hL => ?_⟩
  obtain ⟨Pv, h0, hl, hst, hd⟩ := q L hL
  rw [d.K]
  exact lc_list (K := G.K) (a := a) (xs := xs) (σ := σ) (vs := own.map (·.2)) (H1 := H1) (D := L) (g := fun v σ H R => Blk X G N sc scope k fun X' => WG X' tg v σ H R) (tt := fun σ H R => Blk X G N sc scope k fun X' => WTs X' ifs σ H R) (te := fun σ H R => Blk X G N sc scope k fun X' => WE X' elt σ H R) (Qd := fun H => Q (.ref L) H) Pv h0 hl hst hd
/-- name = [.. for .. in a list] -/
theorem ws_lcL (d : Fr X G N sc k W) (i : Nat) {y : Str} {py spos : Pos} {elt tg iter : Expr} {ifs : List Expr} (own : List (Str × Nat)) (hy : N[i]? = some y) (hyl : sc.names.lookup y = some .local) (ok : blkC N sc scope own = true) (hs : ∀ x, foldedSetIterable iter X.env x = pure x)
    (hl : (py.line == pos.line) = true) (ha : (scope.names.any fun (n, k) => n == y && (k == .local || k == .cell)) = false)
    (h : WE X iter σ H fun z H1 => LcL X G N sc scope k tg elt ifs (own.map (·.2)) σ z H1 fun v H2 => D.nx (σ.set i (some v)) H2) : WS X (.Assign [.Name y py] (.ListComp elt [⟨tg, iter, ifs, 0⟩] scope pos) spos) D σ H := by
  have hk : X.env.scope.kind = .function → swapsWith (.ListComp elt [⟨tg, iter, ifs, 0⟩] scope pos) (some (.Name y py)) spos.line X.env = pure true := fun hk => sw_true hk (by rw [d.sc]; exact hyl) hl ha
  intro pins s I
  have P := ps_setLc (X := X) (i := i) (own := own) (elt := elt) (pos := pos) (spos := spos) (py := py) (wi := iList X.K (WE X iter)) (g := fun v σ H R => Blk X G N sc scope k fun X' => WG X' tg v σ H R) (tt := fun σ H R => Blk X G N sc scope k fun X' => WTs X' ifs σ H R) (te := fun σ H R => Blk X G N sc scope k fun X' => WE X' elt σ H R)
    d.calm (by rw [d.n]; exact d.nd) (by rw [d.n]; exact hy) (by rw [d.sc]; exact hyl) (hk I.ok.kind) (pi_list pe_we) (by rw [d.n, d.sc]; exact blkOk_by ok)
    (fun s H C cl fp => ⟨fun pins s σ H v u Q I r h => h _ (d.toDef.blk _ _ _ _ _) pins s u I r⟩) (fun s H C cl fp => ⟨fun pins s σ H Q I h => h _ (d.toDef.blk _ _ _ _ _) pins s I⟩) (fun s H C cl fp => ⟨fun pins s σ H Q I h => h _ (d.toDef.blk _ _ _ _ _) pins s I⟩) hs
  refine P.run pins s σ H D I ?_
  show WE X iter σ H _
  refine we_mono (fun z H1 q => ?_) h
  obtain ⟨a, xs, e, hq, q⟩ := q
  refine ⟨a, e, ⟨xs, by rw [d.K]; exact hq⟩, fun L hL => ?_⟩
  obtain ⟨Pv, h0, hl, hst, hd⟩ := q L hL
  rw [d.K]
  exact lc_list (K := G.K) (a := a) (xs := xs) (σ := σ) (vs := own.map (·.2)) (H1 := H1) (D := L) (g := fun v σ H R => Blk X G N sc scope k fun X' => WG X' tg v σ H R) (tt := fun σ H R => Blk X G N sc scope k fun X' => WTs X' ifs σ H R) (te := fun σ H R => Blk X G N sc scope k fun X' => WE X' elt σ H R) (Qd := fun H => D.nx (σ.set i (some (.ref L))) H) Pv h0 hl hst hd
/-- .. over range(n) -/
def LcR (X : Cx) (G : Gb) (N : List Str) (sc scope : Scope) (k : Nat) (tg elt : Expr) (ifs : List Expr) (vs : List Nat) (σ : L2.St) (y : V) (H1 : Hp) (Q : VK) : Prop :=
  ∃ j : Int, y = .int j ∧ -(2 ^ 62) ≤ j ∧ j < 2 ^ 62 ∧ ∀ L, H1 L = none → ∃ Pv : Nat → Hp → Prop, Pv 0 (upd H1 L (.lst [])) ∧
    (∀ (i : Nat) H, i < j.toNat → Pv i H → Blk X G N sc scope k fun X' => WG X' tg (.int i) (wipe σ vs) H fun σ2 H2 => wipe σ2 vs = wipe σ vs ∧ Blk X G N sc scope k fun X' => WTs X' ifs σ2 H2 fun b H3 =>
      if b = true then Blk X G N sc scope k fun X' => WE X' elt σ2 H3 fun y H4 => ∃ acc, H4 L = some (.lst acc) ∧ acc.length < sizeLine ∧ Pv (i + 1) (upd H4 L (.lst (acc ++ [y]))) else Pv (i + 1) H3) ∧ ∀ H, Pv j.toNat H → Q (.ref L) H
theorem lcR_core (d : Def X G N sc k) {elt tg n : Expr} {ifs : List Expr} {vs : List Nat} (ha : ns n = true)
    (h : WE X n σ H fun y H1 => LcR X G N sc scope k tg elt ifs vs σ y H1 Q) : tLc (iRng1 (WA X [n])) (fun v σ H R => Blk X G N sc scope k fun X' => WG X' tg v σ H R) (fun σ H R => Blk X G N sc scope k fun X' => WTs X' ifs σ H R) (fun σ H R => Blk X G N sc scope k fun X' => WE X' elt σ H R) vs σ H Q := by
  show WA X [n] σ H _
  refine wa_cons ha (we_mono (fun y H1 q => wa_nil ?_) h)
  obtain ⟨j, e, b1, b2, q⟩ := q
  refine ⟨j, by rw [e], b1, b2, fun L hL => ?_⟩
  obtain ⟨Pv, h0, hst, hd⟩ := q L hL
  refine lc_range (lo := 0) (n := j.toNat) (σ := σ) (vs := vs) (H1 := H1) (D := L) (g := fun v σ H R => Blk X G N sc scope k fun X' => WG X' tg v σ H R) (tt := fun σ H R => Blk X G N sc scope k fun X' => WTs X' ifs σ H R) (te := fun σ H R => Blk X G N sc scope k fun X' => WE X' elt σ H R) (Qd := fun H => Q (.ref L) H) Pv h0 (fun i H hi hp => ?_) hd
  rw [Int.zero_add]
  exact hst i H hi hp
theorem ws_lcR (d : Fr X G N sc k W) (i : Nat) {y : Str} {py spos rp rp2 : Pos} {elt tg n : Expr} {ifs : List Expr} (own : List (Str × Nat)) (hy : N[i]? = some y) (hyl : sc.names.lookup y = some .local) (ok : blkC N sc scope own = true) (hg : glB sc "range" = true) (hm : G.mg "range" = none)
    (hs : ∀ x, foldedSetIterable (.Call (.Name "range" rp) [n] [] rp2) X.env x = pure x) (ha : ns n = true)
    (hl : (py.line == pos.line) = true) (hn : (scope.names.any fun (n, k) => n == y && (k == .local || k == .cell)) = false)
    (h : WE X n σ H fun z H1 => LcR X G N sc scope k tg elt ifs (own.map (·.2)) σ z H1 fun v H2 => D.nx (σ.set i (some v)) H2) : WS X (.Assign [.Name y py] (.ListComp elt [⟨tg, (.Call (.Name "range" rp) [n] [] rp2), ifs, 0⟩] scope pos) spos) D σ H := by
  intro pins s I
  have P := ps_setLc (X := X) (i := i) (own := own) (elt := elt) (pos := pos) (spos := spos) (py := py) (wi := iRng1 (WA X [n])) (g := fun v σ H R => Blk X G N sc scope k fun X' => WG X' tg v σ H R) (tt := fun σ H R => Blk X G N sc scope k fun X' => WTs X' ifs σ H R) (te := fun σ H R => Blk X G N sc scope k fun X' => WE X' elt σ H R)
    d.calm (by rw [d.n]; exact d.nd) (by rw [d.n]; exact hy) (by rw [d.sc]; exact hyl) (sw_true I.ok.kind (by rw [d.sc]; exact hyl) hl hn) (pi_range1 (d.gl hg) (by rw [d.mg]; exact hm) pa_wa (star_ns ha)) (by rw [d.n, d.sc]; exact blkOk_by ok)
    (fun s H C cl fp => ⟨fun pins s σ H v u Q I r h => h _ (d.toDef.blk _ _ _ _ _) pins s u I r⟩) (fun s H C cl fp => ⟨fun pins s σ H Q I h => h _ (d.toDef.blk _ _ _ _ _) pins s I⟩) (fun s H C cl fp => ⟨fun pins s σ H Q I h => h _ (d.toDef.blk _ _ _ _ _) pins s I⟩) hs
  refine P.run pins s σ H D I ?_
  exact lcR_core (Q := fun v H2 => D.nx (σ.set i (some v)) H2) d.toDef ha h
theorem we_lcR (d : Def X G N sc k) {elt tg n : Expr} {ifs : List Expr} {rp rp2 : Pos} (own : List (Str × Nat)) (ok : blkC N sc scope own = true) (hg : glB sc "range" = true) (hm : G.mg "range" = none)
    (hs : ∀ x, foldedSetIterable (.Call (.Name "range" rp) [n] [] rp2) X.env x = pure x) (ha : ns n = true)
    (h : WE X n σ H fun y H1 => LcR X G N sc scope k tg elt ifs (own.map (·.2)) σ y H1 Q) : WE X (.ListComp elt [⟨tg, (.Call (.Name "range" rp) [n] [] rp2), ifs, 0⟩] scope pos) σ H Q :=
  we_of (pe_lcW d (pi_range1 (d.gl hg) (by rw [d.mg]; exact hm) pa_wa (star_ns ha)) (blkOk_by ok) hs) (lcR_core d ha h)

/-! ### dict displays with text keys -/
theorem we_disp4 (d : Def X G N sc k) {k1 k2 k3 k4 : Str} {e1 e2 e3 e4 : Expr} {j1 j2 j3 j4} {p1 p2 p3 p4 : Pos}
    (h : ∀ p, H p = none → WE X e1 σ (upd H p (.dK [])) fun v1 H1 => WE X e2 σ H1 fun v2 H2 => WE X e3 σ H2 fun v3 H3 => WE X e4 σ H3 fun v4 H4 =>
      H4 p = some (.dK []) ∧ Q (.ref p) (upd H4 p (.dK (mergeK [] [(Sum.inr k1, v1), (Sum.inr k2, v2), (Sum.inr k3, v3), (Sum.inr k4, v4)])))) :
    WE X (.Dict [some (.Constant (.str k1) j1 p1), some (.Constant (.str k2) j2 p2), some (.Constant (.str k3) j3 p3), some (.Constant (.str k4) j4 p4)] [e1, e2, e3, e4] pos) σ H Q := by
  refine we_of (pe_disp (pps_cons pe_str pe_we (pps_cons pe_str pe_we (pps_cons pe_str pe_we (pps_cons pe_str pe_we pps_nil)))) rfl rfl (fun z => by cases z) (by show 4 ≤ 15; decide)) fun p hp => ?_
  show WE X e1 σ (upd H p (.dK [])) _
  refine we_mono (fun v1 H1 q => we_mono (fun v2 H2 q => we_mono (fun v3 H3 q => we_mono (fun v4 H4 q => ?_) q) q) q) (h p hp)
  exact ⟨q.1, [(Sum.inr k1, v1), (Sum.inr k2, v2), (Sum.inr k3, v3), (Sum.inr k4, v4)], rfl, by show 4 ≤ 15; decide, q.2⟩
end
end Wx

namespace Wx
open PySem L2
section
variable {X : Cx} {e a b c : Expr} {es : List Expr} {σ : L2.St} {H : Hp} {Q : VK} {QT : Bool → Hp → Prop} {pos p : Pos} {x y : V} {v : V} {G : Gb} {N : List Str} {sc scope : Scope} {k : Nat} {W : WX} {i j : Int}
def cellB (sc : Scope) (x : Str) : Bool := match sc.names.lookup x with | some .cell => true | some .local => true | _ => false
theorem locs {z : Str} (h : cellB sc z = true) : L2.Loc sc z := by
  unfold cellB at h
  unfold L2.Loc
  split at h
  · exact .inr (by assumption)
  · exact .inl (by assumption)
  · cases h

section
variable {D : Ends}
theorem we_n0 {n0 : Str} {τ : L2.St} (d : Def X G (n0 :: N) sc k) (hv : visB sc n0 = true) (q : Q v H) (hd : (n0 == ("__debug__" : Str)) = false := by decide +kernel) (hc : (n0 == ("__classdict__" : Str)) = false := by decide +kernel) : WE X (.Name n0 pos) (some v :: τ) H Q :=
  we_name d 0 rfl hv rfl q hd hc
theorem ws_s0 {n0 : Str} {s0 : Option V} {τ : L2.St} {pos' : Pos} (d : Fr X G (n0 :: N) sc k W) (hl : cellB sc n0 = true) (hs : swapsWith e (some (.Name n0 pos')) pos.line X.env = pure false) (h : WE X e (s0 :: τ) H fun v H1 => D.nx (some v :: τ) H1) : WS X (.Assign [.Name n0 pos'] e pos) D (s0 :: τ) H :=
  ws_set d 0 rfl (locs hl) hs h
theorem wg_n0 {n0 : Str} {s0 : Option V} {τ : L2.St} {R : L2.St → Hp → Prop} (d : Fr X G (n0 :: N) sc k W) (hl : cellB sc n0 = true) (q : R (some v :: τ) H) : WG X (.Name n0 pos) v (s0 :: τ) H R :=
  wg_name d.toDef 0 rfl (locs hl) (.inl (d.fn _)) q
theorem wg_b0 {n0 : Str} {s0 : Option V} {τ : L2.St} {R : L2.St → Hp → Prop} (d : Def X G (n0 :: N) sc k) (hl : locB sc n0 = true) (q : R (some v :: τ) H) : WG X (.Name n0 pos) v (s0 :: τ) H R :=
  wg_name d 0 rfl (.inl (loc_of hl)) (.inr (loc_of hl)) q
theorem we_n1 {n0 n1 : Str} {s0 : Option V} {τ : L2.St} (d : Def X G (n0 :: n1 :: N) sc k) (hv : visB sc n1 = true) (q : Q v H) (hd : (n1 == ("__debug__" : Str)) = false := by decide +kernel) (hc : (n1 == ("__classdict__" : Str)) = false := by decide +kernel) : WE X (.Name n1 pos) (s0 :: some v :: τ) H Q :=
  we_name d 1 rfl hv rfl q hd hc
theorem ws_s1 {n0 n1 : Str} {s0 s1 : Option V} {τ : L2.St} {pos' : Pos} (d : Fr X G (n0 :: n1 :: N) sc k W) (hl : cellB sc n1 = true) (hs : swapsWith e (some (.Name n1 pos')) pos.line X.env = pure false) (h : WE X e (s0 :: s1 :: τ) H fun v H1 => D.nx (s0 :: some v :: τ) H1) : WS X (.Assign [.Name n1 pos'] e pos) D (s0 :: s1 :: τ) H :=
  ws_set d 1 rfl (locs hl) hs h
theorem wg_n1 {n0 n1 : Str} {s0 s1 : Option V} {τ : L2.St} {R : L2.St → Hp → Prop} (d : Fr X G (n0 :: n1 :: N) sc k W) (hl : cellB sc n1 = true) (q : R (s0 :: some v :: τ) H) : WG X (.Name n1 pos) v (s0 :: s1 :: τ) H R :=
  wg_name d.toDef 1 rfl (locs hl) (.inl (d.fn _)) q
theorem wg_b1 {n0 n1 : Str} {s0 s1 : Option V} {τ : L2.St} {R : L2.St → Hp → Prop} (d : Def X G (n0 :: n1 :: N) sc k) (hl : locB sc n1 = true) (q : R (s0 :: some v :: τ) H) : WG X (.Name n1 pos) v (s0 :: s1 :: τ) H R :=
  wg_name d 1 rfl (.inl (loc_of hl)) (.inr (loc_of hl)) q
theorem we_n2 {n0 n1 n2 : Str} {s0 s1 : Option V} {τ : L2.St} (d : Def X G (n0 :: n1 :: n2 :: N) sc k) (hv : visB sc n2 = true) (q : Q v H) (hd : (n2 == ("__debug__" : Str)) = false := by decide +kernel) (hc : (n2 == ("__classdict__" : Str)) = false := by decide +kernel) : WE X (.Name n2 pos) (s0 :: s1 :: some v :: τ) H Q :=
  we_name d 2 rfl hv rfl q hd hc
theorem ws_s2 {n0 n1 n2 : Str} {s0 s1 s2 : Option V} {τ : L2.St} {pos' : Pos} (d : Fr X G (n0 :: n1 :: n2 :: N) sc k W) (hl : cellB sc n2 = true) (hs : swapsWith e (some (.Name n2 pos')) pos.line X.env = pure false) (h : WE X e (s0 :: s1 :: s2 :: τ) H fun v H1 => D.nx (s0 :: s1 :: some v :: τ) H1) : WS X (.Assign [.Name n2 pos'] e pos) D (s0 :: s1 :: s2 :: τ) H :=
  ws_set d 2 rfl (locs hl) hs h
theorem wg_n2 {n0 n1 n2 : Str} {s0 s1 s2 : Option V} {τ : L2.St} {R : L2.St → Hp → Prop} (d : Fr X G (n0 :: n1 :: n2 :: N) sc k W) (hl : cellB sc n2 = true) (q : R (s0 :: s1 :: some v :: τ) H) : WG X (.Name n2 pos) v (s0 :: s1 :: s2 :: τ) H R :=
  wg_name d.toDef 2 rfl (locs hl) (.inl (d.fn _)) q
theorem wg_b2 {n0 n1 n2 : Str} {s0 s1 s2 : Option V} {τ : L2.St} {R : L2.St → Hp → Prop} (d : Def X G (n0 :: n1 :: n2 :: N) sc k) (hl : locB sc n2 = true) (q : R (s0 :: s1 :: some v :: τ) H) : WG X (.Name n2 pos) v (s0 :: s1 :: s2 :: τ) H R :=
  wg_name d 2 rfl (.inl (loc_of hl)) (.inr (loc_of hl)) q
theorem we_n3 {n0 n1 n2 n3 : Str} {s0 s1 s2 : Option V} {τ : L2.St} (d : Def X G (n0 :: n1 :: n2 :: n3 :: N) sc k) (hv : visB sc n3 = true) (q : Q v H) (hd : (n3 == ("__debug__" : Str)) = false := by decide +kernel) (hc : (n3 == ("__classdict__" : Str)) = false := by decide +kernel) : WE X (.Name n3 pos) (s0 :: s1 :: s2 :: some v :: τ) H Q :=
  we_name d 3 rfl hv rfl q hd hc
theorem ws_s3 {n0 n1 n2 n3 : Str} {s0 s1 s2 s3 : Option V} {τ : L2.St} {pos' : Pos} (d : Fr X G (n0 :: n1 :: n2 :: n3 :: N) sc k W) (hl : cellB sc n3 = true) (hs : swapsWith e (some (.Name n3 pos')) pos.line X.env = pure false) (h : WE X e (s0 :: s1 :: s2 :: s3 :: τ) H fun v H1 => D.nx (s0 :: s1 :: s2 :: some v :: τ) H1) : WS X (.Assign [.Name n3 pos'] e pos) D (s0 :: s1 :: s2 :: s3 :: τ) H :=
  ws_set d 3 rfl (locs hl) hs h
theorem wg_n3 {n0 n1 n2 n3 : Str} {s0 s1 s2 s3 : Option V} {τ : L2.St} {R : L2.St → Hp → Prop} (d : Fr X G (n0 :: n1 :: n2 :: n3 :: N) sc k W) (hl : cellB sc n3 = true) (q : R (s0 :: s1 :: s2 :: some v :: τ) H) : WG X (.Name n3 pos) v (s0 :: s1 :: s2 :: s3 :: τ) H R :=
  wg_name d.toDef 3 rfl (locs hl) (.inl (d.fn _)) q
theorem wg_b3 {n0 n1 n2 n3 : Str} {s0 s1 s2 s3 : Option V} {τ : L2.St} {R : L2.St → Hp → Prop} (d : Def X G (n0 :: n1 :: n2 :: n3 :: N) sc k) (hl : locB sc n3 = true) (q : R (s0 :: s1 :: s2 :: some v :: τ) H) : WG X (.Name n3 pos) v (s0 :: s1 :: s2 :: s3 :: τ) H R :=
  wg_name d 3 rfl (.inl (loc_of hl)) (.inr (loc_of hl)) q
theorem we_n4 {n0 n1 n2 n3 n4 : Str} {s0 s1 s2 s3 : Option V} {τ : L2.St} (d : Def X G (n0 :: n1 :: n2 :: n3 :: n4 :: N) sc k) (hv : visB sc n4 = true) (q : Q v H) (hd : (n4 == ("__debug__" : Str)) = false := by decide +kernel) (hc : (n4 == ("__classdict__" : Str)) = false := by decide +kernel) : WE X (.Name n4 pos) (s0 :: s1 :: s2 :: s3 :: some v :: τ) H Q :=
  we_name d 4 rfl hv rfl q hd hc
theorem ws_s4 {n0 n1 n2 n3 n4 : Str} {s0 s1 s2 s3 s4 : Option V} {τ : L2.St} {pos' : Pos} (d : Fr X G (n0 :: n1 :: n2 :: n3 :: n4 :: N) sc k W) (hl : cellB sc n4 = true) (hs : swapsWith e (some (.Name n4 pos')) pos.line X.env = pure false) (h : WE X e (s0 :: s1 :: s2 :: s3 :: s4 :: τ) H fun v H1 => D.nx (s0 :: s1 :: s2 :: s3 :: some v :: τ) H1) : WS X (.Assign [.Name n4 pos'] e pos) D (s0 :: s1 :: s2 :: s3 :: s4 :: τ) H :=
  ws_set d 4 rfl (locs hl) hs h
theorem wg_n4 {n0 n1 n2 n3 n4 : Str} {s0 s1 s2 s3 s4 : Option V} {τ : L2.St} {R : L2.St → Hp → Prop} (d : Fr X G (n0 :: n1 :: n2 :: n3 :: n4 :: N) sc k W) (hl : cellB sc n4 = true) (q : R (s0 :: s1 :: s2 :: s3 :: some v :: τ) H) : WG X (.Name n4 pos) v (s0 :: s1 :: s2 :: s3 :: s4 :: τ) H R :=
  wg_name d.toDef 4 rfl (locs hl) (.inl (d.fn _)) q
theorem wg_b4 {n0 n1 n2 n3 n4 : Str} {s0 s1 s2 s3 s4 : Option V} {τ : L2.St} {R : L2.St → Hp → Prop} (d : Def X G (n0 :: n1 :: n2 :: n3 :: n4 :: N) sc k) (hl : locB sc n4 = true) (q : R (s0 :: s1 :: s2 :: s3 :: some v :: τ) H) : WG X (.Name n4 pos) v (s0 :: s1 :: s2 :: s3 :: s4 :: τ) H R :=
  wg_name d 4 rfl (.inl (loc_of hl)) (.inr (loc_of hl)) q
theorem we_n5 {n0 n1 n2 n3 n4 n5 : Str} {s0 s1 s2 s3 s4 : Option V} {τ : L2.St} (d : Def X G (n0 :: n1 :: n2 :: n3 :: n4 :: n5 :: N) sc k) (hv : visB sc n5 = true) (q : Q v H) (hd : (n5 == ("__debug__" : Str)) = false := by decide +kernel) (hc : (n5 == ("__classdict__" : Str)) = false := by decide +kernel) : WE X (.Name n5 pos) (s0 :: s1 :: s2 :: s3 :: s4 :: some v :: τ) H Q :=
  we_name d 5 rfl hv rfl q hd hc
theorem ws_s5 {n0 n1 n2 n3 n4 n5 : Str} {s0 s1 s2 s3 s4 s5 : Option V} {τ : L2.St} {pos' : Pos} (d : Fr X G (n0 :: n1 :: n2 :: n3 :: n4 :: n5 :: N) sc k W) (hl : cellB sc n5 = true) (hs : swapsWith e (some (.Name n5 pos')) pos.line X.env = pure false) (h : WE X e (s0 :: s1 :: s2 :: s3 :: s4 :: s5 :: τ) H fun v H1 => D.nx (s0 :: s1 :: s2 :: s3 :: s4 :: some v :: τ) H1) : WS X (.Assign [.Name n5 pos'] e pos) D (s0 :: s1 :: s2 :: s3 :: s4 :: s5 :: τ) H :=
  ws_set d 5 rfl (locs hl) hs h
theorem wg_n5 {n0 n1 n2 n3 n4 n5 : Str} {s0 s1 s2 s3 s4 s5 : Option V} {τ : L2.St} {R : L2.St → Hp → Prop} (d : Fr X G (n0 :: n1 :: n2 :: n3 :: n4 :: n5 :: N) sc k W) (hl : cellB sc n5 = true) (q : R (s0 :: s1 :: s2 :: s3 :: s4 :: some v :: τ) H) : WG X (.Name n5 pos) v (s0 :: s1 :: s2 :: s3 :: s4 :: s5 :: τ) H R :=
  wg_name d.toDef 5 rfl (locs hl) (.inl (d.fn _)) q
theorem wg_b5 {n0 n1 n2 n3 n4 n5 : Str} {s0 s1 s2 s3 s4 s5 : Option V} {τ : L2.St} {R : L2.St → Hp → Prop} (d : Def X G (n0 :: n1 :: n2 :: n3 :: n4 :: n5 :: N) sc k) (hl : locB sc n5 = true) (q : R (s0 :: s1 :: s2 :: s3 :: s4 :: some v :: τ) H) : WG X (.Name n5 pos) v (s0 :: s1 :: s2 :: s3 :: s4 :: s5 :: τ) H R :=
  wg_name d 5 rfl (.inl (loc_of hl)) (.inr (loc_of hl)) q
theorem we_n6 {n0 n1 n2 n3 n4 n5 n6 : Str} {s0 s1 s2 s3 s4 s5 : Option V} {τ : L2.St} (d : Def X G (n0 :: n1 :: n2 :: n3 :: n4 :: n5 :: n6 :: N) sc k) (hv : visB sc n6 = true) (q : Q v H) (hd : (n6 == ("__debug__" : Str)) = false := by decide +kernel) (hc : (n6 == ("__classdict__" : Str)) = false := by decide +kernel) : WE X (.Name n6 pos) (s0 :: s1 :: s2 :: s3 :: s4 :: s5 :: some v :: τ) H Q :=
  we_name d 6 rfl hv rfl q hd hc
theorem ws_s6 {n0 n1 n2 n3 n4 n5 n6 : Str} {s0 s1 s2 s3 s4 s5 s6 : Option V} {τ : L2.St} {pos' : Pos} (d : Fr X G (n0 :: n1 :: n2 :: n3 :: n4 :: n5 :: n6 :: N) sc k W) (hl : cellB sc n6 = true) (hs : swapsWith e (some (.Name n6 pos')) pos.line X.env = pure false) (h : WE X e (s0 :: s1 :: s2 :: s3 :: s4 :: s5 :: s6 :: τ) H fun v H1 => D.nx (s0 :: s1 :: s2 :: s3 :: s4 :: s5 :: some v :: τ) H1) : WS X (.Assign [.Name n6 pos'] e pos) D (s0 :: s1 :: s2 :: s3 :: s4 :: s5 :: s6 :: τ) H :=
  ws_set d 6 rfl (locs hl) hs h
theorem wg_n6 {n0 n1 n2 n3 n4 n5 n6 : Str} {s0 s1 s2 s3 s4 s5 s6 : Option V} {τ : L2.St} {R : L2.St → Hp → Prop} (d : Fr X G (n0 :: n1 :: n2 :: n3 :: n4 :: n5 :: n6 :: N) sc k W) (hl : cellB sc n6 = true) (q : R (s0 :: s1 :: s2 :: s3 :: s4 :: s5 :: some v :: τ) H) : WG X (.Name n6 pos) v (s0 :: s1 :: s2 :: s3 :: s4 :: s5 :: s6 :: τ) H R :=
  wg_name d.toDef 6 rfl (locs hl) (.inl (d.fn _)) q
theorem wg_b6 {n0 n1 n2 n3 n4 n5 n6 : Str} {s0 s1 s2 s3 s4 s5 s6 : Option V} {τ : L2.St} {R : L2.St → Hp → Prop} (d : Def X G (n0 :: n1 :: n2 :: n3 :: n4 :: n5 :: n6 :: N) sc k) (hl : locB sc n6 = true) (q : R (s0 :: s1 :: s2 :: s3 :: s4 :: s5 :: some v :: τ) H) : WG X (.Name n6 pos) v (s0 :: s1 :: s2 :: s3 :: s4 :: s5 :: s6 :: τ) H R :=
  wg_name d 6 rfl (.inl (loc_of hl)) (.inr (loc_of hl)) q
theorem we_n7 {n0 n1 n2 n3 n4 n5 n6 n7 : Str} {s0 s1 s2 s3 s4 s5 s6 : Option V} {τ : L2.St} (d : Def X G (n0 :: n1 :: n2 :: n3 :: n4 :: n5 :: n6 :: n7 :: N) sc k) (hv : visB sc n7 = true) (q : Q v H) (hd : (n7 == ("__debug__" : Str)) = false := by decide +kernel) (hc : (n7 == ("__classdict__" : Str)) = false := by decide +kernel) : WE X (.Name n7 pos) (s0 :: s1 :: s2 :: s3 :: s4 :: s5 :: s6 :: some v :: τ) H Q :=
  we_name d 7 rfl hv rfl q hd hc
theorem ws_s7 {n0 n1 n2 n3 n4 n5 n6 n7 : Str} {s0 s1 s2 s3 s4 s5 s6 s7 : Option V} {τ : L2.St} {pos' : Pos} (d : Fr X G (n0 :: n1 :: n2 :: n3 :: n4 :: n5 :: n6 :: n7 :: N) sc k W) (hl : cellB sc n7 = true) (hs : swapsWith e (some (.Name n7 pos')) pos.line X.env = pure false) (h : WE X e (s0 :: s1 :: s2 :: s3 :: s4 :: s5 :: s6 :: s7 :: τ) H fun v H1 => D.nx (s0 :: s1 :: s2 :: s3 :: s4 :: s5 :: s6 :: some v :: τ) H1) : WS X (.Assign [.Name n7 pos'] e pos) D (s0 :: s1 :: s2 :: s3 :: s4 :: s5 :: s6 :: s7 :: τ) H :=
  ws_set d 7 rfl (locs hl) hs h
theorem wg_n7 {n0 n1 n2 n3 n4 n5 n6 n7 : Str} {s0 s1 s2 s3 s4 s5 s6 s7 : Option V} {τ : L2.St} {R : L2.St → Hp → Prop} (d : Fr X G (n0 :: n1 :: n2 :: n3 :: n4 :: n5 :: n6 :: n7 :: N) sc k W) (hl : cellB sc n7 = true) (q : R (s0 :: s1 :: s2 :: s3 :: s4 :: s5 :: s6 :: some v :: τ) H) : WG X (.Name n7 pos) v (s0 :: s1 :: s2 :: s3 :: s4 :: s5 :: s6 :: s7 :: τ) H R :=
  wg_name d.toDef 7 rfl (locs hl) (.inl (d.fn _)) q
theorem wg_b7 {n0 n1 n2 n3 n4 n5 n6 n7 : Str} {s0 s1 s2 s3 s4 s5 s6 s7 : Option V} {τ : L2.St} {R : L2.St → Hp → Prop} (d : Def X G (n0 :: n1 :: n2 :: n3 :: n4 :: n5 :: n6 :: n7 :: N) sc k) (hl : locB sc n7 = true) (q : R (s0 :: s1 :: s2 :: s3 :: s4 :: s5 :: s6 :: some v :: τ) H) : WG X (.Name n7 pos) v (s0 :: s1 :: s2 :: s3 :: s4 :: s5 :: s6 :: s7 :: τ) H R :=
  wg_name d 7 rfl (.inl (loc_of hl)) (.inr (loc_of hl)) q
theorem we_n8 {n0 n1 n2 n3 n4 n5 n6 n7 n8 : Str} {s0 s1 s2 s3 s4 s5 s6 s7 : Option V} {τ : L2.St} (d : Def X G (n0 :: n1 :: n2 :: n3 :: n4 :: n5 :: n6 :: n7 :: n8 :: N) sc k) (hv : visB sc n8 = true) (q : Q v H) (hd : (n8 == ("__debug__" : Str)) = false := by decide +kernel) (hc : (n8 == ("__classdict__" : Str)) = false := by decide +kernel) : WE X (.Name n8 pos) (s0 :: s1 :: s2 :: s3 :: s4 :: s5 :: s6 :: s7 :: some v :: τ) H Q :=
  we_name d 8 rfl hv rfl q hd hc
theorem ws_s8 {n0 n1 n2 n3 n4 n5 n6 n7 n8 : Str} {s0 s1 s2 s3 s4 s5 s6 s7 s8 : Option V} {τ : L2.St} {pos' : Pos} (d : Fr X G (n0 :: n1 :: n2 :: n3 :: n4 :: n5 :: n6 :: n7 :: n8 :: N) sc k W) (hl : cellB sc n8 = true) (hs : swapsWith e (some (.Name n8 pos')) pos.line X.env = pure false) (h : WE X e (s0 :: s1 :: s2 :: s3 :: s4 :: s5 :: s6 :: s7 :: s8 :: τ) H fun v H1 => D.nx (s0 :: s1 :: s2 :: s3 :: s4 :: s5 :: s6 :: s7 :: some v :: τ) H1) : WS X (.Assign [.Name n8 pos'] e pos) D (s0 :: s1 :: s2 :: s3 :: s4 :: s5 :: s6 :: s7 :: s8 :: τ) H :=
  ws_set d 8 rfl (locs hl) hs h
theorem wg_n8 {n0 n1 n2 n3 n4 n5 n6 n7 n8 : Str} {s0 s1 s2 s3 s4 s5 s6 s7 s8 : Option V} {τ : L2.St} {R : L2.St → Hp → Prop} (d : Fr X G (n0 :: n1 :: n2 :: n3 :: n4 :: n5 :: n6 :: n7 :: n8 :: N) sc k W) (hl : cellB sc n8 = true) (q : R (s0 :: s1 :: s2 :: s3 :: s4 :: s5 :: s6 :: s7 :: some v :: τ) H) : WG X (.Name n8 pos) v (s0 :: s1 :: s2 :: s3 :: s4 :: s5 :: s6 :: s7 :: s8 :: τ) H R :=
  wg_name d.toDef 8 rfl (locs hl) (.inl (d.fn _)) q
theorem wg_b8 {n0 n1 n2 n3 n4 n5 n6 n7 n8 : Str} {s0 s1 s2 s3 s4 s5 s6 s7 s8 : Option V} {τ : L2.St} {R : L2.St → Hp → Prop} (d : Def X G (n0 :: n1 :: n2 :: n3 :: n4 :: n5 :: n6 :: n7 :: n8 :: N) sc k) (hl : locB sc n8 = true) (q : R (s0 :: s1 :: s2 :: s3 :: s4 :: s5 :: s6 :: s7 :: some v :: τ) H) : WG X (.Name n8 pos) v (s0 :: s1 :: s2 :: s3 :: s4 :: s5 :: s6 :: s7 :: s8 :: τ) H R :=
  wg_name d 8 rfl (.inl (loc_of hl)) (.inr (loc_of hl)) q
theorem we_n9 {n0 n1 n2 n3 n4 n5 n6 n7 n8 n9 : Str} {s0 s1 s2 s3 s4 s5 s6 s7 s8 : Option V} {τ : L2.St} (d : Def X G (n0 :: n1 :: n2 :: n3 :: n4 :: n5 :: n6 :: n7 :: n8 :: n9 :: N) sc k) (hv : visB sc n9 = true) (q : Q v H) (hd : (n9 == ("__debug__" : Str)) = false := by decide +kernel) (hc : (n9 == ("__classdict__" : Str)) = false := by decide +kernel) : WE X (.Name n9 pos) (s0 :: s1 :: s2 :: s3 :: s4 :: s5 :: s6 :: s7 :: s8 :: some v :: τ) H Q :=
  we_name d 9 rfl hv rfl q hd hc
theorem ws_s9 {n0 n1 n2 n3 n4 n5 n6 n7 n8 n9 : Str} {s0 s1 s2 s3 s4 s5 s6 s7 s8 s9 : Option V} {τ : L2.St} {pos' : Pos} (d : Fr X G (n0 :: n1 :: n2 :: n3 :: n4 :: n5 :: n6 :: n7 :: n8 :: n9 :: N) sc k W) (hl : cellB sc n9 = true) (hs : swapsWith e (some (.Name n9 pos')) pos.line X.env = pure false) (h : WE X e (s0 :: s1 :: s2 :: s3 :: s4 :: s5 :: s6 :: s7 :: s8 :: s9 :: τ) H fun v H1 => D.nx (s0 :: s1 :: s2 :: s3 :: s4 :: s5 :: s6 :: s7 :: s8 :: some v :: τ) H1) : WS X (.Assign [.Name n9 pos'] e pos) D (s0 :: s1 :: s2 :: s3 :: s4 :: s5 :: s6 :: s7 :: s8 :: s9 :: τ) H :=
  ws_set d 9 rfl (locs hl) hs h
theorem wg_n9 {n0 n1 n2 n3 n4 n5 n6 n7 n8 n9 : Str} {s0 s1 s2 s3 s4 s5 s6 s7 s8 s9 : Option V} {τ : L2.St} {R : L2.St → Hp → Prop} (d : Fr X G (n0 :: n1 :: n2 :: n3 :: n4 :: n5 :: n6 :: n7 :: n8 :: n9 :: N) sc k W) (hl : cellB sc n9 = true) (q : R (s0 :: s1 :: s2 :: s3 :: s4 :: s5 :: s6 :: s7 :: s8 :: some v :: τ) H) : WG X (.Name n9 pos) v (s0 :: s1 :: s2 :: s3 :: s4 :: s5 :: s6 :: s7 :: s8 :: s9 :: τ) H R :=
  wg_name d.toDef 9 rfl (locs hl) (.inl (d.fn _)) q
theorem wg_b9 {n0 n1 n2 n3 n4 n5 n6 n7 n8 n9 : Str} {s0 s1 s2 s3 s4 s5 s6 s7 s8 s9 : Option V} {τ : L2.St} {R : L2.St → Hp → Prop} (d : Def X G (n0 :: n1 :: n2 :: n3 :: n4 :: n5 :: n6 :: n7 :: n8 :: n9 :: N) sc k) (hl : locB sc n9 = true) (q : R (s0 :: s1 :: s2 :: s3 :: s4 :: s5 :: s6 :: s7 :: s8 :: some v :: τ) H) : WG X (.Name n9 pos) v (s0 :: s1 :: s2 :: s3 :: s4 :: s5 :: s6 :: s7 :: s8 :: s9 :: τ) H R :=
  wg_name d 9 rfl (.inl (loc_of hl)) (.inr (loc_of hl)) q
theorem we_n10 {n0 n1 n2 n3 n4 n5 n6 n7 n8 n9 n10 : Str} {s0 s1 s2 s3 s4 s5 s6 s7 s8 s9 : Option V} {τ : L2.St} (d : Def X G (n0 :: n1 :: n2 :: n3 :: n4 :: n5 :: n6 :: n7 :: n8 :: n9 :: n10 :: N) sc k) (hv : visB sc n10 = true) (q : Q v H) (hd : (n10 == ("__debug__" : Str)) = false := by decide +kernel) (hc : (n10 == ("__classdict__" : Str)) = false := by decide +kernel) : WE X (.Name n10 pos) (s0 :: s1 :: s2 :: s3 :: s4 :: s5 :: s6 :: s7 :: s8 :: s9 :: some v :: τ) H Q :=
  we_name d 10 rfl hv rfl q hd hc
theorem ws_s10 {n0 n1 n2 n3 n4 n5 n6 n7 n8 n9 n10 : Str} {s0 s1 s2 s3 s4 s5 s6 s7 s8 s9 s10 : Option V} {τ : L2.St} {pos' : Pos} (d : Fr X G (n0 :: n1 :: n2 :: n3 :: n4 :: n5 :: n6 :: n7 :: n8 :: n9 :: n10 :: N) sc k W) (hl : cellB sc n10 = true) (hs : swapsWith e (some (.Name n10 pos')) pos.line X.env = pure false) (h : WE X e (s0 :: s1 :: s2 :: s3 :: s4 :: s5 :: s6 :: s7 :: s8 :: s9 :: s10 :: τ) H fun v H1 => D.nx (s0 :: s1 :: s2 :: s3 :: s4 :: s5 :: s6 :: s7 :: s8 :: s9 :: some v :: τ) H1) : WS X (.Assign [.Name n10 pos'] e pos) D (s0 :: s1 :: s2 :: s3 :: s4 :: s5 :: s6 :: s7 :: s8 :: s9 :: s10 :: τ) H :=
  ws_set d 10 rfl (locs hl) hs h
theorem wg_n10 {n0 n1 n2 n3 n4 n5 n6 n7 n8 n9 n10 : Str} {s0 s1 s2 s3 s4 s5 s6 s7 s8 s9 s10 : Option V} {τ : L2.St} {R : L2.St → Hp → Prop} (d : Fr X G (n0 :: n1 :: n2 :: n3 :: n4 :: n5 :: n6 :: n7 :: n8 :: n9 :: n10 :: N) sc k W) (hl : cellB sc n10 = true) (q : R (s0 :: s1 :: s2 :: s3 :: s4 :: s5 :: s6 :: s7 :: s8 :: s9 :: some v :: τ) H) : WG X (.Name n10 pos) v (s0 :: s1 :: s2 :: s3 :: s4 :: s5 :: s6 :: s7 :: s8 :: s9 :: s10 :: τ) H R :=
  wg_name d.toDef 10 rfl (locs hl) (.inl (d.fn _)) q
theorem wg_b10 {n0 n1 n2 n3 n4 n5 n6 n7 n8 n9 n10 : Str} {s0 s1 s2 s3 s4 s5 s6 s7 s8 s9 s10 : Option V} {τ : L2.St} {R : L2.St → Hp → Prop} (d : Def X G (n0 :: n1 :: n2 :: n3 :: n4 :: n5 :: n6 :: n7 :: n8 :: n9 :: n10 :: N) sc k) (hl : locB sc n10 = true) (q : R (s0 :: s1 :: s2 :: s3 :: s4 :: s5 :: s6 :: s7 :: s8 :: s9 :: some v :: τ) H) : WG X (.Name n10 pos) v (s0 :: s1 :: s2 :: s3 :: s4 :: s5 :: s6 :: s7 :: s8 :: s9 :: s10 :: τ) H R :=
  wg_name d 10 rfl (.inl (loc_of hl)) (.inr (loc_of hl)) q
theorem we_n11 {n0 n1 n2 n3 n4 n5 n6 n7 n8 n9 n10 n11 : Str} {s0 s1 s2 s3 s4 s5 s6 s7 s8 s9 s10 : Option V} {τ : L2.St} (d : Def X G (n0 :: n1 :: n2 :: n3 :: n4 :: n5 :: n6 :: n7 :: n8 :: n9 :: n10 :: n11 :: N) sc k) (hv : visB sc n11 = true) (q : Q v H) (hd : (n11 == ("__debug__" : Str)) = false := by decide +kernel) (hc : (n11 == ("__classdict__" : Str)) = false := by decide +kernel) : WE X (.Name n11 pos) (s0 :: s1 :: s2 :: s3 :: s4 :: s5 :: s6 :: s7 :: s8 :: s9 :: s10 :: some v :: τ) H Q :=
  we_name d 11 rfl hv rfl q hd hc
theorem ws_s11 {n0 n1 n2 n3 n4 n5 n6 n7 n8 n9 n10 n11 : Str} {s0 s1 s2 s3 s4 s5 s6 s7 s8 s9 s10 s11 : Option V} {τ : L2.St} {pos' : Pos} (d : Fr X G (n0 :: n1 :: n2 :: n3 :: n4 :: n5 :: n6 :: n7 :: n8 :: n9 :: n10 :: n11 :: N) sc k W) (hl : cellB sc n11 = true) (hs : swapsWith e (some (.Name n11 pos')) pos.line X.env = pure false) (h : WE X e (s0 :: s1 :: s2 :: s3 :: s4 :: s5 :: s6 :: s7 :: s8 :: s9 :: s10 :: s11 :: τ) H fun v H1 => D.nx (s0 :: s1 :: s2 :: s3 :: s4 :: s5 :: s6 :: s7 :: s8 :: s9 :: s10 :: some v :: τ) H1) : WS X (.Assign [.Name n11 pos'] e pos) D (s0 :: s1 :: s2 :: s3 :: s4 :: s5 :: s6 :: s7 :: s8 :: s9 :: s10 :: s11 :: τ) H :=
  ws_set d 11 rfl (locs hl) hs h
theorem wg_n11 {n0 n1 n2 n3 n4 n5 n6 n7 n8 n9 n10 n11 : Str} {s0 s1 s2 s3 s4 s5 s6 s7 s8 s9 s10 s11 : Option V} {τ : L2.St} {R : L2.St → Hp → Prop} (d : Fr X G (n0 :: n1 :: n2 :: n3 :: n4 :: n5 :: n6 :: n7 :: n8 :: n9 :: n10 :: n11 :: N) sc k W) (hl : cellB sc n11 = true) (q : R (s0 :: s1 :: s2 :: s3 :: s4 :: s5 :: s6 :: s7 :: s8 :: s9 :: s10 :: some v :: τ) H) : WG X (.Name n11 pos) v (s0 :: s1 :: s2 :: s3 :: s4 :: s5 :: s6 :: s7 :: s8 :: s9 :: s10 :: s11 :: τ) H R :=
  wg_name d.toDef 11 rfl (locs hl) (.inl (d.fn _)) q
theorem wg_b11 {n0 n1 n2 n3 n4 n5 n6 n7 n8 n9 n10 n11 : Str} {s0 s1 s2 s3 s4 s5 s6 s7 s8 s9 s10 s11 : Option V} {τ : L2.St} {R : L2.St → Hp → Prop} (d : Def X G (n0 :: n1 :: n2 :: n3 :: n4 :: n5 :: n6 :: n7 :: n8 :: n9 :: n10 :: n11 :: N) sc k) (hl : locB sc n11 = true) (q : R (s0 :: s1 :: s2 :: s3 :: s4 :: s5 :: s6 :: s7 :: s8 :: s9 :: s10 :: some v :: τ) H) : WG X (.Name n11 pos) v (s0 :: s1 :: s2 :: s3 :: s4 :: s5 :: s6 :: s7 :: s8 :: s9 :: s10 :: s11 :: τ) H R :=
  wg_name d 11 rfl (.inl (loc_of hl)) (.inr (loc_of hl)) q
theorem we_n12 {n0 n1 n2 n3 n4 n5 n6 n7 n8 n9 n10 n11 n12 : Str} {s0 s1 s2 s3 s4 s5 s6 s7 s8 s9 s10 s11 : Option V} {τ : L2.St} (d : Def X G (n0 :: n1 :: n2 :: n3 :: n4 :: n5 :: n6 :: n7 :: n8 :: n9 :: n10 :: n11 :: n12 :: N) sc k) (hv : visB sc n12 = true) (q : Q v H) (hd : (n12 == ("__debug__" : Str)) = false := by decide +kernel) (hc : (n12 == ("__classdict__" : Str)) = false := by decide +kernel) : WE X (.Name n12 pos) (s0 :: s1 :: s2 :: s3 :: s4 :: s5 :: s6 :: s7 :: s8 :: s9 :: s10 :: s11 :: some v :: τ) H Q :=
  we_name d 12 rfl hv rfl q hd hc
theorem ws_s12 {n0 n1 n2 n3 n4 n5 n6 n7 n8 n9 n10 n11 n12 : Str} {s0 s1 s2 s3 s4 s5 s6 s7 s8 s9 s10 s11 s12 : Option V} {τ : L2.St} {pos' : Pos} (d : Fr X G (n0 :: n1 :: n2 :: n3 :: n4 :: n5 :: n6 :: n7 :: n8 :: n9 :: n10 :: n11 :: n12 :: N) sc k W) (hl : cellB sc n12 = true) (hs : swapsWith e (some (.Name n12 pos')) pos.line X.env = pure false) (h : WE X e (s0 :: s1 :: s2 :: s3 :: s4 :: s5 :: s6 :: s7 :: s8 :: s9 :: s10 :: s11 :: s12 :: τ) H fun v H1 => D.nx (s0 :: s1 :: s2 :: s3 :: s4 :: s5 :: s6 :: s7 :: s8 :: s9 :: s10 :: s11 :: some v :: τ) H1) : WS X (.Assign [.Name n12 pos'] e pos) D (s0 :: s1 :: s2 :: s3 :: s4 :: s5 :: s6 :: s7 :: s8 :: s9 :: s10 :: s11 :: s12 :: τ) H :=
  ws_set d 12 rfl (locs hl) hs h
theorem wg_n12 {n0 n1 n2 n3 n4 n5 n6 n7 n8 n9 n10 n11 n12 : Str} {s0 s1 s2 s3 s4 s5 s6 s7 s8 s9 s10 s11 s12 : Option V} {τ : L2.St} {R : L2.St → Hp → Prop} (d : Fr X G (n0 :: n1 :: n2 :: n3 :: n4 :: n5 :: n6 :: n7 :: n8 :: n9 :: n10 :: n11 :: n12 :: N) sc k W) (hl : cellB sc n12 = true) (q : R (s0 :: s1 :: s2 :: s3 :: s4 :: s5 :: s6 :: s7 :: s8 :: s9 :: s10 :: s11 :: some v :: τ) H) : WG X (.Name n12 pos) v (s0 :: s1 :: s2 :: s3 :: s4 :: s5 :: s6 :: s7 :: s8 :: s9 :: s10 :: s11 :: s12 :: τ) H R :=
  wg_name d.toDef 12 rfl (locs hl) (.inl (d.fn _)) q
theorem wg_b12 {n0 n1 n2 n3 n4 n5 n6 n7 n8 n9 n10 n11 n12 : Str} {s0 s1 s2 s3 s4 s5 s6 s7 s8 s9 s10 s11 s12 : Option V} {τ : L2.St} {R : L2.St → Hp → Prop} (d : Def X G (n0 :: n1 :: n2 :: n3 :: n4 :: n5 :: n6 :: n7 :: n8 :: n9 :: n10 :: n11 :: n12 :: N) sc k) (hl : locB sc n12 = true) (q : R (s0 :: s1 :: s2 :: s3 :: s4 :: s5 :: s6 :: s7 :: s8 :: s9 :: s10 :: s11 :: some v :: τ) H) : WG X (.Name n12 pos) v (s0 :: s1 :: s2 :: s3 :: s4 :: s5 :: s6 :: s7 :: s8 :: s9 :: s10 :: s11 :: s12 :: τ) H R :=
  wg_name d 12 rfl (.inl (loc_of hl)) (.inr (loc_of hl)) q
theorem we_n13 {n0 n1 n2 n3 n4 n5 n6 n7 n8 n9 n10 n11 n12 n13 : Str} {s0 s1 s2 s3 s4 s5 s6 s7 s8 s9 s10 s11 s12 : Option V} {τ : L2.St} (d : Def X G (n0 :: n1 :: n2 :: n3 :: n4 :: n5 :: n6 :: n7 :: n8 :: n9 :: n10 :: n11 :: n12 :: n13 :: N) sc k) (hv : visB sc n13 = true) (q : Q v H) (hd : (n13 == ("__debug__" : Str)) = false := by decide +kernel) (hc : (n13 == ("__classdict__" : Str)) = false := by decide +kernel) : WE X (.Name n13 pos) (s0 :: s1 :: s2 :: s3 :: s4 :: s5 :: s6 :: s7 :: s8 :: s9 :: s10 :: s11 :: s12 :: some v :: τ) H Q :=
  we_name d 13 rfl hv rfl q hd hc
theorem ws_s13 {n0 n1 n2 n3 n4 n5 n6 n7 n8 n9 n10 n11 n12 n13 : Str} {s0 s1 s2 s3 s4 s5 s6 s7 s8 s9 s10 s11 s12 s13 : Option V} {τ : L2.St} {pos' : Pos} (d : Fr X G (n0 :: n1 :: n2 :: n3 :: n4 :: n5 :: n6 :: n7 :: n8 :: n9 :: n10 :: n11 :: n12 :: n13 :: N) sc k W) (hl : cellB sc n13 = true) (hs : swapsWith e (some (.Name n13 pos')) pos.line X.env = pure false) (h : WE X e (s0 :: s1 :: s2 :: s3 :: s4 :: s5 :: s6 :: s7 :: s8 :: s9 :: s10 :: s11 :: s12 :: s13 :: τ) H fun v H1 => D.nx (s0 :: s1 :: s2 :: s3 :: s4 :: s5 :: s6 :: s7 :: s8 :: s9 :: s10 :: s11 :: s12 :: some v :: τ) H1) : WS X (.Assign [.Name n13 pos'] e pos) D (s0 :: s1 :: s2 :: s3 :: s4 :: s5 :: s6 :: s7 :: s8 :: s9 :: s10 :: s11 :: s12 :: s13 :: τ) H :=
  ws_set d 13 rfl (locs hl) hs h
theorem wg_n13 {n0 n1 n2 n3 n4 n5 n6 n7 n8 n9 n10 n11 n12 n13 : Str} {s0 s1 s2 s3 s4 s5 s6 s7 s8 s9 s10 s11 s12 s13 : Option V} {τ : L2.St} {R : L2.St → Hp → Prop} (d : Fr X G (n0 :: n1 :: n2 :: n3 :: n4 :: n5 :: n6 :: n7 :: n8 :: n9 :: n10 :: n11 :: n12 :: n13 :: N) sc k W) (hl : cellB sc n13 = true) (q : R (s0 :: s1 :: s2 :: s3 :: s4 :: s5 :: s6 :: s7 :: s8 :: s9 :: s10 :: s11 :: s12 :: some v :: τ) H) : WG X (.Name n13 pos) v (s0 :: s1 :: s2 :: s3 :: s4 :: s5 :: s6 :: s7 :: s8 :: s9 :: s10 :: s11 :: s12 :: s13 :: τ) H R :=
  wg_name d.toDef 13 rfl (locs hl) (.inl (d.fn _)) q
theorem wg_b13 {n0 n1 n2 n3 n4 n5 n6 n7 n8 n9 n10 n11 n12 n13 : Str} {s0 s1 s2 s3 s4 s5 s6 s7 s8 s9 s10 s11 s12 s13 : Option V} {τ : L2.St} {R : L2.St → Hp → Prop} (d : Def X G (n0 :: n1 :: n2 :: n3 :: n4 :: n5 :: n6 :: n7 :: n8 :: n9 :: n10 :: n11 :: n12 :: n13 :: N) sc k) (hl : locB sc n13 = true) (q : R (s0 :: s1 :: s2 :: s3 :: s4 :: s5 :: s6 :: s7 :: s8 :: s9 :: s10 :: s11 :: s12 :: some v :: τ) H) : WG X (.Name n13 pos) v (s0 :: s1 :: s2 :: s3 :: s4 :: s5 :: s6 :: s7 :: s8 :: s9 :: s10 :: s11 :: s12 :: s13 :: τ) H R :=
  wg_name d 13 rfl (.inl (loc_of hl)) (.inr (loc_of hl)) q
theorem we_n14 {n0 n1 n2 n3 n4 n5 n6 n7 n8 n9 n10 n11 n12 n13 n14 : Str} {s0 s1 s2 s3 s4 s5 s6 s7 s8 s9 s10 s11 s12 s13 : Option V} {τ : L2.St} (d : Def X G (n0 :: n1 :: n2 :: n3 :: n4 :: n5 :: n6 :: n7 :: n8 :: n9 :: n10 :: n11 :: n12 :: n13 :: n14 :: N) sc k) (hv : visB sc n14 = true) (q : Q v H) (hd : (n14 == ("__debug__" : Str)) = false := by decide +kernel) (hc : (n14 == ("__classdict__" : Str)) = false := by decide +kernel) : WE X (.Name n14 pos) (s0 :: s1 :: s2 :: s3 :: s4 :: s5 :: s6 :: s7 :: s8 :: s9 :: s10 :: s11 :: s12 :: s13 :: some v :: τ) H Q :=
  we_name d 14 rfl hv rfl q hd hc
theorem ws_s14 {n0 n1 n2 n3 n4 n5 n6 n7 n8 n9 n10 n11 n12 n13 n14 : Str} {s0 s1 s2 s3 s4 s5 s6 s7 s8 s9 s10 s11 s12 s13 s14 : Option V} {τ : L2.St} {pos' : Pos} (d : Fr X G (n0 :: n1 :: n2 :: n3 :: n4 :: n5 :: n6 :: n7 :: n8 :: n9 :: n10 :: n11 :: n12 :: n13 :: n14 :: N) sc k W) (hl : cellB sc n14 = true) (hs : swapsWith e (some (.Name n14 pos')) pos.line X.env = pure false) (h : WE X e (s0 :: s1 :: s2 :: s3 :: s4 :: s5 :: s6 :: s7 :: s8 :: s9 :: s10 :: s11 :: s12 :: s13 :: s14 :: τ) H fun v H1 => D.nx (s0 :: s1 :: s2 :: s3 :: s4 :: s5 :: s6 :: s7 :: s8 :: s9 :: s10 :: s11 :: s12 :: s13 :: some v :: τ) H1) : WS X (.Assign [.Name n14 pos'] e pos) D (s0 :: s1 :: s2 :: s3 :: s4 :: s5 :: s6 :: s7 :: s8 :: s9 :: s10 :: s11 :: s12 :: s13 :: s14 :: τ) H :=
  ws_set d 14 rfl (locs hl) hs h
theorem wg_n14 {n0 n1 n2 n3 n4 n5 n6 n7 n8 n9 n10 n11 n12 n13 n14 : Str} {s0 s1 s2 s3 s4 s5 s6 s7 s8 s9 s10 s11 s12 s13 s14 : Option V} {τ : L2.St} {R : L2.St → Hp → Prop} (d : Fr X G (n0 :: n1 :: n2 :: n3 :: n4 :: n5 :: n6 :: n7 :: n8 :: n9 :: n10 :: n11 :: n12 :: n13 :: n14 :: N) sc k W) (hl : cellB sc n14 = true) (q : R (s0 :: s1 :: s2 :: s3 :: s4 :: s5 :: s6 :: s7 :: s8 :: s9 :: s10 :: s11 :: s12 :: s13 :: some v :: τ) H) : WG X (.Name n14 pos) v (s0 :: s1 :: s2 :: s3 :: s4 :: s5 :: s6 :: s7 :: s8 :: s9 :: s10 :: s11 :: s12 :: s13 :: s14 :: τ) H R :=
  wg_name d.toDef 14 rfl (locs hl) (.inl (d.fn _)) q
theorem wg_b14 {n0 n1 n2 n3 n4 n5 n6 n7 n8 n9 n10 n11 n12 n13 n14 : Str} {s0 s1 s2 s3 s4 s5 s6 s7 s8 s9 s10 s11 s12 s13 s14 : Option V} {τ : L2.St} {R : L2.St → Hp → Prop} (d : Def X G (n0 :: n1 :: n2 :: n3 :: n4 :: n5 :: n6 :: n7 :: n8 :: n9 :: n10 :: n11 :: n12 :: n13 :: n14 :: N) sc k) (hl : locB sc n14 = true) (q : R (s0 :: s1 :: s2 :: s3 :: s4 :: s5 :: s6 :: s7 :: s8 :: s9 :: s10 :: s11 :: s12 :: s13 :: some v :: τ) H) : WG X (.Name n14 pos) v (s0 :: s1 :: s2 :: s3 :: s4 :: s5 :: s6 :: s7 :: s8 :: s9 :: s10 :: s11 :: s12 :: s13 :: s14 :: τ) H R :=
  wg_name d 14 rfl (.inl (loc_of hl)) (.inr (loc_of hl)) q
theorem we_n15 {n0 n1 n2 n3 n4 n5 n6 n7 n8 n9 n10 n11 n12 n13 n14 n15 : Str} {s0 s1 s2 s3 s4 s5 s6 s7 s8 s9 s10 s11 s12 s13 s14 : Option V} {τ : L2.St} (d : Def X G (n0 :: n1 :: n2 :: n3 :: n4 :: n5 :: n6 :: n7 :: n8 :: n9 :: n10 :: n11 :: n12 :: n13 :: n14 :: n15 :: N) sc k) (hv : visB sc n15 = true) (q : Q v H) (hd : (n15 == ("__debug__" : Str)) = false := by decide +kernel) (hc : (n15 == ("__classdict__" : Str)) = false := by decide +kernel) : WE X (.Name n15 pos) (s0 :: s1 :: s2 :: s3 :: s4 :: s5 :: s6 :: s7 :: s8 :: s9 :: s10 :: s11 :: s12 :: s13 :: s14 :: some v :: τ) H Q :=
  we_name d 15 rfl hv rfl q hd hc
theorem ws_s15 {n0 n1 n2 n3 n4 n5 n6 n7 n8 n9 n10 n11 n12 n13 n14 n15 : Str} {s0 s1 s2 s3 s4 s5 s6 s7 s8 s9 s10 s11 s12 s13 s14 s15 : Option V} {τ : L2.St} {pos' : Pos} (d : Fr X G (n0 :: n1 :: n2 :: n3 :: n4 :: n5 :: n6 :: n7 :: n8 :: n9 :: n10 :: n11 :: n12 :: n13 :: n14 :: n15 :: N) sc k W) (hl : cellB sc n15 = true) (hs : swapsWith e (some (.Name n15 pos')) pos.line X.env = pure false) (h : WE X e (s0 :: s1 :: s2 :: s3 :: s4 :: s5 :: s6 :: s7 :: s8 :: s9 :: s10 :: s11 :: s12 :: s13 :: s14 :: s15 :: τ) H fun v H1 => D.nx (s0 :: s1 :: s2 :: s3 :: s4 :: s5 :: s6 :: s7 :: s8 :: s9 :: s10 :: s11 :: s12 :: s13 :: s14 :: some v :: τ) H1) : WS X (.Assign [.Name n15 pos'] e pos) D (s0 :: s1 :: s2 :: s3 :: s4 :: s5 :: s6 :: s7 :: s8 :: s9 :: s10 :: s11 :: s12 :: s13 :: s14 :: s15 :: τ) H :=
  ws_set d 15 rfl (locs hl) hs h
theorem wg_n15 {n0 n1 n2 n3 n4 n5 n6 n7 n8 n9 n10 n11 n12 n13 n14 n15 : Str} {s0 s1 s2 s3 s4 s5 s6 s7 s8 s9 s10 s11 s12 s13 s14 s15 : Option V} {τ : L2.St} {R : L2.St → Hp → Prop} (d : Fr X G (n0 :: n1 :: n2 :: n3 :: n4 :: n5 :: n6 :: n7 :: n8 :: n9 :: n10 :: n11 :: n12 :: n13 :: n14 :: n15 :: N) sc k W) (hl : cellB sc n15 = true) (q : R (s0 :: s1 :: s2 :: s3 :: s4 :: s5 :: s6 :: s7 :: s8 :: s9 :: s10 :: s11 :: s12 :: s13 :: s14 :: some v :: τ) H) : WG X (.Name n15 pos) v (s0 :: s1 :: s2 :: s3 :: s4 :: s5 :: s6 :: s7 :: s8 :: s9 :: s10 :: s11 :: s12 :: s13 :: s14 :: s15 :: τ) H R :=
  wg_name d.toDef 15 rfl (locs hl) (.inl (d.fn _)) q
theorem wg_b15 {n0 n1 n2 n3 n4 n5 n6 n7 n8 n9 n10 n11 n12 n13 n14 n15 : Str} {s0 s1 s2 s3 s4 s5 s6 s7 s8 s9 s10 s11 s12 s13 s14 s15 : Option V} {τ : L2.St} {R : L2.St → Hp → Prop} (d : Def X G (n0 :: n1 :: n2 :: n3 :: n4 :: n5 :: n6 :: n7 :: n8 :: n9 :: n10 :: n11 :: n12 :: n13 :: n14 :: n15 :: N) sc k) (hl : locB sc n15 = true) (q : R (s0 :: s1 :: s2 :: s3 :: s4 :: s5 :: s6 :: s7 :: s8 :: s9 :: s10 :: s11 :: s12 :: s13 :: s14 :: some v :: τ) H) : WG X (.Name n15 pos) v (s0 :: s1 :: s2 :: s3 :: s4 :: s5 :: s6 :: s7 :: s8 :: s9 :: s10 :: s11 :: s12 :: s13 :: s14 :: s15 :: τ) H R :=
  wg_name d 15 rfl (.inl (loc_of hl)) (.inr (loc_of hl)) q
theorem we_n16 {n0 n1 n2 n3 n4 n5 n6 n7 n8 n9 n10 n11 n12 n13 n14 n15 n16 : Str} {s0 s1 s2 s3 s4 s5 s6 s7 s8 s9 s10 s11 s12 s13 s14 s15 : Option V} {τ : L2.St} (d : Def X G (n0 :: n1 :: n2 :: n3 :: n4 :: n5 :: n6 :: n7 :: n8 :: n9 :: n10 :: n11 :: n12 :: n13 :: n14 :: n15 :: n16 :: N) sc k) (hv : visB sc n16 = true) (q : Q v H) (hd : (n16 == ("__debug__" : Str)) = false := by decide +kernel) (hc : (n16 == ("__classdict__" : Str)) = false := by decide +kernel) : WE X (.Name n16 pos) (s0 :: s1 :: s2 :: s3 :: s4 :: s5 :: s6 :: s7 :: s8 :: s9 :: s10 :: s11 :: s12 :: s13 :: s14 :: s15 :: some v :: τ) H Q :=
  we_name d 16 rfl hv rfl q hd hc
theorem ws_s16 {n0 n1 n2 n3 n4 n5 n6 n7 n8 n9 n10 n11 n12 n13 n14 n15 n16 : Str} {s0 s1 s2 s3 s4 s5 s6 s7 s8 s9 s10 s11 s12 s13 s14 s15 s16 : Option V} {τ : L2.St} {pos' : Pos} (d : Fr X G (n0 :: n1 :: n2 :: n3 :: n4 :: n5 :: n6 :: n7 :: n8 :: n9 :: n10 :: n11 :: n12 :: n13 :: n14 :: n15 :: n16 :: N) sc k W) (hl : cellB sc n16 = true) (hs : swapsWith e (some (.Name n16 pos')) pos.line X.env = pure false) (h : WE X e (s0 :: s1 :: s2 :: s3 :: s4 :: s5 :: s6 :: s7 :: s8 :: s9 :: s10 :: s11 :: s12 :: s13 :: s14 :: s15 :: s16 :: τ) H fun v H1 => D.nx (s0 :: s1 :: s2 :: s3 :: s4 :: s5 :: s6 :: s7 :: s8 :: s9 :: s10 :: s11 :: s12 :: s13 :: s14 :: s15 :: some v :: τ) H1) : WS X (.Assign [.Name n16 pos'] e pos) D (s0 :: s1 :: s2 :: s3 :: s4 :: s5 :: s6 :: s7 :: s8 :: s9 :: s10 :: s11 :: s12 :: s13 :: s14 :: s15 :: s16 :: τ) H :=
  ws_set d 16 rfl (locs hl) hs h
theorem wg_n16 {n0 n1 n2 n3 n4 n5 n6 n7 n8 n9 n10 n11 n12 n13 n14 n15 n16 : Str} {s0 s1 s2 s3 s4 s5 s6 s7 s8 s9 s10 s11 s12 s13 s14 s15 s16 : Option V} {τ : L2.St} {R : L2.St → Hp → Prop} (d : Fr X G (n0 :: n1 :: n2 :: n3 :: n4 :: n5 :: n6 :: n7 :: n8 :: n9 :: n10 :: n11 :: n12 :: n13 :: n14 :: n15 :: n16 :: N) sc k W) (hl : cellB sc n16 = true) (q : R (s0 :: s1 :: s2 :: s3 :: s4 :: s5 :: s6 :: s7 :: s8 :: s9 :: s10 :: s11 :: s12 :: s13 :: s14 :: s15 :: some v :: τ) H) : WG X (.Name n16 pos) v (s0 :: s1 :: s2 :: s3 :: s4 :: s5 :: s6 :: s7 :: s8 :: s9 :: s10 :: s11 :: s12 :: s13 :: s14 :: s15 :: s16 :: τ) H R :=
  wg_name d.toDef 16 rfl (locs hl) (.inl (d.fn _)) q
theorem wg_b16 {n0 n1 n2 n3 n4 n5 n6 n7 n8 n9 n10 n11 n12 n13 n14 n15 n16 : Str} {s0 s1 s2 s3 s4 s5 s6 s7 s8 s9 s10 s11 s12 s13 s14 s15 s16 : Option V} {τ : L2.St} {R : L2.St → Hp → Prop} (d : Def X G (n0 :: n1 :: n2 :: n3 :: n4 :: n5 :: n6 :: n7 :: n8 :: n9 :: n10 :: n11 :: n12 :: n13 :: n14 :: n15 :: n16 :: N) sc k) (hl : locB sc n16 = true) (q : R (s0 :: s1 :: s2 :: s3 :: s4 :: s5 :: s6 :: s7 :: s8 :: s9 :: s10 :: s11 :: s12 :: s13 :: s14 :: s15 :: some v :: τ) H) : WG X (.Name n16 pos) v (s0 :: s1 :: s2 :: s3 :: s4 :: s5 :: s6 :: s7 :: s8 :: s9 :: s10 :: s11 :: s12 :: s13 :: s14 :: s15 :: s16 :: τ) H R :=
  wg_name d 16 rfl (.inl (loc_of hl)) (.inr (loc_of hl)) q
theorem we_n17 {n0 n1 n2 n3 n4 n5 n6 n7 n8 n9 n10 n11 n12 n13 n14 n15 n16 n17 : Str} {s0 s1 s2 s3 s4 s5 s6 s7 s8 s9 s10 s11 s12 s13 s14 s15 s16 : Option V} {τ : L2.St} (d : Def X G (n0 :: n1 :: n2 :: n3 :: n4 :: n5 :: n6 :: n7 :: n8 :: n9 :: n10 :: n11 :: n12 :: n13 :: n14 :: n15 :: n16 :: n17 :: N) sc k) (hv : visB sc n17 = true) (q : Q v H) (hd : (n17 == ("__debug__" : Str)) = false := by decide +kernel) (hc : (n17 == ("__classdict__" : Str)) = false := by decide +kernel) : WE X (.Name n17 pos) (s0 :: s1 :: s2 :: s3 :: s4 :: s5 :: s6 :: s7 :: s8 :: s9 :: s10 :: s11 :: s12 :: s13 :: s14 :: s15 :: s16 :: some v :: τ) H Q :=
  we_name d 17 rfl hv rfl q hd hc
theorem ws_s17 {n0 n1 n2 n3 n4 n5 n6 n7 n8 n9 n10 n11 n12 n13 n14 n15 n16 n17 : Str} {s0 s1 s2 s3 s4 s5 s6 s7 s8 s9 s10 s11 s12 s13 s14 s15 s16 s17 : Option V} {τ : L2.St} {pos' : Pos} (d : Fr X G (n0 :: n1 :: n2 :: n3 :: n4 :: n5 :: n6 :: n7 :: n8 :: n9 :: n10 :: n11 :: n12 :: n13 :: n14 :: n15 :: n16 :: n17 :: N) sc k W) (hl : cellB sc n17 = true) (hs : swapsWith e (some (.Name n17 pos')) pos.line X.env = pure false) (h : WE X e (s0 :: s1 :: s2 :: s3 :: s4 :: s5 :: s6 :: s7 :: s8 :: s9 :: s10 :: s11 :: s12 :: s13 :: s14 :: s15 :: s16 :: s17 :: τ) H fun v H1 => D.nx (s0 :: s1 :: s2 :: s3 :: s4 :: s5 :: s6 :: s7 :: s8 :: s9 :: s10 :: s11 :: s12 :: s13 :: s14 :: s15 :: s16 :: some v :: τ) H1) : WS X (.Assign [.Name n17 pos'] e pos) D (s0 :: s1 :: s2 :: s3 :: s4 :: s5 :: s6 :: s7 :: s8 :: s9 :: s10 :: s11 :: s12 :: s13 :: s14 :: s15 :: s16 :: s17 :: τ) H :=
  ws_set d 17 rfl (locs hl) hs h
theorem wg_n17 {n0 n1 n2 n3 n4 n5 n6 n7 n8 n9 n10 n11 n12 n13 n14 n15 n16 n17 : Str} {s0 s1 s2 s3 s4 s5 s6 s7 s8 s9 s10 s11 s12 s13 s14 s15 s16 s17 : Option V} {τ : L2.St} {R : L2.St → Hp → Prop} (d : Fr X G (n0 :: n1 :: n2 :: n3 :: n4 :: n5 :: n6 :: n7 :: n8 :: n9 :: n10 :: n11 :: n12 :: n13 :: n14 :: n15 :: n16 :: n17 :: N) sc k W) (hl : cellB sc n17 = true) (q : R (s0 :: s1 :: s2 :: s3 :: s4 :: s5 :: s6 :: s7 :: s8 :: s9 :: s10 :: s11 :: s12 :: s13 :: s14 :: s15 :: s16 :: some v :: τ) H) : WG X (.Name n17 pos) v (s0 :: s1 :: s2 :: s3 :: s4 :: s5 :: s6 :: s7 :: s8 :: s9 :: s10 :: s11 :: s12 :: s13 :: s14 :: s15 :: s16 :: s17 :: τ) H R :=
  wg_name d.toDef 17 rfl (locs hl) (.inl (d.fn _)) q
theorem wg_b17 {n0 n1 n2 n3 n4 n5 n6 n7 n8 n9 n10 n11 n12 n13 n14 n15 n16 n17 : Str} {s0 s1 s2 s3 s4 s5 s6 s7 s8 s9 s10 s11 s12 s13 s14 s15 s16 s17 : Option V} {τ : L2.St} {R : L2.St → Hp → Prop} (d : Def X G (n0 :: n1 :: n2 :: n3 :: n4 :: n5 :: n6 :: n7 :: n8 :: n9 :: n10 :: n11 :: n12 :: n13 :: n14 :: n15 :: n16 :: n17 :: N) sc k) (hl : locB sc n17 = true) (q : R (s0 :: s1 :: s2 :: s3 :: s4 :: s5 :: s6 :: s7 :: s8 :: s9 :: s10 :: s11 :: s12 :: s13 :: s14 :: s15 :: s16 :: some v :: τ) H) : WG X (.Name n17 pos) v (s0 :: s1 :: s2 :: s3 :: s4 :: s5 :: s6 :: s7 :: s8 :: s9 :: s10 :: s11 :: s12 :: s13 :: s14 :: s15 :: s16 :: s17 :: τ) H R :=
  wg_name d 17 rfl (.inl (loc_of hl)) (.inr (loc_of hl)) q
end
/-! ### operators by values -/
theorem ro_add (q : Q (.int (i + j)) H) : RO X (binaryOp .Add) (.int i) (.int j) H Q := ⟨_, op_add, i, j, rfl, rfl, q⟩
theorem ro_sub (q : Q (.int (i - j)) H) : RO X (binaryOp .Sub) (.int i) (.int j) H Q := ⟨_, op_sub, i, j, rfl, rfl, q⟩
theorem ro_mul (h : (-(2 ^ 64) < i ∧ i < 2 ^ 64) ∨ (-(2 ^ 64) < j ∧ j < 2 ^ 64)) (q : Q (.int (i * j)) H) : RO X (binaryOp .Mult) (.int i) (.int j) H Q := ⟨_, op_mul, i, j, rfl, rfl, h, q⟩
theorem ro_fdiv (h : 0 < j ∧ j < 1073741824) (q : Q (.int (i / j)) H) : RO X (binaryOp .FloorDiv) (.int i) (.int j) H Q := ⟨_, op_fdiv, i, j, rfl, rfl, h, q⟩
theorem ro_mod (h : 0 < j) (q : Q (.int (i % j)) H) : RO X (binaryOp .Mod) (.int i) (.int j) H Q := ⟨_, op_mod, i, j, rfl, rfl, h, q⟩
theorem ro_pow (h : 0 ≤ j ∧ j ≤ 1000000 ∧ i.natAbs < 2 ^ 64) (q : Q (.int (i ^ j.toNat)) H) : RO X (binaryOp .Pow) (.int i) (.int j) H Q := ⟨_, op_pow, i, j, rfl, rfl, h, q⟩
theorem ro_adds {z w : Str} (h : z.length + w.length ≤ sizeLine) (q : Q (.str (z ++ w)) H) : RO X (binaryOp .Add) (.str z) (.str w) H Q := ⟨_, op_add_str, z, w, rfl, rfl, h, q⟩
theorem ro_cat {p r : Addr} {xs ys : List V} (h1 : H p = some (.lst xs)) (h2 : H r = some (.lst ys)) (hl : xs.length + ys.length ≤ sizeLine) (q : ∀ l, H l = none → Q (.ref l) (upd H l (.lst (xs ++ ys)))) : RO X (binaryOp .Add) (.ref p) (.ref r) H Q :=
  ⟨_, op_cat, p, r, xs, ys, rfl, rfl, h1, h2, hl, q⟩
theorem ro_eq (h : scal x y = true) (q : Q (.bl (decide (x = y))) H) : RO X (compareOp .Eq) x y H Q := ⟨_, op_eq, h, q⟩
theorem ro_ne (h : scal x y = true) (q : Q (.bl (!decide (x = y))) H) : RO X (compareOp .NotEq) x y H Q := ⟨_, op_ne, h, q⟩
theorem dec_ii : decide (V.int i = V.int j) = decide (i = j) := by
  rw [Bool.eq_iff_iff]
  simp
theorem dec_ss {z w : Str} : decide (V.str z = V.str w) = decide (z = w) := by
  rw [Bool.eq_iff_iff]
  simp
theorem dec_bb {z w : Bool} : decide (V.bl z = V.bl w) = decide (z = w) := by
  rw [Bool.eq_iff_iff]
  simp
theorem ro_eqI (q : Q (.bl (decide (i = j))) H) : RO X (compareOp .Eq) (.int i) (.int j) H Q := ro_eq rfl (by rw [dec_ii]; exact q)
theorem ro_neI (q : Q (.bl (!decide (i = j))) H) : RO X (compareOp .NotEq) (.int i) (.int j) H Q := ro_ne rfl (by rw [dec_ii]; exact q)
theorem ro_eqS {z w : Str} (q : Q (.bl (decide (z = w))) H) : RO X (compareOp .Eq) (.str z) (.str w) H Q := ro_eq rfl (by rw [dec_ss]; exact q)
theorem ro_neS {z w : Str} (q : Q (.bl (!decide (z = w))) H) : RO X (compareOp .NotEq) (.str z) (.str w) H Q := ro_ne rfl (by rw [dec_ss]; exact q)
theorem ro_eqB {z w : Bool} (q : Q (.bl (decide (z = w))) H) : RO X (compareOp .Eq) (.bl z) (.bl w) H Q := ro_eq rfl (by rw [dec_bb]; exact q)
theorem ro_neB {z w : Bool} (q : Q (.bl (!decide (z = w))) H) : RO X (compareOp .NotEq) (.bl z) (.bl w) H Q := ro_ne rfl (by rw [dec_bb]; exact q)
theorem ro_lt (q : Q (.bl (decide (i < j))) H) : RO X (compareOp .Lt) (.int i) (.int j) H Q := ⟨_, op_lt, i, j, rfl, rfl, q⟩
theorem ro_le (q : Q (.bl (decide (i ≤ j))) H) : RO X (compareOp .LtE) (.int i) (.int j) H Q := ⟨_, op_le, i, j, rfl, rfl, q⟩
theorem ro_gt (q : Q (.bl (decide (j < i))) H) : RO X (compareOp .Gt) (.int i) (.int j) H Q := ⟨_, op_gt, i, j, rfl, rfl, q⟩
theorem ro_ge (q : Q (.bl (decide (j ≤ i))) H) : RO X (compareOp .GtE) (.int i) (.int j) H Q := ⟨_, op_ge, i, j, rfl, rfl, q⟩
theorem ro_isN (q : Q (.bl (decide (x = .non))) H) : RO X (compareOp .Is) x .non H Q := ⟨_, op_isN, rfl, q⟩
theorem ro_notN (q : Q (.bl (!decide (x = .non))) H) : RO X (compareOp .IsNot) x .non H Q := ⟨_, op_notN, rfl, q⟩
theorem ro_eqD (d : Def X G N sc k) {da db : PyData} (h1 : Dp G.K H x da) (h2 : Dp G.K H y db) (s1 : SeqAt.shaped da = true) (s2 : SeqAt.shaped db = true) (q : Q (.bl (PyData.eqv da db)) H) : RO X (compareOp .Eq) x y H Q :=
  ⟨_, op_eqD d.room.units, da, db, by rw [d.K]; exact h1, by rw [d.K]; exact h2, s1, s2, q⟩
theorem ro_neD (d : Def X G N sc k) {da db : PyData} (h1 : Dp G.K H x da) (h2 : Dp G.K H y db) (s1 : SeqAt.shaped da = true) (s2 : SeqAt.shaped db = true) (q : Q (.bl (!PyData.eqv da db)) H) : RO X (compareOp .NotEq) x y H Q :=
  ⟨_, op_neD d.room.units, da, db, by rw [d.K]; exact h1, by rw [d.K]; exact h2, s1, s2, q⟩
theorem ru_neg (q : Q (.int (-i)) H) : RU X (unaryOp .USub) (.int i) H Q := ⟨_, un_neg, i, rfl, q⟩

/-! ### built-ins by values -/
theorem rc_int (q : Q (.int i) H) : RC X (.type "int") [.int i] H Q := ⟨_, call_int1, .inl ⟨i, rfl, q⟩⟩
theorem rc_intB {z : Bool} (q : Q (.int (if z then 1 else 0)) H) : RC X (.type "int") [.bl z] H Q := ⟨_, call_int1, .inr ⟨z, rfl, q⟩⟩
theorem rc_abs (q : Q (.int (if i < 0 then -i else i)) H) : RC X (.builtin "abs") [.int i] H Q := ⟨_, call_abs, i, rfl, q⟩
theorem rc_lenL (d : Def X G N sc k) {p : Addr} {xs : List V} (h : SqL G.K H p xs) (q : Q (.int xs.length) H) : RC X (.builtin "len") [.ref p] H Q := ⟨_, call_len_seq, p, xs, rfl, .inl (by rw [d.K]; exact h), q⟩
theorem rc_lenT (d : Def X G N sc k) {p : Addr} {xs : List V} (h : SqT G.K H p xs) (q : Q (.int xs.length) H) : RC X (.builtin "len") [.ref p] H Q := ⟨_, call_len_seq, p, xs, rfl, .inr (by rw [d.K]; exact h), q⟩
theorem rc_lenS {z : Str} (h : z.length ≤ sizeLine) (q : Q (.int z.length) H) : RC X (.builtin "len") [.str z] H Q := ⟨_, call_len_str, z, rfl, h, q⟩
theorem rc_min2 (d : Def X G N sc k) (q : Q (.int (if j < i then j else i)) H) : RC X (.builtin "min") [.int i, .int j] H Q := ⟨_, call_min2 d.calm, i, j, rfl, q⟩
theorem rc_max2 (d : Def X G N sc k) (q : Q (.int (if j > i then j else i)) H) : RC X (.builtin "max") [.int i, .int j] H Q := ⟨_, call_max2 d.calm, i, j, rfl, q⟩
theorem rc_isi {cl : V} {t u : Value} {r : Bool} (d : Def X G N sc k) (h1 : ClsV cl u) (h2 : TyX G.K H x t) (h3 : PySem.W.kitOne G.K t u = some r) (q : Q (.bl r) H) : RC X (.builtin "isinstance") [x, cl] H Q :=
  ⟨_, call_isi, x, cl, t, u, r, rfl, h1, by rw [d.K]; exact h2, by rw [d.K]; exact h3, q⟩
theorem rc_isiT {tp : Addr} {cs : List V} {t : Value} {us : List Value} {r : Bool} (d : Def X G N sc k) (h0 : H tp = some (.tup cs)) (h1 : Paired ClsV cs us) (h2 : TyX G.K H x t) (h3 : PySem.W.kitAny G.K t us = some r) (q : Q (.bl r) H) : RC X (.builtin "isinstance") [x, .ref tp] H Q :=
  ⟨_, call_isiT, x, tp, cs, t, us, r, rfl, h0, h1, by rw [d.K]; exact h2, by rw [d.K]; exact h3, q⟩

/-! ### methods by values -/
theorem rm_append {l : Addr} {xs : List V} (h : H l = some (.lst xs)) (hl : xs.length < sizeLine) (q : Q .non (upd H l (.lst (xs ++ [y])))) : RM X "list.append" (.ref l) [y] H Q := ⟨_, mt_append, l, xs, y, rfl, rfl, h, hl, q⟩
theorem rm_pop0 {l : Addr} {y : V} {xs : List V} (h : H l = some (.lst (y :: xs))) (q : Q y (upd H l (.lst xs))) : RM X "list.pop" (.ref l) [.int 0] H Q :=
  ⟨_, mt_popAt, l, y :: xs, 0, 0, y, rfl, rfl, h, by decide, by decide, by unfold seqIndex?; simp, rfl, q⟩
theorem rm_insert {l : Addr} {xs : List V} (h : H l = some (.lst xs)) (hl : xs.length < sizeLine) (h0 : 0 ≤ i) (h1 : i < 2 ^ 63) (q : Q .non (upd H l (.lst (xs.take i.toNat ++ [y] ++ xs.drop i.toNat)))) : RM X "list.insert" (.ref l) [.int i, y] H Q :=
  ⟨_, mt_insert, l, xs, i, y, rfl, rfl, h, hl, h0, h1, q⟩
theorem ty_list {K : PySem.W.Frag} {l : Addr} {xs : List V} (h : H l = some (.lst xs)) : tyV K "list" (.ref l) H := .inl ⟨rfl, xs, SqL.of h⟩
theorem ite_t {A B : Prop} (h : A) : if true = true then A else B := by rw [if_pos rfl]; exact h
theorem ite_f {A B : Prop} (h : B) : if false = true then A else B := by rw [if_neg Bool.false_ne_true]; exact h
theorem ite_b {A B : Prop} {z : Bool} (h1 : z = true → A) (h2 : z = false → B) : if z = true then A else B := by
  cases z with
  | true => exact ite_t (h1 rfl)
  | false => exact ite_f (h2 rfl)
end
end Wx

namespace Wx
open PySem L2
/-- the library's rule for a def, said in these words: the body's wish at the parameters' values -/
theorem fn_by {G : Gb} {x qual : Str} {st : Stmt} {f : Addr} {fd : FuncData} {N ps : List Str} {k : Nat} {sp : Sp} (F : Fun G.K x qual st f fd) (S : FnScope N ps (defScope st)) (len : ∀ vs H Q E, sp vs H Q E → vs.length = ps.length)
    (body : ∀ (X : Cx) (vs : List V) (H : Hp) (Q : VK) (E : XK), Fr X G N (defScope st) k (fun c o _ H' => E c o H') → sp vs H Q E → WB X (defBody st) { nx := fun _ H' => Q .non H', rt := Q } (start N vs) H) :
    FnOk G.prog G.w G.K G.mg G.base (L2.CX G.prog G.w) (k + 1) f fd ps sp := by
  refine F.okX S len fun cdv A outer s H vs Q E hr h => ⟨_, pss_wb, body _ vs H Q E ?_ h⟩
  exact { prog := rfl, w := rfl, K := rfl, mg := rfl, base := rfl, n := rfl, sc := rfl, nd := S.nd, calm := rfl, room := hr, fn := fun _ => rfl, own := passes_of rfl, tk := takes_of rfl rfl rfl rfl, stk := rfl, frm := rfl, ex := rfl }
/-- a def of the text that stands at its name, with its parameters -/
structure Top (G : Gb) (x : Str) (st : Stmt) (ps : List Str) : Prop where
  is : ∃ (f : Addr) (fd : FuncData), G.mg x = some (.ref f) ∧ Fun G.K x x st f fd ∧ Binds G.K fd ps []
  pn : ps = (defArgs st).args.map (·.arg)
theorem Top.names {G : Gb} {x : Str} {st : Stmt} {ps : List Str} {f : Addr} {fd : FuncData} (T : Top G x st ps) (F : Fun G.K x x st f fd) : ps = fd.params.args.map (·.arg) := by
  obtain ⟨_, _, _, _, _, _, _, _, _, e, _, _⟩ := F.ex
  rw [e]
  exact T.pn
theorem Top.fn {G : Gb} {x : Str} {st : Stmt} {N ps : List Str} {k : Nat} {sp : Sp} (T : Top G x st ps) (S : FnScope N ps (defScope st)) (len : ∀ vs H Q E, sp vs H Q E → vs.length = ps.length)
    (body : ∀ (X : Cx) (vs : List V) (H : Hp) (Q : VK) (E : XK), Fr X G N (defScope st) k (fun c o _ H' => E c o H') → sp vs H Q E → WB X (defBody st) { nx := fun _ H' => Q .non H', rt := Q } (start N vs) H) :
    Fn G x ps.length (k + 1) sp := by
  obtain ⟨f, fd, h, F, b⟩ := T.is
  exact ⟨f, fd, ps, h, F.kp, fn_by F S len body, b, rfl, T.names F, _, F⟩
theorem fun_one {K : PySem.W.Frag} {x y : Str} {st st' : Stmt} {f : Addr} {fd fd' : FuncData} (F : Fun K x x st f fd) (F' : Fun K y y st' f fd') : fd = fd' := by
  obtain ⟨_, _, _, _, _, _, _, _, _, _, l, _⟩ := F.ex
  obtain ⟨_, _, _, _, _, _, _, _, _, _, l', _⟩ := F'.ex
  have e := l.symm.trans l'
  injection e with e
  injection e with _ _ e _
  injection e
/-- the def at its name, called with keywords -/
theorem Top.fnk {G : Gb} {x : Str} {st : Stmt} {ps ks : List Str} {n k : Nat} {sp : Sp} {gV : List V → List V → List V} (T : Top G x st ps) (F : Fn G x n k sp) (g : List Value → List Value → List Value)
    (hb : ∀ (kV doc pm : Value) (an : Option Addr) (cdv ct : Value) (us ws : List Value), (g us ws).length = ps.length → bindArgs (PySem.W.fnOf x x (defArgs st) (defBody st) (defScope st) .none kV doc pm an cdv ct) { pos := us, kw := ks.zip ws } = pure (ps.zip (g us ws)))
    (rel : ∀ {vs : List V} {us : List Value} {zs : List V} {ws : List Value}, Vals vs us → Vals zs ws → Vals (gV vs zs) (g us ws)) : FnK G x ks gV k sp := by
  obtain ⟨f, fd, h, F1, _⟩ := T.is
  obtain ⟨f', fd', ps', h', kp, ok, _, _, e2, st', F2⟩ := F.is
  have e := h.symm.trans h'
  injection e with e
  injection e with e
  subst e
  have e3 := fun_one F1 F2
  subst e3
  have e4 : ps' = ps := e2.trans (T.names F1).symm
  subst e4
  refine ⟨f, fd, ps', g, h, kp, ok, ⟨fun s us ws _ hl => ?_, rel⟩⟩
  obtain ⟨_, _, kV, doc, pm, an, cdv, ct, _, e, _, _⟩ := F1.ex
  rw [e]
  exact BindsTo.of_eq (hb kV doc pm an cdv ct us ws hl)
end Wx

namespace Wx
open PySem L2
/-- the built-in names that no def of the text shadows -/
structure Bi (mg : Str → Option Value) : Prop where
  b_int : mg "int" = none
  b_bool : mg "bool" = none
  b_str : mg "str" = none
  b_list : mg "list" = none
  b_tuple : mg "tuple" = none
  b_set : mg "set" = none
  b_dict : mg "dict" = none
  b_type : mg "type" = none
  b_len : mg "len" = none
  b_isinstance : mg "isinstance" = none
  b_abs : mg "abs" = none
  b_min : mg "min" = none
  b_max : mg "max" = none
  b_any : mg "any" = none
  b_all : mg "all" = none
  b_sum : mg "sum" = none
  b_sorted : mg "sorted" = none
  b_repr : mg "repr" = none
  b_range : mg "range" = none
  b_enumerate : mg "enumerate" = none
  b_zip : mg "zip" = none
  b_reversed : mg "reversed" = none
  b_ValueError : mg "ValueError" = none
section
variable {X : Cx} {e : Expr} {es : List Expr} {σ : L2.St} {H : Hp} {Q : VK} {pos p : Pos} {G : Gb} {N : List Str} {sc : Scope} {k : Nat}
theorem we_c_int (d : Def X G N sc k) (b : Bi G.mg) (hg : glB sc "int" = true) (he : ns e = true) (hpl : nss es = true) (h : WA X (e :: es) σ H fun vs H1 => RC X (.type "int") vs H1 Q) : WE X (.Call (.Name "int" p) (e :: es) [] pos) σ H Q := we_callTy d hg b.b_int (by decide +kernel) he hpl h
theorem we_c_bool (d : Def X G N sc k) (b : Bi G.mg) (hg : glB sc "bool" = true) (he : ns e = true) (hpl : nss es = true) (h : WA X (e :: es) σ H fun vs H1 => RC X (.type "bool") vs H1 Q) : WE X (.Call (.Name "bool" p) (e :: es) [] pos) σ H Q := we_callTy d hg b.b_bool (by decide +kernel) he hpl h
theorem we_c_str (d : Def X G N sc k) (b : Bi G.mg) (hg : glB sc "str" = true) (he : ns e = true) (hpl : nss es = true) (h : WA X (e :: es) σ H fun vs H1 => RC X (.type "str") vs H1 Q) : WE X (.Call (.Name "str" p) (e :: es) [] pos) σ H Q := we_callTy d hg b.b_str (by decide +kernel) he hpl h
theorem we_c_list (d : Def X G N sc k) (b : Bi G.mg) (hg : glB sc "list" = true) (he : ns e = true) (hpl : nss es = true) (h : WA X (e :: es) σ H fun vs H1 => RC X (.type "list") vs H1 Q) : WE X (.Call (.Name "list" p) (e :: es) [] pos) σ H Q := we_callTy d hg b.b_list (by decide +kernel) he hpl h
theorem we_c_tuple (d : Def X G N sc k) (b : Bi G.mg) (hg : glB sc "tuple" = true) (he : ns e = true) (hpl : nss es = true) (h : WA X (e :: es) σ H fun vs H1 => RC X (.type "tuple") vs H1 Q) : WE X (.Call (.Name "tuple" p) (e :: es) [] pos) σ H Q := we_callTy d hg b.b_tuple (by decide +kernel) he hpl h
theorem we_c_set (d : Def X G N sc k) (b : Bi G.mg) (hg : glB sc "set" = true) (he : ns e = true) (hpl : nss es = true) (h : WA X (e :: es) σ H fun vs H1 => RC X (.type "set") vs H1 Q) : WE X (.Call (.Name "set" p) (e :: es) [] pos) σ H Q := we_callTy d hg b.b_set (by decide +kernel) he hpl h
theorem we_c_dict (d : Def X G N sc k) (b : Bi G.mg) (hg : glB sc "dict" = true) (he : ns e = true) (hpl : nss es = true) (h : WA X (e :: es) σ H fun vs H1 => RC X (.type "dict") vs H1 Q) : WE X (.Call (.Name "dict" p) (e :: es) [] pos) σ H Q := we_callTy d hg b.b_dict (by decide +kernel) he hpl h
theorem we_c_type (d : Def X G N sc k) (b : Bi G.mg) (hg : glB sc "type" = true) (he : ns e = true) (hpl : nss es = true) (h : WA X (e :: es) σ H fun vs H1 => RC X (.type "type") vs H1 Q) : WE X (.Call (.Name "type" p) (e :: es) [] pos) σ H Q := we_callTy d hg b.b_type (by decide +kernel) he hpl h
theorem we_c_len (d : Def X G N sc k) (b : Bi G.mg) (hg : glB sc "len" = true) (he : ns e = true) (hpl : nss es = true) (h : WA X (e :: es) σ H fun vs H1 => RC X (.builtin "len") vs H1 Q) : WE X (.Call (.Name "len" p) (e :: es) [] pos) σ H Q := we_callB d hg b.b_len (by decide +kernel) he hpl h
theorem we_c_isinstance (d : Def X G N sc k) (b : Bi G.mg) (hg : glB sc "isinstance" = true) (he : ns e = true) (hpl : nss es = true) (h : WA X (e :: es) σ H fun vs H1 => RC X (.builtin "isinstance") vs H1 Q) : WE X (.Call (.Name "isinstance" p) (e :: es) [] pos) σ H Q := we_callB d hg b.b_isinstance (by decide +kernel) he hpl h
theorem we_c_abs (d : Def X G N sc k) (b : Bi G.mg) (hg : glB sc "abs" = true) (he : ns e = true) (hpl : nss es = true) (h : WA X (e :: es) σ H fun vs H1 => RC X (.builtin "abs") vs H1 Q) : WE X (.Call (.Name "abs" p) (e :: es) [] pos) σ H Q := we_callB d hg b.b_abs (by decide +kernel) he hpl h
theorem we_c_min (d : Def X G N sc k) (b : Bi G.mg) (hg : glB sc "min" = true) (he : ns e = true) (hpl : nss es = true) (h : WA X (e :: es) σ H fun vs H1 => RC X (.builtin "min") vs H1 Q) : WE X (.Call (.Name "min" p) (e :: es) [] pos) σ H Q := we_callB d hg b.b_min (by decide +kernel) he hpl h
theorem we_c_max (d : Def X G N sc k) (b : Bi G.mg) (hg : glB sc "max" = true) (he : ns e = true) (hpl : nss es = true) (h : WA X (e :: es) σ H fun vs H1 => RC X (.builtin "max") vs H1 Q) : WE X (.Call (.Name "max" p) (e :: es) [] pos) σ H Q := we_callB d hg b.b_max (by decide +kernel) he hpl h
theorem we_c_any (d : Def X G N sc k) (b : Bi G.mg) (hg : glB sc "any" = true) (he : ns e = true) (hpl : nss es = true) (h : WA X (e :: es) σ H fun vs H1 => RC X (.builtin "any") vs H1 Q) : WE X (.Call (.Name "any" p) (e :: es) [] pos) σ H Q := we_callB d hg b.b_any (by decide +kernel) he hpl h
theorem we_c_all (d : Def X G N sc k) (b : Bi G.mg) (hg : glB sc "all" = true) (he : ns e = true) (hpl : nss es = true) (h : WA X (e :: es) σ H fun vs H1 => RC X (.builtin "all") vs H1 Q) : WE X (.Call (.Name "all" p) (e :: es) [] pos) σ H Q := we_callB d hg b.b_all (by decide +kernel) he hpl h
theorem we_c_sum (d : Def X G N sc k) (b : Bi G.mg) (hg : glB sc "sum" = true) (he : ns e = true) (hpl : nss es = true) (h : WA X (e :: es) σ H fun vs H1 => RC X (.builtin "sum") vs H1 Q) : WE X (.Call (.Name "sum" p) (e :: es) [] pos) σ H Q := we_callB d hg b.b_sum (by decide +kernel) he hpl h
theorem we_c_sorted (d : Def X G N sc k) (b : Bi G.mg) (hg : glB sc "sorted" = true) (he : ns e = true) (hpl : nss es = true) (h : WA X (e :: es) σ H fun vs H1 => RC X (.builtin "sorted") vs H1 Q) : WE X (.Call (.Name "sorted" p) (e :: es) [] pos) σ H Q := we_callB d hg b.b_sorted (by decide +kernel) he hpl h
theorem we_c_repr (d : Def X G N sc k) (b : Bi G.mg) (hg : glB sc "repr" = true) (he : ns e = true) (hpl : nss es = true) (h : WA X (e :: es) σ H fun vs H1 => RC X (.builtin "repr") vs H1 Q) : WE X (.Call (.Name "repr" p) (e :: es) [] pos) σ H Q := we_callB d hg b.b_repr (by decide +kernel) he hpl h
end
end Wx

namespace Wx
open PySem L2
/-! ### the laws' draw: a dict of two lists and two numbers -/
def D4 (aw ac : Addr) (r t : Int) : List (Key × V) := [(.inr "wide", .ref aw), (.inr "cells", .ref ac), (.inr "rest", .int r), (.inr "turn", .int t)]
theorem d4_wide {aw ac : Addr} {r t : Int} : valV (D4 aw ac r t) (.inr "wide") = some (.ref aw) := rfl
theorem d4_cells {aw ac : Addr} {r t : Int} : valV (D4 aw ac r t) (.inr "cells") = some (.ref ac) := rfl
theorem d4_rest {aw ac : Addr} {r t : Int} : valV (D4 aw ac r t) (.inr "rest") = some (.int r) := rfl
theorem d4_turn {aw ac : Addr} {r t : Int} : valV (D4 aw ac r t) (.inr "turn") = some (.int t) := rfl
theorem d4_put_rest {aw ac : Addr} {r t z : Int} : putK (D4 aw ac r t) (.inr "rest") (.int z) = D4 aw ac z t := rfl
theorem d4_put_turn {aw ac : Addr} {r t z : Int} : putK (D4 aw ac r t) (.inr "turn") (.int z) = D4 aw ac r z := rfl
theorem d4_make {aw ac : Addr} {r t : Int} : mergeK [] [(Sum.inr ("wide" : Str), V.ref aw), (Sum.inr ("cells" : Str), V.ref ac), (Sum.inr ("rest" : Str), V.int r), (Sum.inr ("turn" : Str), V.int t)] = D4 aw ac r t := rfl
/-- the draw at d, its lists apart from all that H0 knows; t turns of at most B -/
structure DrawIs (H : Hp) (d aw ac : Addr) (ws cs : List Int) (r t : Int) (B : Nat) : Prop where
  hd : H d = some (.dK (D4 aw ac r t))
  hw : H aw = some (.lst (ws.map V.int))
  hc : H ac = some (.lst (cs.map V.int))
  t0 : 0 ≤ t
  tB : t ≤ B
  cB : ∀ c ∈ cs, 0 ≤ c ∧ c < 2147483648
  wl : ws.length ≤ 63
  ne : aw ≠ ac
structure DrawAt (H0 H : Hp) (d : Addr) (B : Nat) : Prop where
  same : Same H0 H
  nd : H0 d = none
  is : ∃ (aw ac : Addr) (ws cs : List Int) (r t : Int), H0 aw = none ∧ H0 ac = none ∧ DrawIs H d aw ac ws cs r t B
theorem DrawAt.mono {H0 H : Hp} {d : Addr} {B C : Nat} (h : DrawAt H0 H d B) (l : B ≤ C) : DrawAt H0 H d C := by
  obtain ⟨s, n, aw, ac, ws, cs, r, t, n1, n2, I⟩ := h
  exact ⟨s, n, aw, ac, ws, cs, r, t, n1, n2, { I with tB := by have := I.tB; omega }⟩
/-- an object is laid beside the draw -/
theorem DrawAt.laid {H0 H : Hp} {d : Addr} {B : Nat} (h : DrawAt H0 H d B) {p : Addr} {o : HO} (hp : H p = none) : DrawAt (upd H0 p o) (upd H p o) d B := by
  obtain ⟨s, n, aw, ac, ws, cs, r, t, n1, n2, I⟩ := h
  have e1 : d ≠ p := ne_of_none I.hd hp
  have e2 : aw ≠ p := ne_of_none I.hw hp
  have e3 : ac ≠ p := ne_of_none I.hc hp
  refine ⟨fun b u q => ?_, by rw [upd_ne e1]; exact n, aw, ac, ws, cs, r, t, by rw [upd_ne e2]; exact n1, by rw [upd_ne e3]; exact n2, ⟨by rw [upd_ne e1]; exact I.hd, by rw [upd_ne e2]; exact I.hw, by rw [upd_ne e3]; exact I.hc, I.t0, I.tB, I.cB, I.wl, I.ne⟩⟩
  by_cases e : b = p
  · subst e
    rw [upd_same] at q ⊢
    exact q
  · rw [upd_ne e] at q ⊢
    exact s b u q
/-- .. or forgotten -/
theorem DrawAt.less {H0 H1 H : Hp} {d : Addr} {B : Nat} (h : DrawAt H1 H d B) (s : Same H0 H1) : DrawAt H0 H d B := by
  obtain ⟨s1, n, aw, ac, ws, cs, r, t, n1, n2, I⟩ := h
  exact ⟨s.trans s1, s.free n, aw, ac, ws, cs, r, t, s.free n1, s.free n2, I⟩
/-- all that stands stays: the draw too -/
theorem DrawAt.keep {H0 H H' : Hp} {d : Addr} {B : Nat} (h : DrawAt H0 H d B) (s : Same H H') : DrawAt H0 H' d B := by
  obtain ⟨s1, n, aw, ac, ws, cs, r, t, n1, n2, I⟩ := h
  exact ⟨s1.trans s, n, aw, ac, ws, cs, r, t, n1, n2, ⟨s _ _ I.hd, s _ _ I.hw, s _ _ I.hc, I.t0, I.tB, I.cB, I.wl, I.ne⟩⟩
/-- take(draw, many): some number from 0 to below many, one turn more at most -/
def spTake : Sp := fun vs H Q _ => ∃ (H0 : Hp) (d : Addr) (B : Nat) (many : Int), vs = [.ref d, .int many] ∧ DrawAt H0 H d B ∧ B < 1000000000000 ∧ 0 < many ∧ many < 1073741824 ∧
  ∀ (n : Int) (H' : Hp), 0 ≤ n → n < many → DrawAt H0 H' d (B + 1) → Q (.int n) H'
/-- mixed(draw): some number -/
def spMixed : Sp := fun vs H Q _ => ∃ (d aw ac : Addr) (ws cs : List Int) (r t : Int) (B : Nat), vs = [.ref d] ∧ DrawIs H d aw ac ws cs r t B ∧ B < 2000000000000 ∧
  ∀ (n : Int) (H' : Hp), Same (upd H d (.dK (D4 aw ac r (t + 1)))) H' → Q (.int n) H'
end Wx
namespace Wx
open PySem L2
section
variable {X : Cx} {G : Gb} {N : List Str} {sc : Scope} {k : Nat} {W : WX} {σ : L2.St} {H : Hp} {D : Ends} {a b : Expr} {x y : Str} {pos : Pos}
theorem env_sc {P : Env → Prop} {sc : Scope} (h : ∀ env : Env, P { env with scope := sc }) {env : Env} (e : env.scope = sc) : P env := by
  have q := h env
  rw [← e] at q
  exact q
theorem ws_par2 (d : Fr X G N sc k W) (i j : Nat) {px py pt : Pos} {kt k2 pt2} (h1 : N[i]? = some x) (h2 : N[j]? = some y) (hij : i ≠ j) (hx : locB sc x = true) (hy : locB sc y = true)
    (hw : ∀ env : Env, swappedStores [.Tuple [.Name x px, .Name y py] kt pt] (.Tuple [a, b] k2 pt2) { env with scope := sc } = pure (some [x, y]))
    (hs : swapsWithSole [.Tuple [.Name x px, .Name y py] kt pt] (.Tuple [a, b] k2 pt2) pos.line X.env = pure false)
    (h : WE X a σ H fun v H1 => WE X b σ H1 fun w H2 => D.nx ((σ.set i (some v)).set j (some w)) H2) (sa : ns a = true) (sb : ns b = true) : WS X (.Assign [.Tuple [.Name x px, .Name y py] kt pt] (.Tuple [a, b] k2 pt2) pos) D σ H := by
  refine ws_of (ps_par (i := i) (j := j) (ta := WA X [a, b]) d.calm (by rw [d.n]; exact d.nd) (by rw [d.n]; exact h1) (by rw [d.n]; exact h2) hij (by rw [d.sc]; exact loc_of hx) (by rw [d.sc]; exact loc_of hy) pa_wa
    (env_sc (P := fun env => swappedStores [.Tuple [.Name x px, .Name y py] kt pt] (.Tuple [a, b] k2 pt2) env = pure (some [x, y])) hw d.sc) hs) ?_
  show WA X [a, b] σ H _
  refine wa_cons sa (we_mono (fun v H1 q => wa_cons sb (we_mono (fun w H2 q => wa_nil ⟨v, w, rfl, q⟩) q)) h)

theorem dgk {kvs : List (Key × V)} {p : Addr} {z : Str} {v : V} (e : H p = some (.dK kvs)) (hv : valV kvs (Sum.inr z) = some v) : DGet H p (.str z) (some v) := by rw [← hv]; exact DGet.k (k := Sum.inr z) e
theorem dpk {kvs kvs' : List (Key × V)} {p : Addr} {z : Str} {v : V} (e : H p = some (.dK kvs)) (hl : kvs.length < sizeLine) (hp : putK kvs (Sum.inr z) v = kvs') : DPut H p (.str z) v (upd H p (.dK kvs')) := by rw [← hp]; exact DPut.k (k := Sum.inr z) e hl
theorem d4_len {aw ac : Addr} {r t : Int} : (D4 aw ac r t).length < sizeLine := by show 4 < sizeLine; decide
theorem len_le {n : Nat} (h : n ≤ 100000) : n ≤ sizeLine := Nat.le_trans h (by decide)
theorem len_lt {n : Nat} (h : n < 100000) : n < sizeLine := Nat.lt_of_lt_of_le h (by decide)
theorem same_new {H : Hp} {p : Addr} {o : HO} (h : H p = none) : Same H (upd H p o) := fun b u e => by
  rw [upd_ne (ne_of_none e h)]
  exact e
/-- the draw behind a change of its dict alone, all else kept -/
theorem DrawIs.step {H H' : Hp} {d aw ac : Addr} {ws cs : List Int} {r t r' t' : Int} {B C : Nat} (I : DrawIs H d aw ac ws cs r t B) (h0 : 0 ≤ t') (hB : t' ≤ C) (k : Same (upd H d (.dK (D4 aw ac r' t'))) H') : DrawIs H' d aw ac ws cs r' t' C := by
  have e1 : aw ≠ d := ne_of I.hw I.hd (by intro q; cases q)
  have e2 : ac ≠ d := ne_of I.hc I.hd (by intro q; cases q)
  exact ⟨k _ _ upd_same, k _ _ (by rw [upd_ne e1]; exact I.hw), k _ _ (by rw [upd_ne e2]; exact I.hc), h0, hB, I.cB, I.wl, I.ne⟩
/-- .. behind a pop of its wide numbers -/
theorem DrawIs.pop {H H' : Hp} {d aw ac : Addr} {z : Int} {ws cs : List Int} {r t r' : Int} {B : Nat} (I : DrawIs H d aw ac (z :: ws) cs r t B) (k : Same (upd (upd H aw (.lst (ws.map V.int))) d (.dK (D4 aw ac r' t))) H') : DrawIs H' d aw ac ws cs r' t B := by
  have e1 : aw ≠ d := ne_of I.hw I.hd (by intro q; cases q)
  have e2 : ac ≠ d := ne_of I.hc I.hd (by intro q; cases q)
  exact ⟨k _ _ upd_same, k _ _ (by rw [upd_ne e1, upd_same]), k _ _ (by rw [upd_ne e2, upd_ne I.ne.symm]; exact I.hc), I.t0, I.tB, I.cB, by have := I.wl; rw [List.length_cons] at this; omega, I.ne⟩
theorem DrawIs.keep {H H' : Hp} {d aw ac : Addr} {ws cs : List Int} {r t : Int} {B C : Nat} (I : DrawIs H d aw ac ws cs r t B) (hB : B ≤ C) (k : Same H H') : DrawIs H' d aw ac ws cs r t C :=
  ⟨k _ _ I.hd, k _ _ I.hw, k _ _ I.hc, I.t0, by have := I.tB; omega, I.cB, I.wl, I.ne⟩
theorem same_upd {H0 H : Hp} {p : Addr} {o : HO} (s : Same H0 H) (n : H0 p = none) : Same H0 (upd H p o) := fun b u e => by
  rw [upd_ne (ne_of_none e n)]
  exact s b u e
theorem dp_ints {K : PySem.W.Frag} {H : Hp} {a : Addr} {ns : List Int} (h : SqL K H a (ns.map V.int)) : Dp K H (.ref a) (.list (ns.map PyData.int)) := by
  refine .lst h ?_
  clear h
  induction ns with
  | nil => exact .nil
  | cons n ns ih => exact .cons (.int n) ih
theorem lay_ints : ∀ (ns : List Int), PyData.canLayAll0 (ns.map PyData.int) = true ∧ PyData.depthAll (ns.map PyData.int) = 0
  | [] => ⟨rfl, rfl⟩
  | n :: ns => by
    obtain ⟨h1, h2⟩ := lay_ints ns
    refine ⟨?_, ?_⟩
    · show (true && PyData.canLayAll0 (ns.map PyData.int)) = true
      rw [h1] <;> rfl
    · show max 0 (PyData.depthAll (ns.map PyData.int)) = 0
      rw [h2] <;> rfl
theorem shaped_ints (ns : List Int) : SeqAt.shaped (.list (ns.map PyData.int)) = true := by
  obtain ⟨h1, h2⟩ := lay_ints ns
  show (PyData.canLayAll0 (ns.map PyData.int) && decide (PyData.depthAll (ns.map PyData.int) + 1 ≤ 64)) = true
  rw [h1, h2] <;> rfl
theorem eqv_nil {ns : List Int} : PyData.eqv (.list (ns.map PyData.int)) (.list []) = ns.isEmpty := by
  cases ns <;> rfl
/-- pick(draw, some): one item of the list -/
def spPick (K : PySem.W.Frag) : Sp := fun vs H Q _ => ∃ (H0 : Hp) (d l : Addr) (B : Nat) (xs : List V), vs = [.ref d, .ref l] ∧ DrawAt H0 H d B ∧ B < 1000000000000 ∧ SqL K H0 l xs ∧ 0 < xs.length ∧ xs.length < 1073741824 ∧
  ∀ (i : Nat) (x : V) (H' : Hp), xs[i]? = some x → DrawAt H0 H' d (B + 1) → Q x H'
/-- begun(script): a new draw, no turn taken -/
def spBegun (K : PySem.W.Frag) : Sp := fun vs H Q _ => ∃ (a : Addr) (ns : List Int), vs = [.ref a] ∧ SqL K H a (ns.map V.int) ∧ ns.length ≤ 63 ∧ ∀ (d : Addr) (H' : Hp), DrawAt H H' d 0 → Q (.ref d) H'
theorem int_of_map {ns : List Int} {i : Nat} {x : V} (h : (ns.map V.int)[i]? = some x) : ∃ n, ns[i]? = some n ∧ x = .int n := by
  rw [List.getElem?_map] at h
  cases e : ns[i]? with
  | none => rw [e] at h; cases h
  | some n => rw [e] at h; exact ⟨n, rfl, (Option.some.inj h).symm⟩
theorem map_app {ns : List Int} {n : Int} : ns.map V.int ++ [V.int n] = (ns ++ [n]).map V.int := by rw [List.map_append] <;> rfl
end
end Wx

/-! A caught exception as a value: behind the clause its object is tracked, by its class and its own dict. -/
namespace Wx
open PySem L2
/-- the exception object at a: its class, its own dict -/
def ExV (a : Addr) (cls : Value) (d : Option Addr) : HO :=
  .ext fun h => ∃ (oe : Obj) (vs : Array Value), h.get? a = some oe ∧ Zc cls d oe ∧ oe.data = .fields vs
theorem exV_ok {P : Program} {w : World} {H : Hp} {h : Heap} {a : Addr} {cls : Value} {d : Option Addr} {oe : Obj} {vs : Array Value} (e : h.get? a = some oe) (z : Zc cls d oe) (f : oe.data = .fields vs) :
    ObjOk P w H h a (ExV a cls d) :=
  ⟨⟨oe, vs, e, z, f⟩, ⟨oe, e⟩, fun h1 h2 ⟨ob, us, e1, z1, f1⟩ keep => ⟨ob, us, keep _ e1, z1, f1⟩⟩
section
variable {X : Cx} {pins : List (Addr × Obj)} {σ : L2.St} {H : Hp} {sI s : Shared}
/-- an exception's object that came after the state sI is tracked from now on -/
theorem track {a : Addr} {cls : Value} {d : Option Addr} {oe : Obj} {vs : Array Value} (I : L2.Inv X pins σ H sI) (J : L2.Inv X pins σ H s) (hx : X.ex = []) (new : sI.heap.get? a = none) (na : H a = none) (nL : a ≠ X.env.locals)
    (e : s.heap.get? a = some oe) (z : Zc cls d oe) (f : oe.data = .fields vs) : L2.Inv X pins σ (upd H a (ExV a cls d)) s := by
  have old : X.s_0.heap.get? a = none := by
    cases q : X.s_0.heap.get? a with
    | none => rfl
    | some o =>
      obtain ⟨o', q'⟩ := I.base.there a o q (by rw [hx]; exact List.not_mem_nil)
      rw [new] at q'
      cases q'
  have apart : ∀ b o, X.s_0.heap.get? b = some o → b ≠ a := fun b o q n => by
    rw [n, old] at q
    cases q
  have cellNe : ∀ x c, X.env.cells.lookup x = some c → c ≠ a := fun x c q n => by
    obtain ⟨v, oc, h1, h2⟩ := J.cell x c q
    rw [n, e] at h1
    cases h1
    rw [f] at h2
    cases h2
  refine { J with base := ?_, free := ?_, freeC := fun x c q => ?_, pin := fun p hp => ?_, hok := fun b o q => ?_ }
  · exact { J.base with
      free := fun b o q n x => by rw [upd_ne (apart b o q)]; exact J.base.free b o q n x
      tups := fun b xs q => by rw [upd_ne (ne_of_none (J.base.tups b xs q) na)]; exact J.base.tups b xs q
      frzs := fun b o u q => by rw [upd_ne (ne_of_none (J.base.frzs b o u q) na)]; exact J.base.frzs b o u q
      tbls := fun b ps q => by
        obtain ⟨more, q'⟩ := J.base.tbls b ps q
        exact ⟨more, by rw [upd_ne (ne_of_none q' na)]; exact q'⟩ }
  · rw [upd_ne nL.symm]
    exact J.free
  · rw [upd_ne (cellNe x c q)]
    exact J.freeC x c q
  · obtain ⟨h1, h2, h3, h4, h5⟩ := J.pin p hp
    refine ⟨h1, ?_, h3, h4, h5⟩
    have ne : p.1 ≠ a := fun n => by
      have q := (I.pin p hp).1
      rw [n, new] at q
      cases q
    rw [upd_ne ne]
    exact h2
  · by_cases n : b = a
    · subst n
      rw [upd_same] at q
      cases q
      exact exV_ok e z f
    · rw [upd_ne n] at q
      exact (J.hok b o q).stay (fun _ _ _ q => q) (fun c q => by rw [upd_ne (ne_of_none q na)]; exact q) fun c xs q => by
        rw [upd_ne (ne_of_none q na)]
        exact q
/-- what such a clause wishes of an exception of the body: it is of the class c, and what follows goes on with the exception at a in the slot m (the clause's own name, slot i, is gone) -/
def wV (K : PySem.W.Frag) (c : Value) (i m : Nat) (D : Ends) : WX := fun cls d σ H => PySem.W.exmOne K cls c = some true ∧
  ∀ a, H a = none → D.nx (((σ.set i (some (.ref a))).set m (some (.ref a))).set i none) (upd H a (ExV a cls d))
variable {G : Gb} {N : List Str} {sc : Scope} {k : Nat} {W : WX} {D : Ends}
theorem Fr.suiteInv (d : Fr X G N sc k W) {a : Addr} (J : L2.Inv X pins σ H s) : L2.Inv (X.suite a (X.pn ++ pins)) [] σ H s :=
  ⟨J.ok.suite _ _, J.os, J.bare, J.base, J.loc, J.cell, J.free, J.freeC, fun p hp => J.pin p (by rw [List.append_nil] at hp; exact hp), J.hok, J.len⟩
theorem unsuiteInv {a : Addr} {pn' : List (Addr × Obj)} (J : L2.Inv (X.suite a (X.pn ++ pins)) pn' σ H s) (ok : X.Ok) : L2.Inv X pins σ H s :=
  ⟨ok, J.os, J.bare, J.base, J.loc, J.cell, J.free, J.freeC, fun p hp => J.pin p (List.mem_append_left _ hp), J.hok, J.len⟩
/-- try: body / except x as n: y = n -/
theorem ws_tryVt {body : List Stmt} {x n y : Str} {np yp np2 ap pos pos' : Pos} {c : Value} (d : Fr X G N sc k W) (i m : Nat) (hi : N[i]? = some n) (hm : N[m]? = some y) (hn : sc.names.lookup n = some .local) (hy : L2.Loc sc y) (hg : glB sc x = true) (gC : G.mg x = some c)
    (hb : ∀ pn xe, Fr (X.tr pn xe) G N sc k (wV G.K c i m D) → WB (X.tr pn xe) body D σ H) (hdb : (x == ("__debug__" : Str)) = false := by decide +kernel) (h1 : (n == ("__debug__" : Str)) = false := by decide +kernel) (h2 : (n == ("__classdict__" : Str)) = false := by decide +kernel) :
    WS X (.Try body [.ExceptHandler (some (.Name x np)) (some n) [.Assign [.Name y yp] (.Name n np2) ap] pos'] [] [] pos) D σ H := by
  intro pins s I
  have ok := I.ok
  have frames : X.A.frames = some (X.env :: X.outer) := ok.frames.trans (congrArg some d.stk)
  have kn : X.env.kindOf n = some .local := by
    unfold Env.kindOf
    rw [d.sc]
    exact hn
  refine wpAny_Try_except ?_
  have own : ∀ {Ex : Value → Shared → Prop} {Ke : Value → Shared → Prop}, PassesOwn (model X.prog X.w) X.A X.env fun e s' => wpAny (model X.prog X.w) X.A (noteFrame e X.env) (fun _ s'' => Ke e s'') Ex s' := PassesOwn.looking
  refine wpAny_mono (hb (X.pn ++ pins) _ { prog := d.prog, w := d.w, K := d.K, mg := d.mg, base := d.base, n := d.n, sc := d.sc, nd := d.nd, calm := d.calm, room := d.room, fn := d.fn, own := own, tk := ?_, stk := d.stk, frm := d.frm, ex := d.ex } [] s (I.toTry _)) (fun f s1 q => ?_) fun _ _ z => z
  · -- the catch
    rintro u s' ⟨a, B, sI, ps, τ, H1, cls, dd, rfl, J0, ground, up, sky, na, hos, gens, ex1, hq⟩
    have J : L2.Inv X pins τ H1 sI := J0.ofTry ok
    have sky' : Sky B (X.env :: X.outer) a (Zc cls dd) X.env.locals s'.heap := by
      rw [← d.stk]
      exact sky
    show wpAny _ X.A (noteFrame (.ref a) X.env) _ _ s'
    refine Sky.land Zc.steady frames d.frm sky' fun hp3 fly up3 => ?_
    obtain ⟨o3, v3, at3, z3, f3⟩ := fly.there
    have notFrame : a ∉ frs (X.env :: X.outer) := fun hmem => by
      obtain ⟨_, o', q, nofields⟩ := fly.2.2.1.mem hmem
      rw [at3] at q
      cases q
      exact nofields _ f3
    have new : sI.heap.get? a = none := by
      cases q : sI.heap.get? a with
      | none => rfl
      | some o =>
        have q' := ground a o q (by
          show a ∉ frs X.stack
          rw [d.stk]
          exact notFrame)
        rw [fly.2.1] at q'
        cases q'
    have nL : a ≠ X.env.locals := fun e => notFrame (by
      rw [e]
      exact List.mem_filterMap.mpr ⟨X.env, List.mem_cons_self, d.frm⟩)
    have J3 : L2.Inv X pins τ H1 { s' with heap := hp3 } := J.landed ground fly.1 (up.trans up3) hos gens
    have T3 := track J J3 d.ex new na nL at3 z3 f3
    refine wpAny_handleBy_cons (codeAny_handlers_test ?_) (fun e => nomatch e)
    have ty : PySem.W.Looks (model X.prog X.w) hp3 (typeOf (.ref a)) cls := fun _ _ _ _ keep q => wpAny_typeOf_ref (keep _ _ at3) (by rw [z3.1]; exact q)
    have seen := PySem.W.exm_one (M := model X.prog X.w) J3.kIn ty (by rw [d.K]; exact ex1)
    refine ld_glob (X := X.suite a (X.pn ++ pins)) (d.suiteInv T3) (by
      show X.env.kindOf x = _
      exact d.toDef.gl hg) (by
      show X.mg x = _
      rw [d.mg]
      exact gC) ?_ hdb
    refine seen.here ?_
    refine codeAny_handlers_suite_as ?_
    refine HandSPX.lands_againZ fly fun hp4 fly4 up4 => ?_
    obtain ⟨o4, v4, at4, z4, f4⟩ := fly4.there
    have J4 : L2.Inv X pins τ H1 { s' with heap := hp4 } := J.landed ground fly4.1 ((up.trans up3).trans up4) hos gens
    have T4 := d.suiteInv (a := a) (track J J4 d.ex new na nL at4 z4 f4)
    refine store_ok (X := X.suite a (X.pn ++ pins)) (i := i) (v := .ref a) T4 (by show X.N.Nodup; rw [d.n]; exact d.nd) (by show X.N[i]? = _; rw [d.n]; exact hi) (.inl kn) rfl (fun s5 S5 => ?_) (.inr kn)
    have run : PSs (X.suite a (X.pn ++ pins)) [.Assign [.Name y yp] (.Name n np2) ap] (tAsg (tVar i) (gName m)) :=
      pss_one (ps_set (i := m) (by show X.N.Nodup; rw [d.n]; exact d.nd) (by show X.N[m]? = _; rw [d.n]; exact hm) (by show L2.Loc X.env.scope y; rw [d.sc]; exact hy)
        (pe_var (i := i) (by show X.N[i]? = _; rw [d.n]; exact hi) (by show Vis X.env.scope n; rw [d.sc]; exact .inl hn) h1 h2) rfl (.inl (d.fn y)))
    have len : i < τ.length := by
      have e := J.len
      rw [d.n] at e
      rw [e]
      exact (List.getElem?_eq_some_iff.mp hi).1
    refine wpAny_mono (run.run [] s5 _ _ { nx := fun σ' H' => D.nx (σ'.set i none) H', rt := fun _ _ => False } S5 ⟨.ref a, List.getElem?_set_self len, hq a na⟩) (fun f s6 q => ?_) fun _ _ z => z.elim
    cases f with
    | next =>
      obtain ⟨σ6, H6, S6, q6⟩ := q
      exact gone_ok (unsuiteInv S6 ok) (by rw [d.n]; exact d.nd) (by rw [d.n]; exact hi) kn fun s7 J7 => ⟨_, _, J7, q6⟩
    | brk =>
      obtain ⟨_, _, _, q6⟩ := q
      exact q6.elim
    | cont =>
      obtain ⟨_, _, _, q6⟩ := q
      exact q6.elim
    | ret u =>
      obtain ⟨_, _, _, _, _, q6⟩ := q
      exact q6.elim
  · cases f with
    | next =>
      obtain ⟨σ', H', J', q'⟩ := q
      exact wpAny_execs_nil ⟨σ', H', J'.ofTry ok, q'⟩
    | brk =>
      obtain ⟨σ', H', J', q'⟩ := q
      exact ⟨σ', H', J'.ofTry ok, q'⟩
    | cont =>
      obtain ⟨σ', H', J', q'⟩ := q
      exact ⟨σ', H', J'.ofTry ok, q'⟩
    | ret u =>
      obtain ⟨v, σ', H', J', r, q'⟩ := q
      exact ⟨v, σ', H', J'.ofTry ok, r, q'⟩

theorem ws_tryV {body : List Stmt} {x n y : Str} {np yp np2 ap pos pos' : Pos} {c : Value} (d : Fr X G N sc k W) (i m : Nat) (hi : N[i]? = some n) (hm : N[m]? = some y) (hn : sc.names.lookup n = some .local) (hy : L2.Loc sc y) (hg : glB sc x = true) (gC : G.mg x = some c)
    (hb : ∀ X', Fr X' G N sc k (wV G.K c i m D) → WB X' body D σ H) (hdb : (x == ("__debug__" : Str)) = false := by decide +kernel) (h1 : (n == ("__debug__" : Str)) = false := by decide +kernel) (h2 : (n == ("__classdict__" : Str)) = false := by decide +kernel) :
    WS X (.Try body [.ExceptHandler (some (.Name x np)) (some n) [.Assign [.Name y yp] (.Name n np2) ap] pos'] [] [] pos) D σ H := ws_tryVt d i m hi hm hn hy hg gC (fun pn xe => hb _) hdb h1 h2
/-! ### own exception classes without own __init__ -/
/-- what the text's top has left of the exception class x, at C -/
structure ExC (G : Gb) (x : Str) (C : Addr) : Prop where
  gC : G.mg x = some (.ref C)
  xC : PySem.W.excIn G.K C [.type "ValueError", .type "Exception", .type "BaseException", .type "object"] "ValueError.__new__" = true
  kC : PySem.W.keepIn G.K (.ref C) = true
  bC : PySem.W.subIn G.K (.ref C) (.type "BaseException") = some true
  tC : PySem.W.typeIn G.K (.ref C) = some (.type "type")
/-- a class that an except clause names: errors of the class at C are of it -/
structure ExM (G : Gb) (x : Str) (S C : Addr) : Prop where
  hd : PySem.W.hasDictIn G.K S = true
  bS : PySem.W.subIn G.K (.ref S) (.type "BaseException") = some true
  tS : PySem.W.typeIn G.K (.ref S) = some (.type "type")
  sC : PySem.W.subIn G.K (.ref C) (.ref S) = some true
theorem ExM.one {x : Str} {S C : Addr} (h : ExM G x S C) : PySem.W.exmOne G.K (.ref C) (.ref S) = some true := PySem.W.exm_ref h.bS h.hd h.tS h.sC
theorem ws_raise (d : Fr X G N sc k W) {x m : Str} {C : Addr} {j : Nat} {p p2 pos pos' : Pos} (F : ExC G x C) (hg : glB sc x = true) (q : W (.ref C) none σ H) (hdb : (x == ("__debug__" : Str)) = false := by decide +kernel) :
    WS X (.Raise (some (.Call (.Name x p) [.Constant (.str m) j p2] [] pos)) none pos') D σ H :=
  ws_of (ps_raise d.calm d.tk (pmk_own PySem.F.excBase_ValueError (by rw [d.K]; exact F.xC) (by rw [d.mg]; exact F.gC) (by rw [d.K]; exact F.kC) (raises_own (by rw [d.K]; exact F.bC) (by rw [d.K]; exact F.tC)) (d.toDef.gl hg) hdb)) q
/-- isinstance(e, c), e an exception's value (without a dict of its own) -/
theorem rc_isV {x : V} {C a : Addr} {c : V} {u : Value} {r : Bool} {Q : VK} (d : Def X G N sc k) (E : ExcC G.K C) (hc : ClsV c u) (h : H a = some (ExV a (.ref C) none)) (e : PySem.W.kitOne G.K (.ref C) u = some r) (q : Q (.bl r) H) : RC X (.builtin "isinstance") [.ref a, c] H Q := by
  refine ⟨fun vs H' Q' => vs = [.ref a, c] ∧ H' a = some (ExV a (.ref C) none) ∧ Q' (.bl r) H', ?_, rfl, h, q⟩
  intro pins s τ H1 xs us Q1 I rr hh
  obtain ⟨rfl, h1, q1⟩ := hh
  obtain ⟨u1, u2, rfl, r1, r2⟩ := vals2 rr
  cases (show u1 = Value.ref a from r1)
  have e2 := hc.eq r2
  subst e2
  obtain ⟨⟨oe, vs, at1, z1, f1⟩, _, _⟩ := I.hok a _ h1
  have J : PySem.W.InstAt s.heap a oe C none := by
    obtain ⟨oc, od, oda, osl⟩ := oe
    obtain ⟨rfl, rfl⟩ := z1
    cases f1
    exact ⟨at1, rfl, rfl, trivial⟩
  have K0 : G.K.In s.heap := by
    rw [← d.K]
    exact I.kIn
  exact PySem.W.kia_one (PySem.W.handS_kitx_exc E.hg E.hk E.hs E.hd E.ha E.hn E.ht E.hm) K0 J e (fun z => nomatch z) fun tk => ⟨.bl r, H1, I.kept (t' := tk) fun _ _ z => z, rfl, q1⟩
theorem kit_self {K : PySem.W.Frag} {C : Addr} : PySem.W.kitOne K (.ref C) (.ref C) = some true := by
  unfold PySem.W.kitOne
  rw [if_pos (beq_self_eq_true _)]
end
end Wx

/-! Data: values that stand for nested lists and tuples of None, bools, ints, texts. -/
namespace Wx
open PySem L2
section
variable {K : PySem.W.Frag} {H H' : Hp} {a : Addr} {xs : List V} {v : V} {d : PyData}
theorem _root_.L2.Same.tup (e : Same H H') (h : SqT K H a xs) : SqT K H' a xs := by
  rcases h with (h | ⟨o, h⟩) | h
  · exact .inl (.inl (e _ _ h))
  · exact .inl (.inr ⟨o, e _ _ h⟩)
  · exact .inr h
mutual
theorem _root_.L2.Same.dp (e : Same H H') : ∀ (d : PyData) (v : V), Dp K H v d → Dp K H' v d
  | .none, _, h => by cases h; exact .non
  | .bool _, _, h => by cases h; exact .bl _
  | .int _, _, h => by cases h; exact .int _
  | .str _, _, h => by cases h; exact .str _
  | .list ds, _, h => by
    cases h with
    | lst h1 h2 => exact .lst (e.seq h1) (L2.Same.dpAll e ds _ h2)
  | .tuple ds, _, h => by
    cases h with
    | tup h1 h2 => exact .tup (L2.Same.tup e h1) (L2.Same.dpAll e ds _ h2)
  | .dict _, _, h => by cases h
theorem _root_.L2.Same.dpAll (e : Same H H') : ∀ (ds : List PyData) (vs : List V), DpAll K H vs ds → DpAll K H' vs ds
  | [], _, h => by cases h; exact .nil
  | d :: ds, _, h => by
    cases h with
    | cons h1 h2 => exact .cons (L2.Same.dp e d _ h1) (L2.Same.dpAll e ds _ h2)
end
def tyD : PyData → String
  | .none => "NoneType" | .bool _ => "bool" | .int _ => "int" | .str _ => "str" | .list _ => "list" | .tuple _ => "tuple" | .dict _ => "dict"
theorem ty_seqL (h : SqL K H a xs) : TyX K H (.ref a) (.type "list") := by
  rcases h with (h | ⟨o, h⟩) | ⟨o, its, n, h1, h2, _⟩
  · exact .base (.lst h)
  · exact .base (.frz h)
  · exact .kList h1 h2
theorem ty_seqT (h : SqT K H a xs) : TyX K H (.ref a) (.type "tuple") := by
  rcases h with (h | ⟨o, h⟩) | ⟨o, its, n, h1, h2, _⟩
  · exact .base (.tup h)
  · exact .fTuple h
  · exact .kTuple h1 h2
theorem dp_ty (h : Dp K H v d) : TyX K H v (.type (tyD d)) := by
  cases h with
  | non => exact .base .non
  | bl b => exact .base (.bl b)
  | int i => exact .base (.int i)
  | str x => exact .base (.str x)
  | lst h _ => exact ty_seqL h
  | tup h _ => exact ty_seqT h
theorem _root_.L2.DpAll.len : ∀ {vs : List V} {ds : List PyData}, DpAll K H vs ds → vs.length = ds.length
  | _, _, .nil => rfl
  | _, _, .cons _ h => congrArg Nat.succ h.len
theorem _root_.L2.DpAll.get : ∀ {vs : List V} {ds : List PyData} {i : Nat} {v : V}, DpAll K H vs ds → vs[i]? = some v → ∃ d, ds[i]? = some d ∧ Dp K H v d
  | _, _, _, _, .nil, e => by simp at e
  | _, _, 0, _, .cons h _, e => by
    cases e
    exact ⟨_, rfl, h⟩
  | _, _, i + 1, v, .cons _ h, e => h.get (i := i) (v := v) e
theorem kit_bt {a b : String} {r : Bool} (h : kitB a b = some r) : PySem.W.kitOne K (.type a) (.type b) = some r := kit_ty h
theorem kit_bt2 {a b c : String} {r s : Bool} (h1 : kitB a b = some r) (h2 : kitB a c = some s) : PySem.W.kitAny K (.type a) [.type b, .type c] = some (r || s) := by
  refine kitAny_cons (kit_ty h1) (fun e => kitAny_cons (kit_ty h2) (fun e2 => ?_) (fun e2 => ?_)) (fun e => ?_)
  · rw [e, e2] <;> exact kitAny_nil
  · rw [e2, Bool.or_true]
  · rw [e, Bool.true_or]
end
section
variable {X : Cx} {σ : L2.St} {H : Hp} {Q : VK} {pos : Pos} {G : Gb} {N : List Str} {sc : Scope} {k : Nat}
theorem we_t_int (d : Def X G N sc k) (b : Bi G.mg) (hg : glB sc "int" = true) (q : Q (.ty "int") H) : WE X (.Name "int" pos) σ H Q := we_blt (v := .ty "int") (u := .type "int") d hg b.b_int (by decide +kernel) rfl q
theorem we_t_bool (d : Def X G N sc k) (b : Bi G.mg) (hg : glB sc "bool" = true) (q : Q (.ty "bool") H) : WE X (.Name "bool" pos) σ H Q := we_blt (v := .ty "bool") (u := .type "bool") d hg b.b_bool (by decide +kernel) rfl q
theorem we_t_str (d : Def X G N sc k) (b : Bi G.mg) (hg : glB sc "str" = true) (q : Q (.ty "str") H) : WE X (.Name "str" pos) σ H Q := we_blt (v := .ty "str") (u := .type "str") d hg b.b_str (by decide +kernel) rfl q
theorem we_t_list (d : Def X G N sc k) (b : Bi G.mg) (hg : glB sc "list" = true) (q : Q (.ty "list") H) : WE X (.Name "list" pos) σ H Q := we_blt (v := .ty "list") (u := .type "list") d hg b.b_list (by decide +kernel) rfl q
theorem we_t_tuple (d : Def X G N sc k) (b : Bi G.mg) (hg : glB sc "tuple" = true) (q : Q (.ty "tuple") H) : WE X (.Name "tuple" pos) σ H Q := we_blt (v := .ty "tuple") (u := .type "tuple") d hg b.b_tuple (by decide +kernel) rfl q
theorem we_t_dict (d : Def X G N sc k) (b : Bi G.mg) (hg : glB sc "dict" = true) (q : Q (.ty "dict") H) : WE X (.Name "dict" pos) σ H Q := we_blt (v := .ty "dict") (u := .type "dict") d hg b.b_dict (by decide +kernel) rfl q
/-- any, all of a list of truths; min, max, of a list of numbers -/
theorem rc_any (d : Def X G N sc k) {a : Addr} {bs : List Bool} (h : SqL G.K H a (bs.map V.bl)) (q : Q (.bl (bs.any id)) H) : RC X (.builtin "any") [.ref a] H Q := ⟨_, cr_any d.calm, a, bs, rfl, by rw [d.K]; exact h, q⟩
theorem rc_all (d : Def X G N sc k) {a : Addr} {bs : List Bool} (h : SqL G.K H a (bs.map V.bl)) (q : Q (.bl (bs.all id)) H) : RC X (.builtin "all") [.ref a] H Q := ⟨_, cr_all d.calm, a, bs, rfl, by rw [d.K]; exact h, q⟩
theorem rc_minL (d : Def X G N sc k) {a : Addr} {ns : List Int} (h : SqL G.K H a (ns.map V.int)) (h0 : 0 < ns.length) (q : ∀ m, m ∈ ns → (∀ y, y ∈ ns → m ≤ y) → Q (.int m) H) : RC X (.builtin "min") [.ref a] H Q := ⟨_, cr_min d.calm, a, ns, rfl, by rw [d.K]; exact h, h0, q⟩
theorem rc_maxL (d : Def X G N sc k) {a : Addr} {ns : List Int} (h : SqL G.K H a (ns.map V.int)) (h0 : 0 < ns.length) (q : ∀ m, m ∈ ns → (∀ y, y ∈ ns → y ≤ m) → Q (.int m) H) : RC X (.builtin "max") [.ref a] H Q := ⟨_, cr_max d.calm, a, ns, rfl, by rw [d.K]; exact h, h0, q⟩
theorem rc_listOf (d : Def X G N sc k) {a : Addr} {xs : List V} (h : SqL G.K H a xs ∨ SqT G.K H a xs) (q : ∀ l, H l = none → Q (.ref l) (upd H l (.lst xs))) : RC X (.type "list") [.ref a] H Q := ⟨_, call_list_of, a, xs, rfl, by rw [d.K]; exact h, q⟩
theorem rc_tupleL (d : Def X G N sc k) {a : Addr} {xs : List V} (h : SqL G.K H a xs) (q : ∀ l, H l = none → Q (.ref l) (upd H l (.tup xs))) : RC X (.type "tuple") [.ref a] H Q := ⟨_, call_tuple_of, a, xs, rfl, .inl ⟨by rw [d.K]; exact h, q⟩⟩
theorem ro_in (d : Def X G N sc k) {x : V} {a : Addr} {xs : List V} (h : SqL G.K H a xs ∨ SqT G.K H a xs) (hx : flatV x = true) (hs : xs.all flatV = true) (q : Q (.bl (inV x xs)) H) : RO X (compareOp .In) x (.ref a) H Q := ⟨_, op_in_seq, a, xs, rfl, by rw [d.K]; exact h, hx, hs, q⟩
theorem ro_notIn (d : Def X G N sc k) {x : V} {a : Addr} {xs : List V} (h : SqL G.K H a xs ∨ SqT G.K H a xs) (hx : flatV x = true) (hs : xs.all flatV = true) (q : Q (.bl (!inV x xs)) H) : RO X (compareOp .NotIn) x (.ref a) H Q := ⟨_, op_notIn_seq, a, xs, rfl, by rw [d.K]; exact h, hx, hs, q⟩
end
end Wx

namespace Wx
open PySem L2
section
variable {X : Cx} {σ : L2.St} {H : Hp} {Q : VK} {D : Ends} {pos : Pos} {G : Gb} {N : List Str} {sc scope : Scope} {k : Nat} {W : WX} {tg elt iter : Expr} {ifs : List Expr} {vs : List Nat}
/-- a turn of a comprehension's block, by what comes of it: an item more, or none -/
def Turn (X : Cx) (G : Gb) (N : List Str) (sc scope : Scope) (k : Nat) (tg elt : Expr) (ifs : List Expr) (vs : List Nat) (σ : L2.St) (x : V) (H : Hp) (R : Option V → Hp → Prop) : Prop :=
  Blk X G N sc scope k fun X' => WG X' tg x (wipe σ vs) H fun σ2 H2 => wipe σ2 vs = wipe σ vs ∧ Blk X G N sc scope k fun X' => WTs X' ifs σ2 H2 fun b H3 =>
    if b = true then Blk X G N sc scope k fun X' => WE X' elt σ2 H3 fun y H4 => R (some y) H4 else R none H3
/-- .. over a list; over a tuple: Pv by the turn and the heap, the new list at L within -/
def LcT (X : Cx) (G : Gb) (N : List Str) (sc scope : Scope) (k : Nat) (tg elt : Expr) (ifs : List Expr) (vs : List Nat) (σ : L2.St) (y : V) (H1 : Hp) (Q : VK) : Prop :=
  ∃ (a : Addr) (xs : List V), y = .ref a ∧ SqT G.K H1 a xs ∧ ∀ L, H1 L = none → ∃ Pv : Nat → Hp → Prop, Pv 0 (upd H1 L (.lst [])) ∧ (∀ i H, i ≤ xs.length → Pv i H → SqT G.K H a xs) ∧
    (∀ i x H, xs[i]? = some x → Pv i H → Blk X G N sc scope k fun X' => WG X' tg x (wipe σ vs) H fun σ2 H2 => wipe σ2 vs = wipe σ vs ∧ Blk X G N sc scope k fun X' => WTs X' ifs σ2 H2 fun b H3 =>
      if b = true then Blk X G N sc scope k fun X' => WE X' elt σ2 H3 fun y H4 => ∃ acc, H4 L = some (.lst acc) ∧ acc.length < sizeLine ∧ Pv (i + 1) (upd H4 L (.lst (acc ++ [y]))) else Pv (i + 1) H3) ∧ ∀ H, Pv xs.length H → Q (.ref L) H
theorem lcT_core (d : Def X G N sc k) (h : WE X iter σ H fun y H1 => LcT X G N sc scope k tg elt ifs vs σ y H1 Q) :
    tLc (iTup X.K (WE X iter)) (fun v σ H R => Blk X G N sc scope k fun X' => WG X' tg v σ H R) (fun σ H R => Blk X G N sc scope k fun X' => WTs X' ifs σ H R) (fun σ H R => Blk X G N sc scope k fun X' => WE X' elt σ H R) vs σ H Q := by
  show WE X iter σ H _
  refine we_mono (fun y H1 q => ?_) h
  obtain ⟨a, xs, e, hq, q⟩ := q
  refine ⟨a, e, ⟨xs, by rw [d.K]; exact hq⟩, fun L hL => ?_⟩
  obtain ⟨Pv, h0, hl, hst, hd⟩ := q L hL
  rw [d.K]
  exact lc_tup (K := G.K) (a := a) (xs := xs) (σ := σ) (vs := vs) (H1 := H1) (D := L) (g := fun v σ H R => Blk X G N sc scope k fun X' => WG X' tg v σ H R) (tt := fun σ H R => Blk X G N sc scope k fun X' => WTs X' ifs σ H R)
    (te := fun σ H R => Blk X G N sc scope k fun X' => WE X' elt σ H R) (Qd := fun H => Q (.ref L) H) Pv h0 hl hst hd
theorem we_lcT (d : Def X G N sc k) (own : List (Str × Nat)) (ok : blkC N sc scope own = true) (hs : ∀ x, foldedSetIterable iter X.env x = pure x)
    (h : WE X iter σ H fun y H1 => LcT X G N sc scope k tg elt ifs (own.map (·.2)) σ y H1 Q) : WE X (.ListComp elt [⟨tg, iter, ifs, 0⟩] scope pos) σ H Q :=
  we_of (pe_lcW d (pi_tup pe_we) (blkOk_by ok) hs) (lcT_core d h)
theorem ws_lcT (d : Fr X G N sc k W) (i : Nat) {y : Str} {py spos : Pos} (own : List (Str × Nat)) (hy : N[i]? = some y) (hyl : sc.names.lookup y = some .local) (ok : blkC N sc scope own = true) (hs : ∀ x, foldedSetIterable iter X.env x = pure x)
    (hl : (py.line == pos.line) = true) (ha : (scope.names.any fun (n, k) => n == y && (k == .local || k == .cell)) = false)
    (h : WE X iter σ H fun z H1 => LcT X G N sc scope k tg elt ifs (own.map (·.2)) σ z H1 fun v H2 => D.nx (σ.set i (some v)) H2) : WS X (.Assign [.Name y py] (.ListComp elt [⟨tg, iter, ifs, 0⟩] scope pos) spos) D σ H := by
  intro pins s I
  have P := ps_setLc (X := X) (i := i) (own := own) (elt := elt) (pos := pos) (spos := spos) (py := py) (wi := iTup X.K (WE X iter)) (g := fun v σ H R => Blk X G N sc scope k fun X' => WG X' tg v σ H R) (tt := fun σ H R => Blk X G N sc scope k fun X' => WTs X' ifs σ H R) (te := fun σ H R => Blk X G N sc scope k fun X' => WE X' elt σ H R)
    d.calm (by rw [d.n]; exact d.nd) (by rw [d.n]; exact hy) (by rw [d.sc]; exact hyl) (sw_true I.ok.kind (by rw [d.sc]; exact hyl) hl ha) (pi_tup pe_we) (by rw [d.n, d.sc]; exact blkOk_by ok)
    (fun s H C cl fp => ⟨fun pins s σ H v u Q I r h => h _ (d.toDef.blk _ _ _ _ _) pins s u I r⟩) (fun s H C cl fp => ⟨fun pins s σ H Q I h => h _ (d.toDef.blk _ _ _ _ _) pins s I⟩) (fun s H C cl fp => ⟨fun pins s σ H Q I h => h _ (d.toDef.blk _ _ _ _ _) pins s I⟩) hs
  exact P.run pins s σ H D I (lcT_core (Q := fun v H2 => D.nx (σ.set i (some v)) H2) d.toDef h)
theorem take_succ {α : Type} {l : List α} {i : Nat} {x : α} (h : l[i]? = some x) : l.take (i + 1) = l.take i ++ [x] := by
  rw [List.take_succ, h]
  rfl
theorem map_at {α : Type} {zs : List α} {g : α → V} {i : Nat} {x : V} (h : (zs.map g)[i]? = some x) : ∃ z, zs[i]? = some z ∧ x = g z := by
  rw [List.getElem?_map] at h
  cases e : zs[i]? with
  | none => rw [e] at h; cases h
  | some z => rw [e] at h; exact ⟨z, rfl, (Option.some.inj h).symm⟩
/-- what a turn has come to, told for the list at L: xs the source's items, f what each one gives -/
def Done {α : Type} (zs : List α) (f : α → Option V) (H1 : Hp) (L : Addr) (i : Nat) (o : Option V) (H' : Hp) : Prop := match o with
  | some y => ∃ acc, H' L = some (.lst acc) ∧ acc.length < sizeLine ∧ (Same H1 (upd H' L (.lst (acc ++ [y]))) ∧ (upd H' L (.lst (acc ++ [y]))) L = some (.lst ((zs.take (i + 1)).filterMap f)))
  | none => Same H1 H' ∧ H' L = some (.lst ((zs.take (i + 1)).filterMap f))
theorem done {α : Type} {zs : List α} {z : α} {i : Nat} {L : Addr} {H1 H : Hp} {f : α → Option V} (hL : H1 L = none) (hx : zs[i]? = some z) (hn : zs.length < 100000) (s : Same H1 H) (hH : H L = some (.lst ((zs.take i).filterMap f))) :
    ∀ H', Same H H' → Done zs f H1 L i (f z) H' := by
  intro H' s'
  have e : (zs.take (i + 1)).filterMap f = (zs.take i).filterMap f ++ (match f z with | some y => [y] | none => []) := by
    rw [take_succ hx, List.filterMap_append, List.filterMap_cons]
    cases f z <;> rfl
  have hi : i < zs.length := (List.getElem?_eq_some_iff.mp hx).1
  have hl : ((zs.take i).filterMap f).length ≤ i := Nat.le_trans (List.length_filterMap_le _ _) (by rw [List.length_take]; omega)
  unfold Done
  rw [e]
  cases f z with
  | some y => exact ⟨_, s' _ _ hH, len_lt (by omega), same_upd (s.trans s') hL, upd_same⟩
  | none => exact ⟨s.trans s', by rw [List.append_nil]; exact s' _ _ hH⟩
theorem lcL_map {α : Type} {a : Addr} {zs : List α} (g : α → V) (f : α → Option V) (hq : SqL G.K H a (zs.map g)) (hn : zs.length < 100000)
    (turn : ∀ z ∈ zs, ∀ H', Same H H' → ∀ R : Option V → Hp → Prop, (∀ H2, Same H' H2 → R (f z) H2) → Turn X G N sc scope k tg elt ifs vs σ (g z) H' R)
    (fin : ∀ L H', H L = none → Same H H' → H' L = some (.lst (zs.filterMap f)) → Q (.ref L) H') : LcL X G N sc scope k tg elt ifs vs σ (.ref a) H Q := by
  refine ⟨a, _, rfl, hq, fun L hL => ⟨fun i H' => Same H H' ∧ H' L = some (.lst ((zs.take i).filterMap f)), ⟨same_new hL, upd_same⟩, fun i H' _ h => h.1.seq hq, fun i x H' hx h => ?_, fun H' h => ?_⟩⟩
  · obtain ⟨z, hz, rfl⟩ := map_at hx
    exact turn z (List.mem_of_getElem? hz) H' h.1 (Done zs f H L i) (done hL hz hn h.1 h.2)
  · obtain ⟨h1, h2⟩ := h
    rw [List.length_map, List.take_length] at h2
    exact fin L H' hL h1 h2
theorem lcT_map {α : Type} {a : Addr} {zs : List α} (g : α → V) (f : α → Option V) (hq : SqT G.K H a (zs.map g)) (hn : zs.length < 100000)
    (turn : ∀ z ∈ zs, ∀ H', Same H H' → ∀ R : Option V → Hp → Prop, (∀ H2, Same H' H2 → R (f z) H2) → Turn X G N sc scope k tg elt ifs vs σ (g z) H' R)
    (fin : ∀ L H', H L = none → Same H H' → H' L = some (.lst (zs.filterMap f)) → Q (.ref L) H') : LcT X G N sc scope k tg elt ifs vs σ (.ref a) H Q := by
  refine ⟨a, _, rfl, hq, fun L hL => ⟨fun i H' => Same H H' ∧ H' L = some (.lst ((zs.take i).filterMap f)), ⟨same_new hL, upd_same⟩, fun i H' _ h => h.1.tup hq, fun i x H' hx h => ?_, fun H' h => ?_⟩⟩
  · obtain ⟨z, hz, rfl⟩ := map_at hx
    exact turn z (List.mem_of_getElem? hz) H' h.1 (Done zs f H L i) (done hL hz hn h.1 h.2)
  · obtain ⟨h1, h2⟩ := h
    rw [List.length_map, List.take_length] at h2
    exact fin L H' hL h1 h2
theorem truL (d : Def X G N sc k) {p : Addr} {xs : List V} (h : SqL G.K H p xs) : TruV X.K (.ref p) H (!xs.isEmpty) := .inl ⟨xs, by rw [d.K]; exact h, rfl⟩
theorem truT (d : Def X G N sc k) {p : Addr} {xs : List V} (h : SqT G.K H p xs) : TruV X.K (.ref p) H (!xs.isEmpty) := .inr (.inl ⟨xs, by rw [d.K]; exact h, rfl⟩)
theorem truD (d : Def X G N sc k) {p : Addr} {kvs : List (Key × V)} (h : H p = some (.dK kvs)) : TruV X.K (.ref p) H (!kvs.isEmpty) := .inr (.inr ⟨kvs, h, rfl⟩)
end
end Wx

/-! Written data: displays of constants, lists and tuples. A frame says what is known of the heap beside what others hold. -/
namespace Wx
open PySem L2
/-- a frame that new objects may join -/
structure Frm (Fm : Hp → Hp → Prop) : Prop where
  laid : ∀ {H0 H : Hp} {p : Addr} {o : HO}, Fm H0 H → H p = none → Fm (upd H0 p o) (upd H p o)
  same : ∀ {H0 H : Hp}, Fm H0 H → Same H0 H
theorem frm_draw {d : Addr} {B : Nat} : Frm fun H0 H => DrawAt H0 H d B := ⟨fun A hp => A.laid hp, fun A => A.same⟩
theorem frm_same : Frm Same := ⟨fun {H0 H p o} s hp b u e => by
  by_cases hb : b = p
  · subst hb
    rw [upd_same] at e ⊢
    exact e
  · rw [upd_ne hb] at e ⊢
    exact s b u e, fun s => s⟩
mutual
/-- the data that a display of constants is -/
inductive Lit : Expr → PyData → Prop
  | non {j p} : Lit (.Constant .none j p) .none
  | bl {b j p} : Lit (.Constant (.bool b) j p) (.bool b)
  | int {i j p} : Lit (.Constant (.int i) j p) (.int i)
  | str {z j p} : Lit (.Constant (.str z) j p) (.str z)
  | tup {es ds a b} : Lits es ds → decide (es.length ≤ 1000) = true → Lit (.Tuple es a b) (.tuple ds)
  | lst {es ds a} : Lits es ds → decide (es.length ≤ 1000) = true → Lit (.List es a) (.list ds)
inductive Lits : List Expr → List PyData → Prop
  | nil : Lits [] []
  | cons {e d es ds} : Lit e d → Lits es ds → Lits (e :: es) (d :: ds)
end
theorem Lits.len : ∀ {es : List Expr} {ds : List PyData}, Lits es ds → ds.length = es.length
  | _, _, .nil => rfl
  | _, _, .cons _ h => congrArg Nat.succ h.len
theorem star_lit {e : Expr} {d : PyData} (h : Lit e d) : ns e = true := by cases h <;> rfl
variable {X : Cx} {σ : L2.St} {G : Gb} {N : List Str} {sc : Scope} {k : Nat} {Fm : Hp → Hp → Prop}
mutual
theorem we_lit (F : Frm Fm) : ∀ {e : Expr} {d : PyData} (_ : Lit e d) {H0 H : Hp} {Q : VK}, Fm H0 H → (∀ v H0' H', Same H0 H0' → Fm H0' H' → Dp G.K H0' v d → Q v H') → WE X e σ H Q
  | _, _, .non, _, _, _, f, q => we_non (q _ _ _ (Same.refl _) f .non)
  | _, _, .bl, _, _, _, f, q => we_bl (q _ _ _ (Same.refl _) f (.bl _))
  | _, _, .int, _, _, _, f, q => we_int (q _ _ _ (Same.refl _) f (.int _))
  | _, _, .str, _, _, _, f, q => we_str (q _ _ _ (Same.refl _) f (.str _))
  | _, _, .tup hs hl, H0, H, Q, f, q => by
    refine we_tup (wa_lit F hs f fun vs H1' H1 s1 f1 h1 => ⟨?_, fun p hp => ?_⟩)
    · rw [h1.len, hs.len]
      have := of_decide_eq_true hl
      exact len_le (by omega)
    · have n0 := (F.same f1).free hp
      exact q _ _ _ (s1.trans (same_new n0)) (F.laid f1 hp) (.tup (SqT.of upd_same) ((same_new n0).dpAll _ _ h1))
  | _, _, .lst hs hl, H0, H, Q, f, q => by
    refine we_lst (wa_lit F hs f fun vs H1' H1 s1 f1 h1 => ⟨?_, fun p hp => ?_⟩)
    · rw [h1.len, hs.len]
      have := of_decide_eq_true hl
      exact len_le (by omega)
    · have n0 := (F.same f1).free hp
      exact q _ _ _ (s1.trans (same_new n0)) (F.laid f1 hp) (.lst (SqL.of upd_same) ((same_new n0).dpAll _ _ h1))
theorem wa_lit (F : Frm Fm) : ∀ {es : List Expr} {ds : List PyData} (_ : Lits es ds) {H0 H : Hp} {Q : List V → Hp → Prop}, Fm H0 H → (∀ vs H0' H', Same H0 H0' → Fm H0' H' → DpAll G.K H0' vs ds → Q vs H') → WA X es σ H Q
  | _, _, .nil, _, _, _, f, q => wa_nil (q _ _ _ (Same.refl _) f .nil)
  | _, _, .cons h hs, H0, H, Q, f, q =>
    wa_cons (star_lit h) (we_lit F h f fun v H1' H1 s1 f1 d1 => wa_lit F hs f1 fun vs H2' H2 s2 f2 d2 => q _ _ _ (s1.trans s2) f2 (.cons (s2.dp _ _ d1) d2))
end
/-- a tracked object of the frame changes -/
theorem _root_.Wx.DrawAt.put {H0 H : Hp} {d p : Addr} {B : Nat} {o o' : HO} (h : DrawAt H0 H d B) (hp : H0 p = some o) : DrawAt (upd H0 p o') (upd H p o') d B := by
  obtain ⟨s, n, aw, ac, ws, cs, r, t, n1, n2, I⟩ := h
  have e1 : d ≠ p := fun q => by rw [q, hp] at n; cases n
  have e2 : aw ≠ p := fun q => by rw [q, hp] at n1; cases n1
  have e3 : ac ≠ p := fun q => by rw [q, hp] at n2; cases n2
  refine ⟨fun b u q => ?_, by rw [upd_ne e1]; exact n, aw, ac, ws, cs, r, t, by rw [upd_ne e2]; exact n1, by rw [upd_ne e3]; exact n2, ⟨by rw [upd_ne e1]; exact I.hd, by rw [upd_ne e2]; exact I.hw, by rw [upd_ne e3]; exact I.hc, I.t0, I.tB, I.cB, I.wl, I.ne⟩⟩
  by_cases e : b = p
  · subst e
    rw [upd_same] at q ⊢
    exact q
  · rw [upd_ne e] at q ⊢
    exact s b u q
theorem at_last {α : Type} {xs : List α} {x : α} (h : xs.getLast? = some x) : atI xs (-1) = some x := by
  obtain ⟨ys, rfl⟩ := List.getLast?_eq_some_iff.mp h
  exact atI_last ys x
theorem we_newD {Q : VK} {H : Hp} {pos : Pos} (h : ∀ p, H p = none → Q (.ref p) (upd H p (.dK []))) : WE X (.Dict [] [] pos) σ H Q := we_of pe_dnewK h
end Wx

namespace Wx
open PySem L2
variable {X : Cx} {σ : L2.St} {H : Hp} {Q : VK} {G : Gb} {N : List Str} {sc : Scope} {k : Nat} {e1 e2 : Expr}
/-- list(range(a, b)) -/
theorem we_listRg (d : Def X G N sc k) (b : Bi G.mg) {p rp rp2 pos : Pos} (hg : glB sc "list" = true) (hr : glB sc "range" = true) (h1 : ns e1 = true) (h2 : ns e2 = true)
    (h : WE X e1 σ H fun x H1 => WE X e2 σ H1 fun y H2 => ∃ i j : Int, x = .int i ∧ y = .int j ∧ RgOk i j ∧ ∀ q, H2 q = none → Q (.ref q) (upd H2 q (.lst (rgV i j)))) :
    WE X (.Call (.Name "list" p) [.Call (.Name "range" rp) [e1, e2] [] rp2] [] pos) σ H Q := by
  refine we_of (pe_listRg d.calm (d.gl hg) (by rw [d.mg]; exact b.b_list) (prg_2 (d.gl hr) (by rw [d.mg]; exact b.b_range) pe_we pe_we (star_ns h1) (star_ns h2) ?_)) h
  rw [star_ns h2]
  rfl
theorem ne_self {α : Type} [DecidableEq α] {x : α} : (!decide (x = x)) = false := by rw [decide_eq_true rfl]; rfl
theorem inV_noB (bs : List Bool) : inV (.bl false) (bs.map V.bl) = bs.any (!·) := by
  unfold inV
  rw [List.any_map]
  congr 1
  funext b
  cases b <;> rfl
end Wx

/-! Defs that keep their promise where no repr is under way. -/
namespace Wx
open PySem L2
section
variable {X : Cx} {e : Expr} {es : List Expr} {σ : L2.St} {H : Hp} {Q : VK} {pos p : Pos} {x : Str} {G : Gb} {N : List Str} {sc : Scope} {k : Nat} {W : WX}
structure FnG (P : Program) (w : World) (K : PySem.W.Frag) (mg : Str → Option Value) (base : Heap) (k : Nat) (f : Addr) (fd : FuncData) (ps : List Str) (sp : Sp) : Prop where
  len : ∀ vs H Q E, sp vs H Q E → vs.length = ps.length
  run : ∀ (A : Around) (outer : List Env) (s : Shared) (H : Hp) (args : Args) (us : List Value) (vs : List V) (Q : VK) (E : XK), Room k A → A.guards = some [] → Env0 P w K mg base A outer s H →
    BindsTo s fd args (ps.zip us) → Vals vs us → sp vs H Q E → codeAny (model P w) A (.call (.ref f) args) (CR (L2.CX P w) outer P w H s Q E) s
theorem FnG.of {P : Program} {w : World} {K : PySem.W.Frag} {mg : Str → Option Value} {base : Heap} {f : Addr} {fd : FuncData} {ps : List Str} {sp : Sp} (F : FnOk P w K mg base (L2.CX P w) k f fd ps sp) : FnG P w K mg base k f fd ps sp :=
  ⟨F.len, fun A outer s H args us vs Q E hr _ => F.run A outer s H args us vs Q E hr⟩
/-- such a def of the text at the module's name x -/
structure FnR (G : Gb) (x : Str) (n k : Nat) (sp : Sp) : Prop where
  is : ∃ (f : Addr) (fd : FuncData) (ps : List Str), G.mg x = some (.ref f) ∧ PySem.W.keepIn G.K (.ref f) = true ∧ FnG G.prog G.w G.K G.mg G.base k f fd ps sp ∧ Binds G.K fd ps [] ∧ ps.length = n ∧ ps = fd.params.args.map (·.arg) ∧ ∃ st, Fun G.K x x st f fd
/-- the callee's end, seen from the caller -/
theorem after_call {pins : List (Addr × Obj)} {s : Shared} {E : XK} {code : Code} (hx : PassesAt (L2.CX X.prog X.w) X σ E) (I : Inv X pins σ H s) (h : codeAny (model X.prog X.w) X.A code (CR (L2.CX X.prog X.w) X.stack X.prog X.w H s Q E) s) :
    codeAny (model X.prog X.w) X.A code (fun r s' => match r with | .ok (.ret u) => EP X pins σ Q u s' | .ok _ => False | .error e => X.xe e s') s := by
  refine codeAny_mono h fun r s' q => ?_
  rcases r with e | fl
  · exact hx pins H s e s' I q
  · cases fl <;> first | exact I.after q | exact q
theorem run_g {pins : List (Addr × Obj)} {s : Shared} {E : XK} {j : Nat} {f : Addr} {fd : FuncData} {ps : List Str} {sp : Sp} {us : List Value} {kw : List (Str × Value)} {vs : List V} {ws : List Value} (d : Def X G N sc k) (gd : X.A.guards = some []) (F : FnG G.prog G.w G.K G.mg G.base j f fd ps sp) (hj : j ≤ k)
    (hx : PassesAt (L2.CX X.prog X.w) X σ E) (I : Inv X pins σ H s) (hb : BindsTo s fd ⟨us, kw⟩ (ps.zip ws)) (r : Vals vs ws) (h : sp vs H Q E) :
    wpAny (model X.prog X.w) X.A (call (.ref f) us kw) (EP X pins σ Q) X.xe s := by
  have e0 := I.env0
  have z : codeAny (model X.prog X.w) X.A (.call (.ref f) ⟨us, kw⟩) (CR (L2.CX X.prog X.w) X.stack X.prog X.w H s Q E) s := by
    rw [d.prog, d.w] at e0 ⊢
    rw [d.K, d.mg, d.base] at e0
    exact F.run X.A X.stack s H ⟨us, kw⟩ ws vs Q E (d.room.mono hj) gd e0 hb r h
  refine wpAny_call (codeAny_mono (after_call hx I z) fun r s' q => ?_)
  rcases r with e | fl
  · exact q
  · cases fl <;> first | exact q | exact q.elim
theorem we_callRP {E : XK} (d : Def X G N sc k) (gd : X.A.guards = some []) {n j : Nat} {sp : Sp} (F : FnR G x n j sp) (hj : j ≤ k) (hg : glB sc x = true) (hx : PassesAt (L2.CX G.prog G.w) X σ E)
    (he : ns e = true) (hpl : nss es = true) (h : WA X (e :: es) σ H fun vs H1 => sp vs H1 Q E) (hdb : (x == ("__debug__" : Str)) = false := by decide +kernel) :
    WE X (.Call (.Name x p) (e :: es) [] pos) σ H Q := by
  obtain ⟨f, fd, ps, h1, h2, h3, h4, _⟩ := F.is
  rw [← d.prog, ← d.w] at hx
  intro pins s I
  refine wpAny_Call_Name_kw (ld_glob I (d.gl hg) (by rw [d.mg]; exact h1) ?_ hdb)
  refine PySem.W.callWith_K (h₀ := X.base) I.ok.mod.kin (by rw [d.K]; exact h2) (thn (h pos pins s I) fun us s1 ⟨vs, H1, I1, r, q⟩ => ⟨I1.kIn, ?_⟩) (star_ns he) (hpl_ns hpl)
  have hl : us.length = ps.length := by rw [← r.length]; exact h3.len _ _ _ _ q
  have hk : G.K.In s1.heap := by rw [← d.K]; exact I1.kIn
  have hb := h4 s1 us hk (by rw [List.append_nil]; exact hl)
  rw [List.append_nil] at hb
  exact run_g d gd h3 hj hx I1 hb r q
theorem we_callR (d : Def X G N sc k) (gd : X.A.guards = some []) {n j : Nat} {sp : Sp} (F : FnR G x n j sp) (hj : j ≤ k) (hg : glB sc x = true)
    (he : ns e = true) (hpl : nss es = true) (h : WA X (e :: es) σ H fun vs H1 => sp vs H1 Q E0) (hdb : (x == ("__debug__" : Str)) = false := by decide +kernel) :
    WE X (.Call (.Name x p) (e :: es) [] pos) σ H Q := we_callRP d gd F hj hg (fun pins H s e s' I q => (by rw [← d.prog, ← d.w] at q; exact passL pins σ H s e s' I q)) he hpl h hdb
end
/-- a def's promise by the body's wish at the parameters' values; no repr is under way; the def's own code and name besides -/
theorem fn_byG {G : Gb} {x qual : Str} {st : Stmt} {f : Addr} {fd : FuncData} {N ps : List Str} {k : Nat} {sp : Sp} (F : Fun G.K x qual st f fd) (S : FnScope N ps (defScope st)) (len : ∀ vs H Q E, sp vs H Q E → vs.length = ps.length)
    (body : ∀ (X : Cx) (vs : List V) (H : Hp) (Q : VK) (E : XK), Fr X G N (defScope st) k (fun c o _ H' => E c o H') → X.A.guards = some [] → X.env.qual = qual ++ ".<locals>." → X.env.code = fd.code → sp vs H Q E → WB X (defBody st) { nx := fun _ H' => Q .non H', rt := Q } (start N vs) H) :
    FnG G.prog G.w G.K G.mg G.base (k + 1) f fd ps sp := by
  obtain ⟨oc, od, kV, doc, pm, an, cdv, ct, osl, rfl, lk, hcd⟩ := F.ex
  refine ⟨len, fun A outer s H args us vs Q E hr hgd he hb r h => ?_⟩
  refine LamX.run_ofS lk hcd S hr he hb r (len _ _ _ _ h) fun hr2 => ⟨_, pss_wb, body _ vs H Q E ?_ hgd rfl rfl h⟩
  exact { prog := rfl, w := rfl, K := rfl, mg := rfl, base := rfl, n := rfl, sc := rfl, nd := S.nd, calm := rfl, room := hr2, fn := fun _ => rfl, own := passes_of rfl, tk := takes_of rfl rfl rfl rfl, stk := rfl, frm := rfl, ex := rfl }
/-- .. and where a repr may be under way -/
theorem fn_byQ {G : Gb} {x qual : Str} {st : Stmt} {f : Addr} {fd : FuncData} {N ps : List Str} {k : Nat} {sp : Sp} (F : Fun G.K x qual st f fd) (S : FnScope N ps (defScope st)) (len : ∀ vs H Q E, sp vs H Q E → vs.length = ps.length)
    (body : ∀ (X : Cx) (vs : List V) (H : Hp) (Q : VK) (E : XK), Fr X G N (defScope st) k (fun c o _ H' => E c o H') → X.env.qual = qual ++ ".<locals>." → X.env.code = fd.code → sp vs H Q E → WB X (defBody st) { nx := fun _ H' => Q .non H', rt := Q } (start N vs) H) :
    FnOk G.prog G.w G.K G.mg G.base (L2.CX G.prog G.w) (k + 1) f fd ps sp := by
  obtain ⟨oc, od, kV, doc, pm, an, cdv, ct, osl, rfl, lk, hcd⟩ := F.ex
  refine ⟨len, fun A outer s H args us vs Q E hr he hb r h => ?_⟩
  refine LamX.run_ofS lk hcd S hr he hb r (len _ _ _ _ h) fun hr2 => ⟨_, pss_wb, body _ vs H Q E ?_ rfl rfl h⟩
  exact { prog := rfl, w := rfl, K := rfl, mg := rfl, base := rfl, n := rfl, sc := rfl, nd := S.nd, calm := rfl, room := hr2, fn := fun _ => rfl, own := passes_of rfl, tk := takes_of rfl rfl rfl rfl, stk := rfl, frm := rfl, ex := rfl }
theorem Top.fnR {G : Gb} {x : Str} {st : Stmt} {N ps : List Str} {k : Nat} {sp : Sp} (T : Top G x st ps) (S : FnScope N ps (defScope st)) (len : ∀ vs H Q E, sp vs H Q E → vs.length = ps.length)
    (body : ∀ (X : Cx) (vs : List V) (H : Hp) (Q : VK) (E : XK), Fr X G N (defScope st) k (fun c o _ H' => E c o H') → X.A.guards = some [] → sp vs H Q E → WB X (defBody st) { nx := fun _ H' => Q .non H', rt := Q } (start N vs) H) :
    FnR G x ps.length (k + 1) sp := by
  obtain ⟨f, fd, h, F, b⟩ := T.is
  exact ⟨f, fd, ps, h, F.kp, fn_byG F S len fun X vs H Q E d g _ _ q => body X vs H Q E d g q, b, rfl, T.names F, _, F⟩
/-- a def whose code object is known to stand at c -/
theorem Top.fnQ {G : Gb} {x : Str} {st : Stmt} {N ps : List Str} {k : Nat} {sp : Sp} {c : Addr} (T : Top G x st ps) (hc : ∀ (f : Addr) (fd : FuncData), G.mg x = some (.ref f) → Fun G.K x x st f fd → fd.code = .ref c) (S : FnScope N ps (defScope st)) (len : ∀ vs H Q E, sp vs H Q E → vs.length = ps.length)
    (body : ∀ (X : Cx) (vs : List V) (H : Hp) (Q : VK) (E : XK), Fr X G N (defScope st) k (fun c o _ H' => E c o H') → X.env.qual = x ++ ".<locals>." → X.env.code = .ref c → sp vs H Q E → WB X (defBody st) { nx := fun _ H' => Q .non H', rt := Q } (start N vs) H) :
    Fn G x ps.length (k + 1) sp := by
  obtain ⟨f, fd, h, F, b⟩ := T.is
  exact ⟨f, fd, ps, h, F.kp, fn_byQ F S len fun X vs H Q E d g1 g2 q => body X vs H Q E d g1 (by rw [g2]; exact hc f fd h F) q, b, rfl, T.names F, _, F⟩
end Wx

/-! The end of a law: its promise at the heap behind the top, no repr under way, the code tables of the defs that make lambdas told. -/
namespace Wx
open PySem PySem.Spec PyProof.Rows L2 LamX
/-- what is told first: the tables' places, the script unless it is the text's own -/
def firstH (Ts : List Addr) (a : Addr) (so : Option HO) : Hp := fun b => if b ∈ Ts then some (.tbl #[]) else if b = a then so else none
theorem firstH_tab {Ts : List Addr} {a : Addr} {so : Option HO} {b : Addr} (h : b ∈ Ts) : firstH Ts a so b = some (.tbl #[]) := by
  unfold firstH
  exact if_pos h
theorem firstH_at {Ts : List Addr} {a : Addr} {so : Option HO} (h : a ∉ Ts) : firstH Ts a so a = so := by
  unfold firstH
  rw [if_neg h, if_pos rfl]
theorem firstH_off {Ts : List Addr} {a b : Addr} {so : Option HO} (h : b ∉ Ts) (n : b ≠ a) : firstH Ts a so b = none := by
  unfold firstH
  rw [if_neg h, if_neg n]
theorem firstH_some {Ts : List Addr} {a b : Addr} {so : Option HO} {u : HO} (e : firstH Ts a so b = some u) : (b ∈ Ts ∧ u = .tbl #[]) ∨ (b ∉ Ts ∧ b = a ∧ so = some u) := by
  unfold firstH at e
  by_cases h : b ∈ Ts
  · rw [if_pos h] at e
    exact .inl ⟨h, (Option.some.inj e).symm⟩
  · rw [if_neg h] at e
    by_cases n : b = a
    · rw [if_pos n] at e
      exact .inr ⟨h, n, e⟩
    · rw [if_neg n] at e
      cases e
section
variable {P : Program} {w : World} {K : PySem.W.Frag} {mg mb : Str → Option Value} {k : Nat} {fa a : Addr} {cs : List (Addr × Addr)} {fd : FuncData} {x : Str} {sp : Sp} {s₁ : Shared} {vs : List Value} {ns : List Int}
/-- the script's list object -/
abbrev scriptObj (vs : List Value) : Obj := { cls := .type "list", data := .seq vs.toArray }
abbrev emptyTab : Obj := { cls := .none, data := .fields #[] }
theorem law_run (KX : K.In s₁.heap) (hns : s₁.heap.Ns mainGlobals mg) (hb : s₁.heap.Ns builtinsNs mb) (hbb : ∀ y : Str, y ≠ "__name__" → mb y = bootBuiltins y) (hlim : s₁.heap.NoLimit) (hg : s₁.gens = #[])
    (hT : ∀ p ∈ cs, s₁.heap.get? p.2 = some emptyTab) (nT : ∀ p ∈ cs, K.lookup p.2 = none) (C : ∀ p ∈ cs, PySem.W.CodeHd s₁.heap p.1 p.2)
    (hbm : ∃ (bm : Addr) (ob : Obj), mg "__builtins__" = some (.ref bm) ∧ bm ≠ builtinsNs ∧ s₁.heap.get? bm = some ob ∧ ob.cls = .type "module" ∧ ob.dict = some builtinsNs ∧ ob.data = .plain)
    (ha : s₁.heap.get? a = some (scriptObj vs)) (hi : IntsAre vs ns) (hl : ns.length ≤ sizeLine) (hr : Room k callerA)
    (F : ∀ base : Heap, K.In base → base.Ns mainGlobals mg → (∀ p ∈ cs, TabB base mg p.1 p.2) → FnG P w K mg base k fa fd [x] sp) (hbind : ∀ (s : Shared) (u : Value), BindsTo s fd ⟨[u], []⟩ [(x, u)])
    (hsp : ∀ H : Hp, (∀ p ∈ cs, H p.2 = some (.tbl #[])) → SqL K H a (ns.map V.int) → sp [.ref a] H (fun v _ => v = .bl true) fun _ _ _ => False)
    (hCX : ∀ H e s', L2.CX P w [] H s₁ (fun _ _ _ => False) e s' → False) :
    codeAny (model P w) callerA (.call (.ref fa) ⟨[.ref a], []⟩) (fun r s' => r = .ok (.ret (.bool true)) ∧ OldK s₁.heap s'.heap ∧ s'.os = s₁.os ∧ AllBare s'.gens) s₁ := by
  have rv := vals_ints hi
  have isT : ∀ b : Addr, b ∈ cs.map (·.2) → s₁.heap.get? b = some emptyTab := fun b hb => by
    obtain ⟨p, hp, rfl⟩ := List.mem_map.mp hb
    exact hT p hp
  have inT : ∀ p ∈ cs, p.2 ∈ cs.map (·.2) := fun p hp => List.mem_map.mpr ⟨p, hp, rfl⟩
  have aT : a ∉ cs.map (·.2) := fun z => by
    have q := (isT a z).symm.trans ha
    have q := congrArg (fun o : Option Obj => o.map (·.cls)) q
    cases q
  -- the script, told or the text's own
  obtain ⟨so, hso⟩ : ∃ so : Option HO, (so = none ∧ ∃ o, K.lookup a = some o) ∨ (so = some (.frz (scriptObj vs) (.lst (ns.map V.int))) ∧ K.lookup a = none) := by
    cases q : K.lookup a with
    | some o => exact ⟨none, .inl ⟨rfl, o, rfl⟩⟩
    | none => exact ⟨_, .inr ⟨rfl, rfl⟩⟩
  have hsoK : so ≠ none → K.lookup a = none := fun n => by
    rcases hso with ⟨e, _⟩ | ⟨_, e⟩
    · exact absurd e n
    · exact e
  have hsoV : ∀ u, so = some u → u = .frz (scriptObj vs) (.lst (ns.map V.int)) := fun u e => by
    rcases hso with ⟨e2, _⟩ | ⟨e2, _⟩
    · rw [e2] at e; cases e
    · rw [e2] at e; exact (Option.some.inj e).symm
  have hH : ∀ p ∈ cs, firstH (cs.map (·.2)) a so p.2 = some (.tbl #[]) := fun p hp => firstH_tab (inT p hp)
  have hS : SqL K (firstH (cs.map (·.2)) a so) a (ns.map V.int) := by
    rcases hso with ⟨e, o, q⟩ | ⟨e, _⟩
    · have e2 := KX a o q
      rw [ha] at e2
      cases e2
      exact .inr ⟨_, vs.toArray, _, q, rfl, rfl, rfl, by rw [List.size_toArray, hi.length]; exact hl, by simpa using rv⟩
    · exact .inl (.inr ⟨scriptObj vs, by rw [firstH_at aT]; exact e⟩)
  have hok : HOk P w (firstH (cs.map (·.2)) a so) s₁.heap := fun b u e => by
    rcases firstH_some e with ⟨m, rfl⟩ | ⟨_, rfl, e2⟩
    · exact isT b m
    · rw [hsoV u e2]
      exact ⟨ha, by rw [List.length_map]; exact hl, vs, _, rv, ha⟩
  -- what is no list and no table is not told
  have free : ∀ {b : Addr} {o : Obj}, s₁.heap.get? b = some o → o ≠ emptyTab → o ≠ scriptObj vs → firstH (cs.map (·.2)) a so b = none := fun {b o} e n1 n2 => by
    cases q : firstH (cs.map (·.2)) a so b with
    | none => rfl
    | some u =>
      rcases firstH_some q with ⟨m, _⟩ | ⟨_, rfl, _⟩
      · exact absurd (Option.some.inj (e.symm.trans (isT b m))) n1
      · exact absurd (Option.some.inj (e.symm.trans ha)) n2
  have up : ∀ {b : Addr} {o : Obj}, s₁.heap.get? b = some o → o ≠ emptyTab → o ≠ scriptObj vs → (hidT s₁.heap (firstH (cs.map (·.2)) a so)).get? b = some o := fun e n1 n2 => hidT_get e (free e n1 n2)
  have upNs : ∀ {b : Addr} {m : Str → Option Value}, s₁.heap.Ns b m → (hidT s₁.heap (firstH (cs.map (·.2)) a so)).Ns b m := fun {b m} ⟨o, es, ep, e, d, r⟩ =>
    ⟨o, es, ep, up e (fun z => by rw [z] at d; cases d) (fun z => by rw [z] at d; cases d), d, r⟩
  have KB : K.In (hidT s₁.heap (firstH (cs.map (·.2)) a so)) := fun b o e => by
    refine hidT_get (KX b o e) ?_
    cases q : firstH (cs.map (·.2)) a so b with
    | none => rfl
    | some u =>
      rcases firstH_some q with ⟨m, _⟩ | ⟨_, rfl, e2⟩
      · obtain ⟨p, hp, rfl⟩ := List.mem_map.mp m
        rw [nT p hp] at e
        cases e
      · rw [hsoK (by rw [e2]; simp)] at e
        cases e
  have MB : L2.Mod K mg (hidT s₁.heap (firstH (cs.map (·.2)) a so)) := ⟨KB, upNs hns, ⟨mb, upNs hb, hbb⟩, (hlim : ∃ _, _).elim fun mc h => ⟨mc, upNs h.1, h.2⟩⟩
  have TB : ∀ p ∈ cs, TabB (hidT s₁.heap (firstH (cs.map (·.2)) a so)) mg p.1 p.2 := fun p hp => by
    refine ⟨?_, ?_, fun z => ?_⟩
    · obtain ⟨o, us, file, tf, flags, tg, inF, text, tt, e1, r1, r2, rest⟩ := C p hp
      exact ⟨o, us, file, tf, flags, tg, inF, text, tt, up e1 (fun z => by rw [z] at r1; cases r1) (fun z => by rw [z] at r2; cases r2), r1, r2, rest⟩
    · obtain ⟨bm, ob, b1, b2, b3, b4, b5, b6⟩ := hbm
      refine ⟨bm, ob, b1, b2, fun q => ?_, fun q => ?_, up b3 (fun z => by rw [z] at b4; cases b4) (fun z => by rw [z] at b6; cases b6), b4, b5, b6⟩
      · obtain ⟨o, es, ep, e, hd, _⟩ := hns
        rw [← q, b3] at e
        cases e
        rw [hd] at b6
        cases b6
      · rw [q, hT p hp] at b3
        cases b3
        cases b6
    · obtain ⟨o, es, ep, e, hd, _⟩ := hns
      rw [z, hT p hp] at e
      cases e
      cases hd
  have e0 : Env0 P w K mg (hidT s₁.heap (firstH (cs.map (·.2)) a so)) callerA [] s₁ (firstH (cs.map (·.2)) a so) :=
    ⟨rfl, MB, fun b o e => of_hidT e, Nat.le_of_eq (hidT_size _ _), trivial, fun b hb => absurd (show b ∈ ([] : List Addr) from hb) (by simp), hok, .of_eq hg⟩
  refine codeAny_mono ((F _ KB (upNs hns) TB).run callerA [] s₁ _ ⟨[.ref a], []⟩ [.ref a] [.ref a] _ _ hr rfl e0 (hbind s₁ (.ref a)) (.cons rfl .nil) (hsp _ hH hS)) fun r s' h => ?_
  rcases r with e | fl
  · exact (hCX _ e s' h).elim
  cases fl with
  | next => exact h.elim
  | brk => exact h.elim
  | cont => exact h.elim
  | ret u =>
    obtain ⟨v, H', os, bare, un, hok', r', q⟩ := h
    cases (show v = .bl true from q)
    cases (show u = Value.bool true from r')
    have same : ∀ b o, b ∉ cs.map (·.2) → s₁.heap.get? b = some o → s'.heap.get? b = some o := fun b o nb e => by
      cases q : firstH (cs.map (·.2)) a so b with
      | none => exact un.keep b o e q (fun z => absurd (show b ∈ ([] : List Addr) from z) (by simp)) (by simp)
      | some u =>
        rcases firstH_some q with ⟨m, _⟩ | ⟨_, _, e2⟩
        · exact absurd m nb
        · rw [hsoV u e2] at q
          have z2 := (hok' b _ (un.frzs b _ _ q)).1
          have z1 := (hok b _ q).1
          rw [e] at z1
          cases z1
          exact z2
    have more : ∀ p ∈ cs, ∃ m : Array Value, s'.heap.get? p.2 = some { cls := .none, data := .fields m } := fun p hp => by
      obtain ⟨m, z⟩ := un.tbls p.2 #[] (hH p hp)
      exact ⟨_, hok' p.2 _ z⟩
    refine ⟨rfl, ⟨fun b o e => ?_, fun b o e => ?_⟩, os, bare⟩
    · by_cases hb : b ∈ cs.map (·.2)
      · obtain ⟨p, hp, rfl⟩ := List.mem_map.mp hb
        obtain ⟨m, hm⟩ := more p hp
        rw [hT p hp] at e
        cases e
        exact .inr (.inl ⟨((C p hp).tab (hT p hp)).isCodeTable, rfl, #[], m, rfl, by rw [Array.empty_append]; exact hm⟩)
      · exact .inl (same b o hb e)
    · by_cases hb : b ∈ cs.map (·.2)
      · obtain ⟨p, hp, rfl⟩ := List.mem_map.mp hb
        obtain ⟨m, hm⟩ := more p hp
        exact ⟨_, hm⟩
      · exact ⟨o, same b o hb e⟩
end
end Wx

/-! Lambdas without parameters, handed to a def that calls them within a try and hands back what was caught. -/
namespace Wx
open PySem L2 LamX
/-- what the text's top has left of the code of a def that makes lambdas: its code object at c, the table at P -/
structure LamAt (K : PySem.W.Frag) (x : Str) (c P : Addr) : Prop where
  is : ∃ (f : Addr) (o : Obj) (fd : FuncData) (e : Value) (dd : Option Addr) (vs : Array Value) (sl : Array (Option Value)), PySem.W.nsIn K mainGlobals x = some (some (.ref f)) ∧ K.lookup f = some o ∧ o.data = .func fd ∧ fd.code = .ref c ∧ K.lookup c = some ⟨e, dd, .fields vs, sl⟩ ∧ vs[11]? = some (.ref P)
  hd : PySem.W.codeHdIn K c P = true
  nP : K.lookup P = none
theorem lamAt_mk {K : PySem.W.Frag} {x : Str} {f c P : Addr} {o : Obj} {fd : FuncData} {e : Value} {dd : Option Addr} {vs : Array Value} {sl : Array (Option Value)} (h1 : PySem.W.nsIn K mainGlobals x = some (some (.ref f))) (h2 : K.lookup f = some o) (h3 : o.data = .func fd) (h4 : fd.code = .ref c)
    (h5 : K.lookup c = some ⟨e, dd, .fields vs, sl⟩) (h6 : vs[11]? = some (.ref P)) (h7 : PySem.W.codeHdIn K c P = true) (h8 : K.lookup P = none) : LamAt K x c P := ⟨⟨f, o, fd, e, dd, vs, sl, h1, h2, h3, h4, h5, h6⟩, h7, h8⟩
theorem LamAt.tab {K : PySem.W.Frag} {x : Str} {c P : Addr} {q : Program} {loose : List Str} {mean : ExcName → Option Value} {mg mb : Str → Option Value} {h : Heap} (L : LamAt K x c P) (X : K.In h) (T : PyProof.Rows.Top q loose mean mg mb h)
    (hrec : ((PyProof.Rows.recsOf q).any fun e => e.name == x) = true) : h.get? P = some emptyTab := by
  obtain ⟨⟨f, o, fd, e, dd, vs, sl, h1, h2, h3, h4, h5, h6⟩, _, _⟩ := L
  obtain ⟨dL, hm, hn⟩ := List.any_eq_true.mp hrec
  obtain ⟨f', o', fd', c', P', a1, a2, a3, a4, a5, a6⟩ := T.tab dL hm
  rw [beq_iff_eq.mp hn, PySem.W.mg_of X T.g h1] at a1
  cases a1
  rw [X _ _ h2] at a2
  cases a2
  rw [h3] at a3
  cases a3
  rw [h4] at a4
  cases a4
  obtain ⟨⟨oc, vc, e1, _, e3, e4⟩, hP⟩ := a6
  rw [X _ _ h5] at e1
  cases e1
  cases e3
  rw [h6] at e4
  cases e4
  exact hP
/-- the code of the def that stands at x -/
theorem LamAt.code {G : Gb} {x : Str} {c P : Addr} {st : Stmt} {f : Addr} {fd : FuncData} {h : Heap} (L : LamAt G.K x c P) (X : G.K.In h) (M : h.Ns mainGlobals G.mg) (hf : G.mg x = some (.ref f)) (F : Fun G.K x x st f fd) : fd.code = .ref c := by
  obtain ⟨⟨f', o, fd', e, dd, vs, sl, h1, h2, h3, h4, h5, h6⟩, _, _⟩ := L
  rw [PySem.W.mg_of X M h1] at hf
  cases hf
  obtain ⟨_, _, _, _, _, _, _, _, _, _, l, _⟩ := F.ex
  rw [h2] at l
  cases l
  cases h3
  exact h4
/-- the def that calls what it got within a try: what was caught, or None -/
def tCaught (K : PySem.W.Frag) (S : Addr) (tl : XK → Hp → VK → Prop) (H : Hp) (Q : VK) : Prop :=
  tl (fun cls d H' => PySem.W.exmOne K cls (.ref S) = some true ∧ ∀ a, H' a = none → Q (.ref a) (upd H' a (ExV a cls d))) H fun _ H' => Q .non H'
variable {X : Cx} {G : Gb} {N : List Str} {sc scope : Scope} {k : Nat} {σ : L2.St} {H : Hp} {Q : VK}
theorem cellB_of {x : Str} (h : locB sc x = true) : cellB sc x = true := by
  unfold cellB
  rw [loc_of h]
theorem visB_of {x : Str} (h : locB sc x = true) : visB sc x = true := by
  unfold visB
  rw [loc_of h]
/-- the slots are as many as the names -/
theorem wb_len {sts : List Stmt} {D : Ends} (d : Def X G N sc k) (h : σ.length = N.length → WB X sts D σ H) : WB X sts D σ H := fun pins s I => h (by rw [I.len, d.n]) pins s I
theorem caught_gives {Ng : List Str} {x q a y e n : Str} {sg : Scope} {g S : Addr} {cdg : Value} {yp yp2 np2 np p1 p2 p3 p5 p6 p7 p8 pa ap pc : Pos} {j0} (d : Def X G N sc (k + 1)) (nd : Ng.Nodup) (hN : Ng = [a, y, n]) (ha : cellB sg a = true) (hy : locB sg y = true) (hn : locB sg n = true) (he : glB sg e = true)
    (gS : G.mg e = some (.ref S)) (hdb : (e == ("__debug__" : Str)) = false := by decide +kernel) (hn1 : (n == ("__debug__" : Str)) = false := by decide +kernel) (hn2 : (n == ("__classdict__" : Str)) = false := by decide +kernel) (hy1 : (y == ("__debug__" : Str)) = false := by decide +kernel) (hy2 : (y == ("__classdict__" : Str)) = false := by decide +kernel) :
    GivesTo X Ng x sg g cdg [.Assign [.Name y yp] (.Constant .none j0 pc) pa, .Try [.Expr (.Call (.Name a p1) [] [] p2) p3] [.ExceptHandler (some (.Name e np)) (some n) [.Assign [.Name y yp2] (.Name n np2) ap] p5] [] [] p6, .Return (some (.Name y p7)) p8] a q (tCaught G.K S) := by
  intro f c' s H Q tl act hc h
  subst hN
  refine ⟨_, pss_wb, ?_⟩
  have fr : Fr (cxOf C8.CX0 X.prog X.w X.K X.mg X.base [a, y, n] x sg g cdg X.A X.stack s H C8.E0).nox G [a, y, n] sg k (fun _ _ _ _ => False) :=
    { prog := d.prog, w := d.w, K := d.K, mg := d.mg, base := d.base, n := rfl, sc := rfl, nd := nd, calm := rfl, room := d.room.deeper _, fn := fun _ => rfl, own := PassesOwn.never, tk := L2.takes0, stk := rfl, frm := rfl, ex := rfl }
  show WB _ _ _ [some (.ref f), none, none] H
  refine wb_cons ?_
  refine ws_s1 fr (cellB_of hy) (by with_unfolding_all rfl) ?_
  refine we_non ?_
  refine wb_cons ?_
  refine ws_tryVt fr 2 1 rfl rfl (loc_of hn) (.inl (loc_of hy)) he gS (fun pn xe fr2 => ?_) hdb hn1 hn2
  refine wb_one (ws_expr rfl ?_)
  refine we_mono (fun _ H1 q => ?_) (we_of (act _ pn xe _ p1 p2 fr2.tk (fun cls d σ' H' q => ⟨q.1, fun b hb => ?_⟩)) (Q := fun _ H' => Q .non H') ⟨rfl, hc, h⟩)
  · refine wb_one (ws_ret ?_)
    exact we_n1 fr.toDef (visB_of hy) q hy1 hy2
  · refine wb_len fr.toDef fun hl => ?_
    rw [List.length_set, List.length_set, List.length_set] at hl
    match σ', hl with
    | [s0, s1, s2], _ =>
      refine wb_one (ws_ret ?_)
      exact we_n1 fr.toDef (visB_of hy) (q.2 b hb) hy1 hy2
/-- x(lambda: body), x such a def: what the body gives goes by, what it raises is caught -/
theorem we_lam {T : List (Addr × Str)} {x a y e n q : Str} {st : Stmt} {Ng : List Str} {c P S : Addr} {params : Arguments} {body : Expr} {p lpos pos yp yp2 np2 np p1 p2 p3 p5 p6 p7 p8 pa ap pc : Pos} {j0} (d : Def X G N sc (k + 3)) (TC : Top G x st [a]) (Sg : FnScope Ng [a] (defScope st)) (hN : Ng = [a, y, n])
    (hbody : defBody st = [.Assign [.Name y yp] (.Constant .none j0 pc) pa, .Try [.Expr (.Call (.Name a p1) [] [] p2) p3] [.ExceptHandler (some (.Name e np)) (some n) [.Assign [.Name y yp2] (.Name n np2) ap] p5] [] [] p6, .Return (some (.Name y p7)) p8])
    (ha : cellB (defScope st) a = true) (hy : locB (defScope st) y = true) (hn : locB (defScope st) n = true) (he : glB (defScope st) e = true) (gS : G.mg e = some (.ref S))
    (hg : glB sc x = true) (hq : X.env.qual = q) (hcode : X.env.code = .ref c) (TB : TabB G.base G.mg c P) (hmT : (P, q ++ "<lambda>") ∈ T) (hu : ∀ z ∈ T, z.1 = P → z.2 = q ++ "<lambda>") (L : lamSB sc scope = true) (hdef : defaultsOf params X.env = ([], []))
    (hbind : ∀ (q : Str) (cl : List (Str × Addr)) (pm cv ctv : Value), bindArgs (PySem.W.kla_fn "<lambda>" q params body scope cl pm cv ctv) ⟨[], []⟩ = pure [])
    (hT : Tabs T H) (h : ∀ H1, ExtN H H1 → Tabs T H1 → ∀ (X' : Cx) (E : XK), Def X' G N scope k → Passes (L2.CX G.prog G.w) X' E → E = (fun cls d H' => PySem.W.exmOne G.K cls (.ref S) = some true ∧ ∀ a, H' a = none → Q (.ref a) (upd H' a (ExV a cls d))) → WE X' body σ H1 fun _ H' => Q .non H')
    (hxd : (x == ("__debug__" : Str)) = false := by decide +kernel) (had : (a == ("__debug__" : Str)) = false := by decide +kernel) (hac : (a == ("__classdict__" : Str)) = false := by decide +kernel)
    (hdb : (e == ("__debug__" : Str)) = false := by decide +kernel) (hn1 : (n == ("__debug__" : Str)) = false := by decide +kernel) (hn2 : (n == ("__classdict__" : Str)) = false := by decide +kernel) (hy1 : (y == ("__debug__" : Str)) = false := by decide +kernel) (hy2 : (y == ("__classdict__" : Str)) = false := by decide +kernel) :
    WE X (.Call (.Name x p) [.Lambda params body scope lpos] [] pos) σ H Q := by
  obtain ⟨g, fd, hm, F, hb⟩ := TC.is
  have hk := F.kp
  obtain ⟨oc, od, kV, doc, pm, an, cdv, ct, osl, rfl, lk, hcd⟩ := F.ex
  subst hq
  refine we_of (pe_lamcall (T := T) (TT := tCaught G.K S) (k := k) (t := fun E σ H Q => ∀ (X' : Cx), Def X' G N scope k → Passes (L2.CX G.prog G.w) X' E → WE X' body σ H Q) (d.gl hg) (by rw [d.mg]; exact hm) (by rw [d.K]; exact hk) (by rw [d.K]; exact lk) (by rw [d.K]; exact hcd) (by rw [d.K]; exact hb) Sg (by rw [hN]; rfl) (vis_of ?_)
    ?_ (by rw [d.base, d.mg]; exact TB) hcode hmT hu (d.room.mono (by omega)) (lamS_by (by rw [d.sc]; exact L)) hdef hbind (fun A outer s H E f c' hr => ?_) hxd had hac) ⟨hT, fun H1 eN T1 X' d' hp => ?_⟩
  · unfold visB
    unfold cellB at ha
    split at ha <;> first | (rename_i z; rw [z]) | cases ha
  · rw [hbody]
    have d1 : Def X G N sc (k + 1) := ⟨d.prog, d.w, d.K, d.mg, d.base, d.n, d.sc, d.nd, d.calm, d.room.mono (by omega)⟩
    exact caught_gives d1 Sg.nd hN ha hy hn he gS hdb hn1 hn2 hy1 hy2
  · refine ⟨fun pins s' σ H' Q' I q => q (lamCx X A outer s H E scope f c') ⟨d.prog, d.w, d.K, d.mg, d.base, d.n, rfl, d.nd, rfl, hr⟩ ?_ pins s' I⟩
    rw [← d.prog, ← d.w]
    exact passes_call (takes_of rfl rfl rfl rfl) fun _ _ _ _ z => z
  · exact h H1 eN T1 X' _ d' hp rfl
end Wx

/-! Texts, by their signs; repr; further rules by values. -/
namespace Wx
open PySem L2
/-- the text of these signs -/
def tx (l : List Nat) : Str := ⟨l.toArray⟩
@[simp] theorem tx_list (l : List Nat) : (tx l).cps.toList = l := by unfold tx; simp
@[simp] theorem tx_len (l : List Nat) : (tx l).length = l.length := by
  show (tx l).cps.size = _
  unfold tx
  simp
theorem tx_of (z : Str) : tx z.cps.toList = z := by
  obtain ⟨a⟩ := z
  unfold tx
  simp
theorem tx_inj {a b : List Nat} : tx a = tx b ↔ a = b := ⟨fun h => by rw [← tx_list a, h, tx_list], fun h => by rw [h]⟩
theorem tx_one {c : Nat} : (⟨#[c]⟩ : Str) = tx [c] := rfl
theorem tx_app (a b : List Nat) : tx a ++ tx b = tx (a ++ b) := by
  rw [← tx_of (tx a ++ tx b)]
  congr 1
  show ((tx a).cps ++ (tx b).cps).toList = _
  rw [Array.toList_append, tx_list, tx_list]
section
variable {X : Cx} {e e1 e2 : Expr} {es : List Expr} {σ : L2.St} {H : Hp} {Q : VK} {D : Ends} {pos p p2 : Pos} {x y v : V} {G : Gb} {N : List Str} {sc scope : Scope} {k : Nat} {W : WX} {i j : Int}
/-! ### operators -/
def leL (a b : List Nat) : Bool := !decide (b < a)
theorem ro_leZ {z w : Str} (q : Q (.bl (leL z.cps.toList w.cps.toList)) H) : RO X (compareOp .LtE) (.str z) (.str w) H Q := ⟨_, op_le_str, _, _, rfl, rfl, q⟩
theorem leL_one {a c : Nat} : leL [a] [c] = decide (a ≤ c) := by
  unfold leL
  rw [← decide_not, decide_eq_decide]
  constructor
  · intro h
    apply Nat.le_of_not_lt
    intro z
    exact h (List.Lex.rel z)
  · intro h z
    cases z with
    | rel z => omega
    | cons z => cases z
theorem leL_nil {a : Nat} : leL [a] [] = false := by
  unfold leL
  have h : ([] : List Nat) < [a] := List.Lex.nil
  rw [decide_eq_true h]
  rfl
theorem ro_leS {a b : List Nat} (q : Q (.bl (leL a b)) H) : RO X (compareOp .LtE) (.str (tx a)) (.str (tx b)) H Q := ⟨_, op_le_str, _, _, rfl, rfl, by rw [tx_list, tx_list]; exact q⟩
theorem ro_eqT {a b : List Nat} (q : Q (.bl (decide (a = b))) H) : RO X (compareOp .Eq) (.str (tx a)) (.str (tx b)) H Q := ro_eqS (by rw [decide_eq_decide.mpr tx_inj]; exact q)
theorem ro_neT {a b : List Nat} (q : Q (.bl (!decide (a = b))) H) : RO X (compareOp .NotEq) (.str (tx a)) (.str (tx b)) H Q := ro_neS (by rw [decide_eq_decide.mpr tx_inj]; exact q)
theorem ro_addT {a b : List Nat} (h : a.length + b.length ≤ sizeLine) (q : Q (.str (tx (a ++ b))) H) : RO X (binaryOp .Add) (.str (tx a)) (.str (tx b)) H Q := ro_adds (by rw [tx_len, tx_len]; exact h) (by rw [tx_app]; exact q)
theorem ro_notInSign {c : Nat} {l : List Nat} (q : Q (.bl (!decide (c ∈ l))) H) : RO X (compareOp .NotIn) (.str (tx [c])) (.str (tx l)) H Q := ⟨_, op_notIn_sign, c, tx l, rfl, rfl, by rw [tx_list]; exact q⟩
theorem ro_isB {a b : Bool} (q : Q (.bl (decide (a = b))) H) : RO X (compareOp .Is) (.bl a) (.bl b) H Q := ⟨_, op_is_bl, a, b, rfl, rfl, q⟩
theorem ro_isnotB {a b : Bool} (q : Q (.bl (!decide (a = b))) H) : RO X (compareOp .IsNot) (.bl a) (.bl b) H Q := ⟨_, op_isnot_bl, a, b, rfl, rfl, q⟩
theorem ro_rep {l : Addr} {xs : List V} (h : H l = some (.lst xs)) (h0 : -(2 ^ 63) ≤ i) (h1 : i < 2 ^ 63) (hl : xs.length * i.toNat ≤ sizeLine) (q : ∀ p, H p = none → Q (.ref p) (upd H p (.lst (List.replicate i.toNat xs).flatten))) : RO X (binaryOp .Mult) (.ref l) (.int i) H Q :=
  ⟨_, op_rep, l, i, xs, rfl, rfl, h, h0, h1, hl, q⟩
theorem rx_tx {l : List Nat} {c : Nat} (hl : l.length ≤ 100000) (ha : atI l i = some c) (q : Q (.str (tx [c])) H) : RX X (.str (tx l)) (.int i) H Q := rx_str (by rw [tx_len]; exact len_le hl) (by rw [tx_list]; exact ha) q
/-! ### slices -/
def WO (X : Cx) (e : Option Expr) (σ : L2.St) (H : Hp) (Q : Option Int → Hp → Prop) : Prop :=
  match e with
  | none => Q none H
  | some e => WE X e σ H fun x H1 => ∃ i, x = .int i ∧ Q (some i) H1
theorem po_wo {e : Option Expr} : PO X e (WO X e) := by
  cases e with
  | none => exact po_none
  | some e => exact po_some pe_we
def RSl (X : Cx) (x : V) (lo hi : Option Int) (H : Hp) (Q : VK) : Prop := ∃ r, SlR X r ∧ r x lo hi H Q
theorem rsl_ok : SlR X (RSl X) := by
  intro pins s σ H x v vl vu lo hi sl Q I rx hs pl pu h
  obtain ⟨r, ho, hr⟩ := h
  exact ho pins s σ H x v vl vu lo hi sl Q I rx hs pl pu hr
theorem we_slice {lo hi : Option Expr} (h : WE X e σ H fun x H1 => WO X lo σ H1 fun a H2 => WO X hi σ H2 fun b H3 => RSl X x a b H3 Q) : WE X (.Subscript e (.Slice lo hi none p2) pos) σ H Q := we_of (pe_slice rsl_ok pe_we po_wo po_wo) h
theorem wo_none {QO : Option Int → Hp → Prop} (q : QO none H) : WO X none σ H QO := q
theorem wo_some {QO : Option Int → Hp → Prop} (h : WE X e σ H fun x H1 => ∃ i, x = .int i ∧ QO (some i) H1) : WO X (some e) σ H QO := h
def cutL (l : List Nat) (lo hi : Option Int) : List Nat := (l.drop (HT.sIx l.length 0 lo)).take (HT.sIx l.length l.length hi - HT.sIx l.length 0 lo)
theorem cutS_tx (l : List Nat) (lo hi : Option Int) : cutS (tx l) lo hi = tx (cutL l lo hi) := by
  unfold cutS cutL
  rw [tx_list, tx_len]
  rfl
theorem rsl_tx {l : List Nat} {lo hi : Option Int} (hl : l.length ≤ 100000) (q : Q (.str (tx (cutL l lo hi))) H) : RSl X (.str (tx l)) lo hi H Q := ⟨_, sl_str, tx l, rfl, by rw [tx_len]; exact len_le hl, by rw [cutS_tx]; exact q⟩
/-! ### methods -/
theorem rm_starts {a b : Str} (q : Q (.bl (Txt.startswith a b)) H) : RM X "str.startswith" (.str a) [.str b] H Q := ⟨_, mt_startswith, a, b, rfl, rfl, q⟩
theorem rm_join (d : Def X G N sc k) {a : Str} {p : Addr} {ys : List Str} (h : SqL G.K H p (ys.map V.str)) (hl : (ys.map (·.length)).sum + ys.length * a.length ≤ 16777216) (q : Q (.str (Txt.join a ys)) H) : RM X "str.join" (.str a) [.ref p] H Q :=
  ⟨_, mt_join, a, p, ys, rfl, rfl, .inl (by rw [d.K]; exact h), hl, q⟩
/-! ### x += e -/
theorem ws_aug {op : Operator} {n : Str} (d : Fr X G N sc k W) (m : Nat) (hN : N[m]? = some n) (hl : cellB sc n = true) {v : V} (hv : σ[m]? = some (some v)) {ti : TIp} (hi : PIp X op ti) (h : WE X e σ H fun y H1 => ti v y H1 fun z H2 => D.nx (σ.set m (some z)) H2) : WS X (.AugAssign (.Name n p) op e pos) D σ H :=
  ws_of (ps_aug (i := m) (by rw [d.n]; exact d.nd) (by rw [d.n]; exact hN) (by rw [d.sc]; exact locs hl) pe_we hi (.inl (d.fn n))) ⟨v, hv, h⟩
/-! ### repr -/
theorem rc_reprB {b : Bool} (q : Q (.str (if b then "True" else "False")) H) : RC X (.builtin "repr") [.bl b] H Q := by
  refine ⟨fun vs H' Q' => vs = [.bl b] ∧ Q' (.str (if b then "True" else "False")) H', ?_, rfl, q⟩
  intro pins s σ H1 xs us Q1 I r h
  obtain ⟨rfl, q1⟩ := h
  obtain ⟨u, rfl, rfl⟩ := vals1 r
  exact PySem.P.repr_of_bool ⟨.str _, H1, I.tok _, ⟨_, rfl⟩, q1⟩
/-- .. of a list or a tuple, where no repr is under way -/
theorem rc_reprD (d : Def X G N sc k) (gd : X.A.guards = some []) {a : Addr} {da : PyData} (h : Dp G.K H (.ref a) da) (hs : da.showable = true) (hd : da.hasDict = false) (hu : da.depth + 1 ≤ 64) (hl : da.shown.length ≤ sizeLine) (q : Q (.str da.shown) H) : RC X (.builtin "repr") [.ref a] H Q := by
  refine ⟨fun vs H' Q' => vs = [.ref a] ∧ Dp G.K H' (.ref a) da ∧ Q' (.str da.shown) H', ?_, rfl, h, q⟩
  intro pins s σ H1 xs us Q1 I r h
  obtain ⟨rfl, h1, q1⟩ := h
  obtain ⟨u, rfl, r1⟩ := vals1 r
  rw [← d.K] at h1
  obtain ⟨as, rd⟩ := Dp.reads I da _ _ h1 r1
  obtain rfl : u = Value.ref a := r1
  refine PySem.repr_of_reads' rd hs (PyData.noDict_hsm hd) gd ?_ (fun _ _ e => e) (fun h' u tk hk => ⟨.str _, H1, I.kept (t' := tk) hk, ⟨_, rfl⟩, q1⟩) hl
  have := d.room.units
  omega
end
end Wx

/-! Comprehensions over texts; errors with fields. -/
namespace Wx
open PySem L2
section
variable {X : Cx} {e : Expr} {es : List Expr} {σ : L2.St} {H : Hp} {Q : VK} {D : Ends} {pos p : Pos} {x : Str} {v : V} {G : Gb} {N : List Str} {sc scope : Scope} {k : Nat} {W : WX} {tg elt iter : Expr} {ifs : List Expr} {vs : List Nat}
/-- .. over a text, sign by sign -/
def LcS (X : Cx) (G : Gb) (N : List Str) (sc scope : Scope) (k : Nat) (tg elt : Expr) (ifs : List Expr) (vs : List Nat) (σ : L2.St) (y : V) (H1 : Hp) (Q : VK) : Prop :=
  ∃ l : List Nat, True ∧ y = .str (tx l) ∧ ∀ L, H1 L = none → ∃ Pv : Nat → Hp → Prop, Pv 0 (upd H1 L (.lst [])) ∧
    (∀ i c H, l[i]? = some c → Pv i H → Turn X G N sc scope k tg elt ifs vs σ (.str (tx [c])) H fun o H4 => match o with
      | some y => ∃ acc, H4 L = some (.lst acc) ∧ acc.length < sizeLine ∧ Pv (i + 1) (upd H4 L (.lst (acc ++ [y])))
      | none => Pv (i + 1) H4) ∧ ∀ H, Pv l.length H → Q (.ref L) H
theorem lcS_core (d : Def X G N sc k) (h : WE X iter σ H fun y H1 => LcS X G N sc scope k tg elt ifs vs σ y H1 Q) :
    tLc (iStr (WE X iter)) (fun v σ H R => Blk X G N sc scope k fun X' => WG X' tg v σ H R) (fun σ H R => Blk X G N sc scope k fun X' => WTs X' ifs σ H R) (fun σ H R => Blk X G N sc scope k fun X' => WE X' elt σ H R) vs σ H Q := by
  show WE X iter σ H _
  refine we_mono (fun y H1 q => ?_) h
  obtain ⟨l, _, e, q⟩ := q
  refine ⟨tx l, e, fun L hL => ?_⟩
  obtain ⟨Pv, h0, hst, hd⟩ := q L hL
  have hsz : (tx l).cps.size = l.length := tx_len l
  refine ⟨fun i m H => m = l.length - i ∧ i ≤ l.length ∧ Pv i H, ⟨l.length, rfl, Nat.zero_le _, h0⟩, ?_⟩
  rintro i m H2 ⟨rfl, hi, hp⟩
  by_cases hlt : i < l.length
  · refine .inr ⟨(by rw [← hsz] at hlt; exact hlt), Pv (i + 1), fun H' p' => ⟨_, by omega, rfl, hlt, p'⟩, fun x H' y => ?_⟩
    obtain ⟨rfl, c, hc, rfl⟩ := y
    have hc' : l[i]? = some c := by
      have z : (tx l).cps.toList[i]? = some c := by rw [Array.getElem?_toList]; exact hc
      rw [tx_list] at z
      exact z
    exact hst i c _ hc' hp
  · have e2 : i = l.length := by omega
    subst e2
    exact .inl ⟨by show (tx l).cps.size ≤ _; rw [hsz]; exact Nat.le_refl _, hd _ hp⟩
theorem we_lcS (d : Def X G N sc k) (own : List (Str × Nat)) (ok : blkC N sc scope own = true) (hs : ∀ x, foldedSetIterable iter X.env x = pure x)
    (h : WE X iter σ H fun y H1 => LcS X G N sc scope k tg elt ifs (own.map (·.2)) σ y H1 Q) : WE X (.ListComp elt [⟨tg, iter, ifs, 0⟩] scope pos) σ H Q :=
  we_of (pe_lcW d (pi_str pe_we) (blkOk_by ok) hs) (lcS_core d h)
theorem lcS_map {l : List Nat} (f : Nat → Option V) (hn : l.length < 100000)
    (turn : ∀ c ∈ l, ∀ H', Same H H' → ∀ R : Option V → Hp → Prop, (∀ H2, Same H' H2 → R (f c) H2) → Turn X G N sc scope k tg elt ifs vs σ (.str (tx [c])) H' R)
    (fin : ∀ L H', H L = none → Same H H' → H' L = some (.lst (l.filterMap f)) → Q (.ref L) H') : LcS X G N sc scope k tg elt ifs vs σ (.str (tx l)) H Q := by
  refine ⟨l, trivial, rfl, fun L hL => ⟨fun i H' => Same H H' ∧ H' L = some (.lst ((l.take i).filterMap f)), ⟨same_new hL, upd_same⟩, fun i c H' hc h => ?_, fun H' h => ?_⟩⟩
  · exact turn c (List.mem_of_getElem? hc) H' h.1 (Done l f H L i) (done hL hc hn h.1 h.2)
  · obtain ⟨h1, h2⟩ := h
    rw [List.take_length] at h2
    exact fin L H' hL h1 h2
/-! ### errors with fields -/
/-- what the text's top has left of an error's class that has its own __init__, at C -/
structure OxC (G : Gb) (x : Str) (C : Addr) (n k : Nat) (sp : Sp) : Prop where
  gC : G.mg x = some (.ref C)
  T : OexC G.K C
  init : ∃ (fI : Addr) (fd : FuncData) (ps : List Str), PySem.W.findIn G.K (.ref C) "__init__" = some (some (.ref fI)) ∧ PySem.W.typeIn G.K (.ref fI) = some (.type "function") ∧ FnOk G.prog G.w G.K G.mg G.base (L2.CX G.prog G.w) k fI fd ps sp ∧ Binds G.K fd ps []
/-- self.f = e, in such an __init__ -/
theorem ws_ost {o : Expr} {f : Str} {p' : Pos} (d : Def X G N sc k) (hs : swapsWith e (some (.Attribute o f p')) pos.line X.env = pure false)
    (h : WE X e σ H fun y H1 => WE X o σ H1 fun x H2 => ∃ a C : Addr, x = .ref a ∧ OexC G.K C ∧ PySem.W.findIn G.K (.ref C) f = some none ∧
      ((H2 a = some (exo a C none) ∧ ∀ dx, H2 dx = none → dx ≠ a → D.nx σ (upd (upd H2 dx (exd dx [(f, y)])) a (exo a C (some dx)))) ∨
        ∃ (dx : Addr) (fs : List (Str × V)), H2 a = some (exo a C (some dx)) ∧ H2 dx = some (exd dx fs) ∧ fs.length ≤ 900 ∧ D.nx σ (upd H2 dx (exd dx ((f, y) :: fs))))) : WS X (.Assign [.Attribute o f p'] e pos) D σ H :=
  ws_of (ps_ost pe_we pe_we hs) (by rw [← d.K] at h; exact h)
/-- raise x(e, ..) -/
theorem ws_raiseO (d : Fr X G N sc k W) {C : Addr} {n j : Nat} {sp : Sp} {p pos pos' : Pos} (F : OxC G x C n j sp) (hj : j + 1 ≤ k) (hg : glB sc x = true) (he : ns e = true) (hpl : nss es = true)
    (h : WA X (e :: es) σ H fun vs H1 => vs.length ≤ 1000 ∧ ∀ a, H1 a = none → sp (.ref a :: vs) (upd H1 a (exo a C none)) (fun v H2 => v = .non ∧ ∃ (d : Addr) (fs : List (Str × V)), H2 a = some (exo a C (some d)) ∧ H2 d = some (exd d fs) ∧ H1 d = none ∧ W (.ref C) (some d) σ (upd (del H2 a) d (.xd fs))) (fun _ _ _ => False))
    (hdb : (x == ("__debug__" : Str)) = false := by decide +kernel) : WS X (.Raise (some (.Call (.Name x p) (e :: es) [] pos)) none pos') D σ H := by
  obtain ⟨fI, fd, ps, h1, h2, h3, h4⟩ := F.init
  refine ws_of (ps_raise d.calm d.tk (pmk_oex (CX := L2.CX G.prog G.w) (k := j) (fI := fI) (fd := fd) (ps := ps) (sp := sp) (ds := []) (dvs := []) (by rw [d.K]; exact F.T) (by rw [d.K]; exact h1) (by rw [d.K]; exact h2) ?_ (d.room.mono hj) (by rw [d.K]; exact h4) .nil
    (by rw [← d.prog, ← d.w]; exact passL) (d.toDef.gl hg) (by rw [d.mg]; exact F.gC) pa_wa hdb (star_ns he) (hpl_ns hpl))) ?_
  · rw [d.prog, d.w, d.K, d.mg, d.base]
    exact h3
  · show WA X (e :: es) σ H _
    refine wa_mono (fun vs H1 q => ⟨q.1, fun a ha => ?_⟩) h
    rw [List.append_nil]
    exact q.2 a ha
/-- the exception's own dict and class stand; its field n -/
theorem we_exAttr {a C dd : Addr} {fs : List (Str × V)} {n : Str} (d : Def X G N sc k) (ga : PySem.W.findIn G.K (.ref C) "__getattribute__" = some (some (.builtin "BaseException.__getattribute__"))) (gg : PySem.W.findIn G.K (.ref C) "__getattr__" = some none)
    (exC : PySem.W.subIn G.K (.ref C) (.type "BaseException") = some true) (hdC : PySem.W.hasDictIn G.K C = true) (hno : PySem.W.findIn G.K (.ref C) n = some none) (hb : attributeBase e n X.env (eval e X.env) = eval e X.env)
    (h : WE X e σ H fun y H1 => y = .ref a ∧ H1 a = some (ExV a (.ref C) (some dd)) ∧ H1 dd = some (.xd fs) ∧ ∃ v, fs.lookup n = some v ∧ Q v H1) : WE X (.Attribute e n pos) σ H Q := by
  intro pins s I
  refine attr_of hb (thn (h pins s I) fun u s1 hh => ?_)
  obtain ⟨y, H1, I1, rx, ey, ha, hd, v, hl, q⟩ := hh
  subst ey
  obtain rfl : u = Value.ref a := rx
  obtain ⟨⟨oe, vs, at1, z1, f1⟩, _, _⟩ := I1.hok a _ ha
  have hx : ObjOk X.prog X.w H1 s1.heap dd (.xd fs) := I1.hok dd _ hd
  obtain ⟨mA, hns, hr⟩ := hx
  obtain ⟨od, ho, hlk⟩ := lookIn_ns hns
  obtain ⟨u, hu, ru⟩ := RelO.some_of (v := v) (o := mA n) (by rw [← hl]; exact hr n)
  have J : PySem.W.InstAt s1.heap a oe C (some od) := ⟨at1, z1.1, by unfold PySem.W.notCls; rw [f1] <;> rfl, by rw [z1.2]; exact ho⟩
  have K1 := I1.kIn
  rw [d.K] at K1
  exact HandSPX.exc_get K1 J ga gg exC (PySem.W.findObj_own hdC hno rfl (by rw [hlk, hu])) (handed_of ru) ⟨v, H1, I1.tok _, ru, q⟩
/-! ### isinstance of an exception that may have fields -/
theorem rc_isX {C a : Addr} {dd : Option Addr} {c : V} {u : Value} {r : Bool} (d : Def X G N sc k) (E : ExcC G.K C) (hc : ClsV c u) (h : H a = some (ExV a (.ref C) dd)) (hdd : ∀ b, dd = some b → ∃ fs, H b = some (.xd fs)) (e : PySem.W.kitOne G.K (.ref C) u = some r) (q : Q (.bl r) H) : RC X (.builtin "isinstance") [.ref a, c] H Q := by
  refine ⟨fun vs H' Q' => vs = [.ref a, c] ∧ H' a = some (ExV a (.ref C) dd) ∧ (∀ b, dd = some b → ∃ fs, H' b = some (.xd fs)) ∧ Q' (.bl r) H', ?_, rfl, h, hdd, q⟩
  intro pins s τ H1 xs us Q1 I rr hh
  obtain ⟨rfl, h1, hdd, q1⟩ := hh
  obtain ⟨u1, u2, rfl, r1, r2⟩ := vals2 rr
  cases (show u1 = Value.ref a from r1)
  have e2 := hc.eq r2
  subst e2
  obtain ⟨⟨oe, vs, at1, z1, f1⟩, _, _⟩ := I.hok a _ h1
  obtain ⟨od, J⟩ : ∃ od, PySem.W.InstAt s.heap a oe C od := by
    cases dd with
    | none =>
      refine ⟨none, at1, z1.1, by unfold PySem.W.notCls; rw [f1] <;> rfl, ?_⟩
      rw [z1.2]
      trivial
    | some b =>
      obtain ⟨fs, hb⟩ := hdd b rfl
      have hx : ObjOk X.prog X.w H1 s.heap b (.xd fs) := I.hok b _ hb
      obtain ⟨mA, hns, hr⟩ := hx
      obtain ⟨od, ho, hlk⟩ := lookIn_ns hns
      exact ⟨some od, at1, z1.1, by unfold PySem.W.notCls; rw [f1] <;> rfl, by rw [z1.2]; exact ho⟩
  have K0 : G.K.In s.heap := by
    rw [← d.K]
    exact I.kIn
  have hcl : (PySem.W.clsIn G.K C).isSome = true := by
    have z := E.hd
    unfold PySem.W.hasDictIn at z
    cases q : PySem.W.clsIn G.K C with
    | none => rw [q] at z; cases z
    | some _ => rfl
  refine PySem.W.kia_one (PySem.W.kitx_exc hcl E.hg E.hk E.hs E.ha E.hn E.ht E.hm) K0 J e (fun z => nomatch z) fun tk => ⟨.bl r, H1, I.kept (t' := tk) fun _ _ z => z, rfl, q1⟩
end
/-! ### further -/
section
variable {X : Cx} {e : Expr} {es : List Expr} {σ : L2.St} {H : Hp} {Q : VK} {D : Ends} {pos p : Pos} {x : Str} {v : V} {G : Gb} {N : List Str} {sc scope : Scope} {k : Nat} {W : WX}
theorem we_callK0E {E : XK} (d : Def X G N sc k) {ks : List Str} {gV : List V → List V → List V} {kws : List Keyword} {j : Nat} {sp : Sp} (F : FnK G x ks gV j sp) (hj : j ≤ k) (hg : glB sc x = true) (hx : Passes (L2.CX G.prog G.w) X E)
    (hall : (backToKw pos (keywordEach kws X.env)).all (·.1.isSome) = true) (hks : (backToKw pos (keywordEach kws X.env)).filterMap (·.1) = ks)
    (hpl : ((backTo pos (starEach [] X.env)).any (·.1) || (backToKw pos (keywordEach kws X.env)).any (·.1.isNone)) = false)
    (h : WK X kws σ H fun zs H2 => sp (gV [] zs) H2 Q E) (hdb : (x == ("__debug__" : Str)) = false := by decide +kernel) : WE X (.Call (.Name x p) [] kws pos) σ H Q := by
  obtain ⟨f, fd, ps, g, h1, h2, h3, h4⟩ := F.is
  intro pins s I
  have F' : FnOk X.prog X.w X.K X.mg X.base (L2.CX G.prog G.w) j f fd ps sp := by
    rw [d.prog, d.w, d.K, d.mg, d.base]
    exact h3
  refine PySem.wpAny_Call_Name_kw (ld_glob I (d.gl hg) (by rw [d.mg]; exact h1) ?_ hdb)
  refine PySem.W.callWith_KW0 (h₀ := X.base) I.ok.mod.kin (by rw [d.K]; exact h2) hall ?_ hpl
  refine thn (h pos pins s I) fun ws s2 ⟨zs, H2, I2, rz, q2⟩ => ⟨I2.kIn, ?_⟩
  rw [hks]
  exact run_fnk (us := []) (vs := []) F' (d.room.mono hj) (by rw [d.K]; exact h4) hx I2 .nil rz q2
theorem rc_sortedS (d : Def X G N sc k) {a : Addr} {ss : List Str} (h : SqL G.K H a (ss.map V.str)) (hl : ss.length < 64) (q : ∀ (ys : List Str) (p : Addr), ys.Perm ss → PyProof.Rows.sortedS ys = true → H p = none → Q (.ref p) (upd H p (.lst (ys.map V.str)))) : RC X (.builtin "sorted") [.ref a] H Q :=
  ⟨_, cr_sortedS, a, ss, rfl, by rw [d.K]; exact h, hl, q⟩
end
end Wx

/-! Comprehensions over a range as filterMap; a stronger wish for a def. -/
namespace Wx
open PySem L2
section
variable {X : Cx} {σ : L2.St} {H : Hp} {Q : VK} {G : Gb} {N : List Str} {sc scope : Scope} {k : Nat} {tg elt : Expr} {ifs : List Expr} {vs : List Nat}
theorem lcR_map {n : Nat} {j : Int} (f : Nat → Option V) (ej : j.toNat = n) (b1 : -(2 ^ 62) ≤ j) (hn : n < 100000)
    (turn : ∀ i, i < n → ∀ H', Same H H' → ∀ R : Option V → Hp → Prop, (∀ H2, Same H' H2 → R (f i) H2) → Turn X G N sc scope k tg elt ifs vs σ (.int i) H' R)
    (fin : ∀ L H', H L = none → Same H H' → H' L = some (.lst ((List.range n).filterMap f)) → Q (.ref L) H') : LcR X G N sc scope k tg elt ifs vs σ (.int j) H Q := by
  have hj : j < 2 ^ 62 := by
    have : (2 : Int) ^ 62 = 4611686018427387904 := by decide
    omega
  refine ⟨j, rfl, b1, hj, fun L hL => ⟨fun i H' => Same H H' ∧ H' L = some (.lst (((List.range n).take i).filterMap f)), ⟨same_new hL, upd_same⟩, fun i H' hi h => ?_, fun H' h => ?_⟩⟩
  · rw [ej] at hi
    have hx : (List.range n)[i]? = some i := by rw [List.getElem?_range hi]
    exact turn i hi H' h.1 (Done (List.range n) f H L i) (done hL hx (by rw [List.length_range]; exact hn) h.1 h.2)
  · obtain ⟨h1, h2⟩ := h
    rw [ej, List.take_of_length_le (by rw [List.length_range]; exact Nat.le_refl _)] at h2
    exact fin L H' hL h1 h2
end
theorem fn_to {G : Gb} {x : Str} {n k : Nat} {sp sp' : Sp} (F : Fn G x n k sp) (h : ∀ vs H Q E, sp' vs H Q E → sp vs H Q E) : Fn G x n k sp' := by
  obtain ⟨f, fd, ps, h1, h2, h3, h4⟩ := F.is
  exact ⟨f, fd, ps, h1, h2, ⟨fun vs H Q E q => h3.len vs H Q E (h _ _ _ _ q), fun A outer s H args us vs Q E hr e b r q => h3.run A outer s H args us vs Q E hr e b r (h _ _ _ _ q)⟩, h4⟩
end Wx

/-! enumerate of a text; written dicts from texts to texts. -/
namespace Wx
open PySem L2 PySem.Spec PyProof.Rows
/-- a text's signs, each one in a new pair with its number -/
def IteS (x : Str) : It where
  go := fun n _ => n < x.cps.size
  yld := fun n G v G' => ∃ T c, v = .ref T ∧ G T = none ∧ G' = upd G T (.tup [.int (n : Nat), .str ⟨#[c]⟩]) ∧ x.cps[n]? = some c
  stop := fun n _ => x.cps.size ≤ n
/-- where the enumerate object at a and the text's iterator at b stand behind n turns -/
def AtS (x : Str) (t : Tok) (a b : Addr) (n : Nat) (h : Heap) : Prop :=
  a ≠ b ∧ n ≤ x.cps.size ∧ h.IsStrIter b (strIterType x) x t n ∧ ∃ u, IsEnum h a b ((n : Nat) : Int) u
theorem two_mem {a b c : Addr} (h : c ∈ [a, b]) : c = a ∨ c = b := by
  rcases List.mem_cons.mp h with h | h
  · exact .inl h
  · exact .inr (List.mem_singleton.mp h)
theorem drawS {P : Program} {w : World} {A : Around} (hh : A.handled = none) (b : Addr) (x : Str) (t : Tok) : Draws P w A.in1 b [b] x.cps.size (fun n v => ∃ c u, x.cps[n]? = some c ∧ v = .str ⟨#[c]⟩ u) (fun n h => h.IsStrIter b (strIterType x) x t n) := by
  unfold strIterType
  by_cases ha : x.cps.all (· < 128) = true
  · rw [if_pos ha]
    exact Draws.strAscii (A := A.in1) hh b x t
  · rw [if_neg ha]
    exact Draws.strWide (A := A.in1) hh b x t
/-- the pair that a turn makes -/
theorem pairS {P : Program} {w : World} {H : Hp} {h : Heap} {T c n : Nat} {t u : Tok} (e : h.get? T = some { cls := .type "tuple", data := .seq #[.int (n : Nat) t, .str ⟨#[c]⟩ u] }) :
    ObjOk P w H h T (.tup [.int (n : Nat), .str ⟨#[c]⟩]) := by
  refine ⟨show 2 ≤ sizeLine by decide, _, ?_, ⟨_, e, rfl, _, rfl⟩⟩
  exact .cons ⟨_, rfl⟩ (.cons ⟨_, rfl⟩ .nil)
theorem turn_enumS {P : Program} {w : World} {K : PySem.W.Frag} {elts : List Expr} {kk : Nat} {tpos : Pos} (x : Str) (t : Tok) (a b : Addr) : L2.Turn P w K (.Tuple elts kk tpos) (IteS x) [a, b] a (AtS x t a b) := by
  refine ⟨by simp, fun n h q c hc => ?_, fun n h h' q k => ?_, ?_, ?_, fun A n s Q E q r => ?_⟩
  · obtain ⟨_, _, ⟨ob, g1, _, g3⟩, u, g4⟩ := q
    rcases two_mem hc with rfl | rfl
    · exact ⟨_, g4, fun _ z => nomatch z⟩
    · exact ⟨ob, g1, fun _ z => by rw [g3] at z; cases z⟩
  · obtain ⟨q1, q2, ⟨ob, g1, g2⟩, u, g4⟩ := q
    exact ⟨q1, q2, ⟨ob, k b (by simp) ob g1, g2⟩, u, k a (by simp) _ g4⟩
  · intro X eP ew eK calm n pins s σ H E I hf q hgo
    cases eP
    cases ew
    cases eK
    obtain ⟨q1, q2, q3, u, q4⟩ := q
    have la : a < s.heap.objs.size := Heap.lt_size q4
    have lb : b < s.heap.objs.size := by
      obtain ⟨_, z, _⟩ := q3
      exact Heap.lt_size z
    refine wpAny_pyNext_enum_itemD (drawS (I.ok.hd calm) b x t) q4 q3 hgo q1 (fun z => q1 (List.mem_singleton.mp z)) fun v h1 tk hv out q5 hT hz hk => ?_
    obtain ⟨c, uc, hc, rfl⟩ := hv
    refine ⟨_, rfl, wpAny_letOwnedTupleGo_enum (s := ⟨h1, s.gens, s.drawn, tk + 1, s.os⟩) out fun h2 back sb => ?_⟩
    have far : ∀ d o, d ∉ [a, b] → s.heap.get? d = some o → h2.get? d = some o := fun d o hd z => by
      have n1 : d ≠ a := fun y => hd (by rw [y]; simp)
      have n2 : d ≠ b := fun y => hd (by rw [y]; simp)
      exact (sb.2 d n1).trans (hk d o n1 n2 z)
    have pT := (sb.2 _ (Nat.ne_of_gt la)).trans hT
    have J := I.turnedNew (t' := tk + 1) (ch := [a, b]) far hf (Nat.le_refl _) (pairS (P := X.prog) (w := X.w) (H := upd H s.heap.objs.size (.tup [.int (n : Nat), .str ⟨#[c]⟩])) pT)
    refine ⟨.ref s.heap.objs.size, _, J, rfl, ⟨_, c, rfl, I.hok.fresh (Nat.le_refl _), rfl, hc⟩, ⟨q1, hgo, ?_, .str ⟨#[c]⟩ uc, ?_⟩, fun d hd => ?_⟩
    · obtain ⟨ob, g1, g2⟩ := q5
      exact ⟨ob, (sb.2 b q1.symm).trans g1, g2⟩
    · rw [show (((n + 1 : Nat)) : Int) = (n : Int) + 1 from by omega]
      exact back
    · have ld : d < s.heap.objs.size := by
        rcases two_mem hd with rfl | rfl
        · exact la
        · exact lb
      rw [upd_ne (Nat.ne_of_lt ld)]
      exact (hf d hd).1
  · intro X eP ew eK calm n pins s σ H E I hf q hst
    cases eP
    cases ew
    cases eK
    obtain ⟨q1, q2, q3, u, q4⟩ := q
    have en : n = x.cps.size := Nat.le_antisymm q2 hst
    rw [en] at q3
    obtain ⟨z0, z1, _, z3, z4, z5⟩ := hf b (by simp)
    exact wpAny_pyNext_enum_endD (drawS (I.ok.hd calm) b x t) q4 q3 fun h1 k => ⟨rfl, I.turned (t' := s.toks) (fun c o hc e => k c o hc e) z0 z1 z3 z4 z5⟩
  · obtain ⟨_, _, _, u, q4⟩ := q
    exact wpAny_pyIter_enum q4 r
def iEnumS (ta : TA) : TI := fun σ H R => ta σ H fun vs H1 => ∃ x, vs = [.str x] ∧ R (IteS x) H1
theorem pi_enumS {X : Cx} {e : Expr} {ta : TA} {p pos tpos : Pos} {elts : List Expr} {kk : Nat} (g : Gl X "enumerate") (m : X.mg "enumerate" = none) (ha : PA X [e] ta) (st : starEach [e] X.env = [(false, eval e X.env)] := by rfl) : PI X (.Tuple elts kk tpos) (.Call (.Name "enumerate" p) [e] [] pos) (iEnumS ta) := by
  constructor
  intro pins s σ H R I h
  refine Call_ (ld_blt I g m boot_enumerate (PyProof.Rows.callWith_type1 (thn (ha.run pos pins s σ H _ I h) fun us s1 hh => ?_) st rfl))
  obtain ⟨vs, H1, I1, rv, x, rfl, q⟩ := hh
  obtain ⟨u, rfl, r⟩ := vals1 rv
  obtain ⟨t, rfl⟩ := (show ∃ t, u = Value.str x t from r)
  refine call_enumerate_str fun h1 mk it _ hk => wpAny_pyIter_enum mk ?_
  refine ⟨_, [s1.heap.objs.size + 1, s1.heap.objs.size], _, _, H1, rfl, I1.kept (t' := s1.toks) hk, turn_enumS x t _ _, ⟨Nat.succ_ne_self _, Nat.zero_le _, it, .none, mk⟩, fun c hc => ?_, q⟩
  have lc : s1.heap.objs.size ≤ c := by
    rcases two_mem hc with rfl | rfl
    · exact Nat.le_succ _
    · exact Nat.le_refl _
  exact I1.fpOk lc (I1.hok.fresh lc)
section
variable {X : Cx} {e : Expr} {es : List Expr} {σ : L2.St} {H : Hp} {Q : VK} {D : Ends} {pos p : Pos} {v : V} {G : Gb} {N : List Str} {sc scope : Scope} {k : Nat} {W : WX} {tg elt : Expr} {ifs : List Expr} {vs : List Nat}
/-- a comprehension over enumerate(text) -/
def LcE (X : Cx) (G : Gb) (N : List Str) (sc scope : Scope) (k : Nat) (tg elt : Expr) (ifs : List Expr) (vs : List Nat) (σ : L2.St) (y : List V) (H1 : Hp) (Q : VK) : Prop :=
  ∃ l : List Nat, y = [.str (tx l)] ∧ ∀ L, H1 L = none → ∃ Pv : Nat → Hp → Prop, Pv 0 (upd H1 L (.lst [])) ∧
    (∀ i c H T, l[i]? = some c → Pv i H → H T = none → Wx.Turn X G N sc scope k tg elt ifs vs σ (.ref T) (upd H T (.tup [.int (i : Nat), .str (tx [c])])) fun o H4 => match o with
      | some y => ∃ acc, H4 L = some (.lst acc) ∧ acc.length < sizeLine ∧ Pv (i + 1) (upd H4 L (.lst (acc ++ [y])))
      | none => Pv (i + 1) H4) ∧ ∀ H, Pv l.length H → Q (.ref L) H
theorem lcE_core (d : Def X G N sc k) (h : WA X [e] σ H fun y H1 => LcE X G N sc scope k tg elt ifs vs σ y H1 Q) :
    tLc (iEnumS (WA X [e])) (fun v σ H R => Blk X G N sc scope k fun X' => WG X' tg v σ H R) (fun σ H R => Blk X G N sc scope k fun X' => WTs X' ifs σ H R) (fun σ H R => Blk X G N sc scope k fun X' => WE X' elt σ H R) vs σ H Q := by
  show WA X [e] σ H _
  refine wa_mono (fun y H1 q => ?_) h
  obtain ⟨l, ey, q⟩ := q
  refine ⟨tx l, ey, fun L hL => ?_⟩
  obtain ⟨Pv, h0, hst, hd⟩ := q L hL
  have hsz : (tx l).cps.size = l.length := tx_len l
  refine ⟨fun i m H => m = l.length - i ∧ i ≤ l.length ∧ Pv i H, ⟨l.length, rfl, Nat.zero_le _, h0⟩, ?_⟩
  rintro i m H2 ⟨rfl, hi, hp⟩
  by_cases hlt : i < l.length
  · refine .inr ⟨(by rw [← hsz] at hlt; exact hlt), Pv (i + 1), fun H' p' => ⟨_, by omega, rfl, hlt, p'⟩, fun x H' y => ?_⟩
    obtain ⟨T, c, rfl, hT, rfl, hc⟩ := y
    have hc' : l[i]? = some c := by
      have z : (tx l).cps.toList[i]? = some c := by rw [Array.getElem?_toList]; exact hc
      rw [tx_list] at z
      exact z
    exact hst i c _ T hc' hp hT
  · have e2 : i = l.length := by omega
    subst e2
    exact .inl ⟨by show (tx l).cps.size ≤ _; rw [hsz]; exact Nat.le_refl _, hd _ hp⟩
theorem we_lcE (d : Def X G N sc k) {elts : List Expr} {kk : Nat} {tpos rp rp2 : Pos} (own : List (Str × Nat)) (ok : blkC N sc scope own = true) (hg : glB sc "enumerate" = true) (hm : G.mg "enumerate" = none)
    (hs : ∀ x, foldedSetIterable (.Call (.Name "enumerate" rp) [e] [] rp2) X.env x = pure x) (ha : ns e = true)
    (h : WA X [e] σ H fun y H1 => LcE X G N sc scope k (.Tuple elts kk tpos) elt ifs (own.map (·.2)) σ y H1 Q) : WE X (.ListComp elt [⟨.Tuple elts kk tpos, (.Call (.Name "enumerate" rp) [e] [] rp2), ifs, 0⟩] scope pos) σ H Q :=
  we_of (pe_lcW d (pi_enumS (d.gl hg) (by rw [d.mg]; exact hm) pa_wa (star_ns ha)) (blkOk_by ok) hs) (lcE_core d h)
theorem lcE_map {l : List Nat} (f : Nat → Nat → Option V) (hn : l.length < 100000)
    (turn : ∀ i c, l[i]? = some c → ∀ H' T, Same H H' → H' T = some (.tup [.int (i : Nat), .str (tx [c])]) → ∀ R : Option V → Hp → Prop, (∀ H2, Same H' H2 → R (f i c) H2) → Wx.Turn X G N sc scope k tg elt ifs vs σ (.ref T) H' R)
    (fin : ∀ L H', H L = none → Same H H' → H' L = some (.lst (l.zipIdx.filterMap fun p => f p.2 p.1)) → Q (.ref L) H') : LcE X G N sc scope k tg elt ifs vs σ [.str (tx l)] H Q := by
  refine ⟨l, rfl, fun L hL => ⟨fun i H' => Same H H' ∧ H' L = some (.lst ((l.zipIdx.take i).filterMap fun p => f p.2 p.1)), ⟨same_new hL, upd_same⟩, fun i c H' T hc h hT => ?_, fun H' h => ?_⟩⟩
  · have hx : l.zipIdx[i]? = some (c, i) := by rw [List.getElem?_zipIdx, hc]; simp
    exact turn i c hc _ T (h.1.trans (same_new hT)) upd_same (Done l.zipIdx (fun p => f p.2 p.1) H L i) fun H2 s2 => done (f := fun p : Nat × Nat => f p.2 p.1) hL hx (by rw [List.length_zipIdx]; exact hn) h.1 h.2 H2 ((same_new hT).trans s2)
  · obtain ⟨h1, h2⟩ := h
    rw [List.take_of_length_le (by rw [List.length_zipIdx]; exact Nat.le_refl _)] at h2
    exact fin L H' hL h1 h2
end
/-! ### a written dict from texts to texts -/
def formB : List (Str × Str) → List DictEntry → Bool
  | [], [] => true
  | (a, b) :: r, e :: es => (match e.key, e.val with
    | .str y _, .str z _ => a == y && b == z
    | _, _ => false) && formB r es
  | _, _ => false
structure FormsG (G : Gb) (x : Str) (fs : List (Str × Str)) : Prop where
  is : ∃ (a : Addr) (es : Array DictEntry) (n : Nat), G.mg x = some (.ref a) ∧ KDict G.K G.w a es n ∧ formB fs es.toList = true
theorem form_find {z : Str} : ∀ {fs : List (Str × Str)} {es : List DictEntry}, formB fs es = true →
    (match fs.lookup z with
     | none => es.find? (·.key.isStr z) = none ∧ es.any (·.refKey) = false
     | some v => ∃ e t, es.find? (·.key.isStr z) = some e ∧ e.val = .str v t)
  | [], [], _ => ⟨rfl, rfl⟩
  | [], _ :: _, h => by cases h
  | _ :: _, [], h => by cases h
  | (a, b) :: r, e :: es, h => by
    obtain ⟨h1, h2⟩ := Bool.and_eq_true_iff.mp h
    have ih := form_find (z := z) h2
    obtain ⟨hash, key, val⟩ := e
    cases key with
    | str y t1 =>
      cases val with
      | str w t2 =>
        obtain ⟨g1, g2⟩ := Bool.and_eq_true_iff.mp (show (a == y && b == w) = true from h1)
        have g1 := beq_iff_eq.mp g1
        have g2 := beq_iff_eq.mp g2
        subst g1 g2
        have ek : (Value.str a t1).isStr z = (a == z) := rfl
        by_cases hz : z = a
        · subst hz
          rw [List.lookup_cons_self]
          exact ⟨_, t2, List.find?_cons_of_pos (by show (Value.str z t1).isStr z = true; rw [ek]; exact beq_self_eq_true z), rfl⟩
        · have hz' : (z == a) = false := by rw [beq_eq_false_iff_ne]; exact hz
          have hz2 : ¬ ((Value.str a t1).isStr z = true) := by rw [ek, beq_iff_eq]; exact fun q => hz q.symm
          have hf : List.find? (fun x : DictEntry => x.key.isStr z) (⟨hash, .str a t1, .str b t2⟩ :: es) = List.find? (fun x => x.key.isStr z) es :=
            List.find?_cons_of_neg (p := fun x : DictEntry => x.key.isStr z) (a := ⟨hash, .str a t1, .str b t2⟩) (l := es) hz2
          rw [List.lookup_cons, hz']
          dsimp only
          cases q : r.lookup z with
          | none =>
            rw [q] at ih
            exact ⟨by rw [hf]; exact ih.1, by rw [List.any_cons, ih.2]; rfl⟩
          | some v =>
            rw [q] at ih
            obtain ⟨e, t, i1, i2⟩ := ih
            exact ⟨e, t, by rw [hf]; exact i1, i2⟩
      | _ => cases h1
    | _ => cases h1
theorem form_ns {K : PySem.W.Frag} {w : World} {a : Addr} {es : Array DictEntry} {n : Nat} {fs : List (Str × Str)} (D : KDict K w a es n) (hf : formB fs es.toList = true) (z : Str) :
    (match fs.lookup z with
     | none => PySem.W.nsIn K a z = some none
     | some v => ∃ t, PySem.W.nsIn K a z = some (some (.str v t))) := by
  have q := form_find (z := z) hf
  cases e : fs.lookup z with
  | none =>
    rw [e] at q
    show PySem.W.nsIn K a z = some none
    unfold PySem.W.nsIn
    rw [D.at_]
    dsimp only
    rw [q.1]
    dsimp only
    rw [q.2]
    rfl
  | some v =>
    rw [e] at q
    obtain ⟨e, t, q1, q2⟩ := q
    refine ⟨t, ?_⟩
    unfold PySem.W.nsIn
    rw [D.at_]
    dsimp only
    rw [q1]
    dsimp only
    rw [q2]
section
variable {X : Cx} {H : Hp} {Q : VK} {G : Gb} {N : List Str} {sc : Scope} {k : Nat}
theorem ro_notInF (d : Def X G N sc k) {a : Addr} {es : Array DictEntry} {n : Nat} {fs : List (Str × Str)} (D : KDict G.K G.w a es n) (hf : formB fs es.toList = true) {z : Str} (q : Q (.bl (!(fs.lookup z).isSome)) H) : RO X (compareOp .NotIn) (.str z) (.ref a) H Q := by
  have D' : KDict X.K X.w a es n := by rw [d.K, d.w]; exact D
  have z1 := form_ns D hf z
  rw [← d.K] at z1
  cases e : fs.lookup z with
  | none =>
    rw [e] at z1 q
    exact ⟨_, op_notIn_kd D', z, none, rfl, rfl, z1, q⟩
  | some v =>
    rw [e] at z1 q
    obtain ⟨t, z1⟩ := z1
    exact ⟨_, op_notIn_kd D', z, some (.str v t), rfl, rfl, z1, q⟩
theorem rx_form (d : Def X G N sc k) {a : Addr} {es : Array DictEntry} {n : Nat} {fs : List (Str × Str)} (D : KDict G.K G.w a es n) (hf : formB fs es.toList = true) {z v : Str} (e : fs.lookup z = some v) (q : Q (.str v) H) : RX X (.ref a) (.str z) H Q := by
  have D' : KDict X.K X.w a es n := by rw [d.K, d.w]; exact D
  have z1 := form_ns D hf z
  rw [← d.K, e] at z1
  obtain ⟨t, z1⟩ := z1
  exact ⟨_, ix_kdict, a, z, .str v, rfl, rfl, ⟨es, n, _, D'.at_, D'.lit, z1, ⟨t, rfl⟩⟩, q⟩
end
end Wx

/-! for over enumerate(text); comprehensions over enumerate(tuple). -/
namespace Wx
open PySem L2 PySem.Spec PyProof.Rows
section
variable {X : Cx} {e : Expr} {es : List Expr} {σ : L2.St} {H : Hp} {Q : VK} {D : Ends} {pos p : Pos} {v : V} {G : Gb} {N : List Str} {sc scope : Scope} {k : Nat} {W : WX} {tg elt : Expr} {ifs : List Expr} {vs : List Nat}
theorem ws_forE (d : Fr X G N sc k W) {elts : List Expr} {kk : Nat} {tpos rp rp2 : Pos} {body : List Stmt} (hg : glB sc "enumerate" = true) (hm : G.mg "enumerate" = none) (hs : ∀ x, foldedSetIterable (.Call (.Name "enumerate" rp) [e] [] rp2) X.env x = pure x) (ha : ns e = true)
    (h : WA X [e] σ H fun y H1 => ∃ l : List Nat, y = [.str (tx l)] ∧ ∃ Pv : Nat → L2.St → Hp → Prop, Pv 0 σ H1 ∧
      (∀ i c σ H T, l[i]? = some c → Pv i σ H → H T = none → WG X (.Tuple elts kk tpos) (.ref T) σ (upd H T (.tup [.int (i : Nat), .str (tx [c])])) fun σ2 H2 => WB X body { D with nx := Pv (i + 1), ct := Pv (i + 1), bk := D.nx } σ2 H2) ∧ ∀ σ H, Pv l.length σ H → D.nx σ H) :
    WS X (.For (.Tuple elts kk tpos) (.Call (.Name "enumerate" rp) [e] [] rp2) body [] pos) D σ H := by
  refine ws_of (ps_for d.own d.calm (pi_enumS (d.gl hg) (by rw [d.mg]; exact hm) pa_wa (star_ns ha)) pg_wg pss_wb hs) (t := tFor _ _ _) ?_
  show WA X [e] σ H _
  refine wa_mono (fun y H1 q => ?_) h
  obtain ⟨l, ey, Pv, h0, hst, hd⟩ := q
  refine ⟨tx l, ey, ?_⟩
  have hsz : (tx l).cps.size = l.length := tx_len l
  refine ⟨fun i m σ H => m = l.length - i ∧ i ≤ l.length ∧ Pv i σ H, ⟨l.length, rfl, Nat.zero_le _, h0⟩, ?_⟩
  rintro i m σ2 H2 ⟨rfl, hi, hp⟩
  by_cases hlt : i < l.length
  · refine .inr ⟨(by rw [← hsz] at hlt; exact hlt), Pv (i + 1), fun σ' H' p' => ⟨_, by omega, rfl, hlt, p'⟩, fun x H' y => ?_⟩
    obtain ⟨T, c, rfl, hT, rfl, hc⟩ := y
    have hc' : l[i]? = some c := by
      have z : (tx l).cps.toList[i]? = some c := by rw [Array.getElem?_toList]; exact hc
      rw [tx_list] at z
      exact z
    exact hst i c _ _ T hc' hp hT
  · have e2 : i = l.length := by omega
    subst e2
    exact .inl ⟨by show (tx l).cps.size ≤ _; rw [hsz]; exact Nat.le_refl _, hd _ _ hp⟩
end
/-! ### enumerate(tuple) -/
theorem new_enum1 {v : Value} {o : Obj} {S : Heap → Prop} (B : Begins v o S) : Meets (Builtin.«enumerate.__new__» ⟨[.type "enumerate", v], []⟩) (fun _ R s => S s.heap ∧
    R (.ok (.ret (.ref (s.heap.push o).objs.size))) { s with heap := (s.heap.push o).push { cls := .type "enumerate", data := .fields #[.none, .bool false, .ref s.heap.objs.size, rawInt 0, .none, .none] } }) := by
  refine .of_wp fun prog w A R s h => ?_
  obtain ⟨hp, g, d, tk, os⟩ := s
  obtain ⟨hS, hR⟩ := h
  have sub := sub_enumerate
  have go : ∀ {A' : Around} {E : Value → Shared → Prop} {Q : Value → Shared → Prop}, Q (.ref hp.objs.size) ⟨hp.push o, g, d, tk, os⟩ → wpAny (model prog w) A' (pyIter v) Q E ⟨hp, g, d, tk, os⟩ := fun q => B.iter prog w _ _ _ _ hS q
  wp_walk using go
  refine wpAny_stack_any fun st => wpAny_pure ?_
  split
  · rename_i c _ _ _ _ _
    cases (c == Value.type "enumerate") <;> (wp_walk using go; exact ⟨_, rfl, hR⟩)
  · wp_walk using go
    exact ⟨_, rfl, hR⟩
/-- enumerate(t), t a tuple, has come -/
theorem call_enumT {prog : Program} {w : World} {A : Around} {E : Value → Shared → Prop} {s : Shared} {t : Addr} {items : Array Value} {Q : Value → Shared → Prop} (hT : s.heap.IsTuple t items)
    (h : ∀ h1, IsEnum h1 (s.heap.objs.size + 1) s.heap.objs.size 0 .none → h1.IsTupleIter s.heap.objs.size t 0 → (∀ c o, s.heap.get? c = some o → h1.get? c = some o) → Q (.ref (s.heap.objs.size + 1)) { s with heap := h1 }) :
    wpAny (model prog w) A (call (.type "enumerate") [.ref t]) Q E s := by
  refine callType_new F.called_enumerate (by decide) (F.typeCall_enumerate_1 _) (F.newCall_enumerate_1 _) (fun ob => F.args_object_init_2 ob _) F.entry_enumerate_new (new_enum1 (begins_tuple t items)) ⟨hT, ?_⟩
  have sz : (s.heap.push { cls := .type "tuple_iterator", data := .fields #[.ref t, .int 0 0] }).objs.size = s.heap.objs.size + 1 := Heap.size_push ..
  show _ ∧ _
  rw [sz]
  have mk := Heap.get?_push_size (s.heap.push { cls := .type "tuple_iterator", data := .fields #[.ref t, .int 0 0] }) (o := { cls := .type "enumerate", data := .fields #[.none, .bool false, .ref s.heap.objs.size, rawInt 0, .none, .none] }) rfl
  rw [sz] at mk
  exact ⟨⟨_, mk, rfl⟩, h _ mk ⟨_, Heap.get?_push_of_some _ (Heap.get?_push_size _ rfl), rfl, rfl⟩ fun c o z => Heap.get?_push_of_some _ (Heap.get?_push_of_some _ z)⟩
def IteT (K : PySem.W.Frag) (t : Addr) : It where
  go := fun n G => ∃ xs x, SqT K G t xs ∧ xs[n]? = some x
  yld := fun n G v G' => ∃ T x, v = .ref T ∧ G T = none ∧ G' = upd G T (.tup [.int (n : Nat), x]) ∧ ∀ xs, SqT K G t xs → xs[n]? = some x
  stop := fun n G => ∃ xs, SqT K G t xs ∧ xs.length = n
/-- where the enumerate object at a and the tuple's iterator at b stand behind n turns -/
def AtT (t a b : Addr) (n : Nat) (h : Heap) : Prop := a ≠ b ∧ t ≠ a ∧ t ≠ b ∧ h.IsTupleIter b t n ∧ ∃ u, IsEnum h a b ((n : Nat) : Int) u
theorem pairT {P : Program} {w : World} {H : Hp} {h : Heap} {T n : Nat} {x : V} {tk : Tok} {u : Value} (r : RelV x u) (e : h.get? T = some { cls := .type "tuple", data := .seq #[.int (n : Nat) tk, u] }) : ObjOk P w H h T (.tup [.int (n : Nat), x]) := by
  refine ⟨show 2 ≤ sizeLine by decide, _, ?_, ⟨_, e, rfl, _, rfl⟩⟩
  exact .cons ⟨_, rfl⟩ (.cons r .nil)
theorem turn_enumT {P : Program} {w : World} {K : PySem.W.Frag} {elts : List Expr} {kk : Nat} {tpos : Pos} (t a b : Addr) : L2.Turn P w K (.Tuple elts kk tpos) (IteT K t) [a, b] a (AtT t a b) := by
  refine ⟨by simp, fun n h q c hc => ?_, fun n h h' q k => ?_, ?_, ?_, fun A n s Q E q r => ?_⟩
  · obtain ⟨_, _, _, ⟨ob, g1, _, g3⟩, u, g4⟩ := q
    rcases two_mem hc with rfl | rfl
    · exact ⟨_, g4, fun _ z => nomatch z⟩
    · exact ⟨ob, g1, fun _ z => by rw [g3] at z; cases z⟩
  · obtain ⟨q1, q2, q2', ⟨ob, g1, g2⟩, u, g4⟩ := q
    exact ⟨q1, q2, q2', ⟨ob, k b (by simp) ob g1, g2⟩, u, k a (by simp) _ g4⟩
  · intro X eP ew eK calm n pins s σ H E I hf q hgo
    cases eP
    cases ew
    cases eK
    obtain ⟨q1, q2, q2', q3, u, q4⟩ := q
    obtain ⟨xs, x, hq, hx⟩ := hgo
    obtain ⟨its, rv, tp, _⟩ := I.tuple hq
    obtain ⟨y, hy, ry⟩ := rv.get hx
    have hn : n < its.toArray.size := by
      have := (List.getElem?_eq_some_iff.mp hy).1
      simpa using this
    have la : a < s.heap.objs.size := Heap.lt_size q4
    have lb : b < s.heap.objs.size := by
      obtain ⟨_, z, _⟩ := q3
      exact Heap.lt_size z
    refine wpAny_pyNext_enum_itemD (Draws.tuple (A := X.A.in1) (I.ok.hd calm) b t q2' its.toArray) q4 ⟨q3, tp⟩ hn q1 (fun z => (two_mem z).elim (fun z => q1 z) fun z => q2 z.symm) fun v h1 tk hv out q5 hT hz hk => ?_
    have hvy : v = y := by
      have z : its[n]? = some v := by simpa using hv
      rw [hy] at z
      exact (Option.some.inj z).symm
    subst hvy
    refine ⟨_, rfl, wpAny_letOwnedTupleGo_enum (s := ⟨h1, s.gens, s.drawn, tk + 1, s.os⟩) out fun h2 back sb => ?_⟩
    have far : ∀ d o, d ∉ [a, b] → s.heap.get? d = some o → h2.get? d = some o := fun d o hd z => by
      have n1 : d ≠ a := fun y => hd (by rw [y]; simp)
      have n2 : d ≠ b := fun y => hd (by rw [y]; simp)
      exact (sb.2 d n1).trans (hk d o n1 n2 z)
    have pT := (sb.2 _ (Nat.ne_of_gt la)).trans hT
    have J := I.turnedNew (t' := tk + 1) (ch := [a, b]) far hf (Nat.le_refl _) (pairT (P := X.prog) (w := X.w) (H := upd H s.heap.objs.size (.tup [.int (n : Nat), x])) ry pT)
    refine ⟨.ref s.heap.objs.size, _, J, rfl, ⟨_, x, rfl, I.hok.fresh (Nat.le_refl _), rfl, fun ys hys => by rw [I.tuple_inj hys hq]; exact hx⟩, ⟨q1, q2, q2', ?_, v, ?_⟩, fun d hd => ?_⟩
    · obtain ⟨⟨ob, g1, g2⟩, _⟩ := q5
      exact ⟨ob, (sb.2 b q1.symm).trans g1, g2⟩
    · rw [show (((n + 1 : Nat)) : Int) = (n : Int) + 1 from by omega]
      exact back
    · have ld : d < s.heap.objs.size := by
        rcases two_mem hd with rfl | rfl
        · exact la
        · exact lb
      rw [upd_ne (Nat.ne_of_lt ld)]
      exact (hf d hd).1
  · intro X eP ew eK calm n pins s σ H E I hf q hst
    cases eP
    cases ew
    cases eK
    obtain ⟨q1, q2, q2', q3, u, q4⟩ := q
    obtain ⟨xs, hq, hx⟩ := hst
    obtain ⟨its, rv, tp, _⟩ := I.tuple hq
    have en : its.toArray.size = n := by
      have := rv.length
      simp
      omega
    rw [← en] at q3
    obtain ⟨z0, z1, _, z3, z4, z5⟩ := hf b (by simp)
    exact wpAny_pyNext_enum_endD (Draws.tuple (A := X.A.in1) (I.ok.hd calm) b t q2' its.toArray) q4 ⟨q3, tp⟩ fun h1 k => ⟨rfl, I.turned (t' := s.toks) (fun c o hc e => k c o hc e) z0 z1 z3 z4 z5⟩
  · obtain ⟨_, _, _, _, u, q4⟩ := q
    exact wpAny_pyIter_enum q4 r
def iEnumT (K : PySem.W.Frag) (ta : TA) : TI := fun σ H R => ta σ H fun vs H1 => ∃ t xs, vs = [.ref t] ∧ SqT K H1 t xs ∧ R (IteT K t) H1
theorem pi_enumT {X : Cx} {e : Expr} {ta : TA} {p pos tpos : Pos} {elts : List Expr} {kk : Nat} (g : Gl X "enumerate") (m : X.mg "enumerate" = none) (ha : PA X [e] ta) (st : starEach [e] X.env = [(false, eval e X.env)] := by rfl) : PI X (.Tuple elts kk tpos) (.Call (.Name "enumerate" p) [e] [] pos) (iEnumT X.K ta) := by
  constructor
  intro pins s σ H R I h
  refine Call_ (ld_blt I g m boot_enumerate (PyProof.Rows.callWith_type1 (thn (ha.run pos pins s σ H _ I h) fun us s1 hh => ?_) st rfl))
  obtain ⟨vs, H1, I1, rv, t, xs, rfl, hq, q⟩ := hh
  obtain ⟨u, rfl, r⟩ := vals1 rv
  obtain rfl : u = Value.ref t := r
  obtain ⟨its, rt, tp, _⟩ := I1.tuple hq
  have lt : t < s1.heap.objs.size := by
    obtain ⟨_, z, _⟩ := tp
    exact Heap.lt_size z
  refine call_enumT tp fun h1 mk it hk => wpAny_pyIter_enum mk ?_
  refine ⟨_, [s1.heap.objs.size + 1, s1.heap.objs.size], _, _, H1, rfl, I1.kept (t' := s1.toks) hk, turn_enumT t _ _, ⟨Nat.succ_ne_self _, Nat.ne_of_lt (Nat.lt_succ_of_lt lt), Nat.ne_of_lt lt, it, .none, mk⟩, fun c hc => ?_, q⟩
  have lc : s1.heap.objs.size ≤ c := by
    rcases two_mem hc with rfl | rfl
    · exact Nat.le_succ _
    · exact Nat.le_refl _
  exact I1.fpOk lc (I1.hok.fresh lc)
section
variable {X : Cx} {e : Expr} {σ : L2.St} {H : Hp} {Q : VK} {pos : Pos} {v : V} {G : Gb} {N : List Str} {sc scope : Scope} {k : Nat} {tg elt : Expr} {ifs : List Expr} {vs : List Nat}
/-- a comprehension over enumerate(tuple) -/
def LcET (X : Cx) (G : Gb) (N : List Str) (sc scope : Scope) (k : Nat) (tg elt : Expr) (ifs : List Expr) (vs : List Nat) (σ : L2.St) (y : List V) (H1 : Hp) (Q : VK) : Prop :=
  ∃ (t : Addr) (xs : List V), y = [.ref t] ∧ SqT G.K H1 t xs ∧ ∀ L, H1 L = none → ∃ Pv : Nat → Hp → Prop, Pv 0 (upd H1 L (.lst [])) ∧ (∀ i H, i ≤ xs.length → Pv i H → SqT G.K H t xs) ∧
    (∀ i x H T, xs[i]? = some x → Pv i H → H T = none → Wx.Turn X G N sc scope k tg elt ifs vs σ (.ref T) (upd H T (.tup [.int (i : Nat), x])) fun o H4 => match o with
      | some y => ∃ acc, H4 L = some (.lst acc) ∧ acc.length < sizeLine ∧ Pv (i + 1) (upd H4 L (.lst (acc ++ [y])))
      | none => Pv (i + 1) H4) ∧ ∀ H, Pv xs.length H → Q (.ref L) H
theorem lcET_core (d : Def X G N sc k) (h : WA X [e] σ H fun y H1 => LcET X G N sc scope k tg elt ifs vs σ y H1 Q) :
    tLc (iEnumT X.K (WA X [e])) (fun v σ H R => Blk X G N sc scope k fun X' => WG X' tg v σ H R) (fun σ H R => Blk X G N sc scope k fun X' => WTs X' ifs σ H R) (fun σ H R => Blk X G N sc scope k fun X' => WE X' elt σ H R) vs σ H Q := by
  show WA X [e] σ H _
  refine wa_mono (fun y H1 q => ?_) h
  obtain ⟨t, xs, ey, hq, q⟩ := q
  rw [d.K]
  refine ⟨t, xs, ey, hq, fun L hL => ?_⟩
  obtain ⟨Pv, h0, hk, hst, hd⟩ := q L hL
  refine ⟨fun i m H => m = xs.length - i ∧ i ≤ xs.length ∧ Pv i H, ⟨xs.length, rfl, Nat.zero_le _, h0⟩, ?_⟩
  rintro i m H2 ⟨rfl, hi, hp⟩
  have hq2 := hk i H2 hi hp
  by_cases hlt : i < xs.length
  · refine .inr ⟨⟨xs, xs[i], hq2, List.getElem?_eq_getElem hlt⟩, Pv (i + 1), fun H' p' => ⟨_, by omega, rfl, hlt, p'⟩, fun x H' y => ?_⟩
    obtain ⟨T, x, rfl, hT, rfl, hx⟩ := y
    exact hst i x _ T (hx xs hq2) hp hT
  · have e2 : i = xs.length := by omega
    subst e2
    exact .inl ⟨⟨xs, hq2, rfl⟩, hd _ hp⟩
theorem we_lcET (d : Def X G N sc k) {elts : List Expr} {kk : Nat} {tpos rp rp2 : Pos} (own : List (Str × Nat)) (ok : blkC N sc scope own = true) (hg : glB sc "enumerate" = true) (hm : G.mg "enumerate" = none)
    (hs : ∀ x, foldedSetIterable (.Call (.Name "enumerate" rp) [e] [] rp2) X.env x = pure x) (ha : ns e = true)
    (h : WA X [e] σ H fun y H1 => LcET X G N sc scope k (.Tuple elts kk tpos) elt ifs (own.map (·.2)) σ y H1 Q) : WE X (.ListComp elt [⟨.Tuple elts kk tpos, (.Call (.Name "enumerate" rp) [e] [] rp2), ifs, 0⟩] scope pos) σ H Q :=
  we_of (pe_lcW d (pi_enumT (d.gl hg) (by rw [d.mg]; exact hm) pa_wa (star_ns ha)) (blkOk_by ok) hs) (lcET_core d h)
end
end Wx

/-! Comprehensions and loops over range(a, b). -/
namespace Wx
open PySem L2
section
variable {X : Cx} {a b : Expr} {σ : L2.St} {H : Hp} {Q : VK} {D : Ends} {pos p : Pos} {G : Gb} {N : List Str} {sc scope : Scope} {k : Nat} {W : WX} {tg elt : Expr} {ifs : List Expr} {vs : List Nat}
/-- a comprehension over range(lo, j) -/
def LcR2 (X : Cx) (G : Gb) (N : List Str) (sc scope : Scope) (k : Nat) (tg elt : Expr) (ifs : List Expr) (vs : List Nat) (σ : L2.St) (ys : List V) (H1 : Hp) (Q : VK) : Prop :=
  ∃ lo j : Int, ys = [.int lo, .int j] ∧ (-(2 ^ 62) ≤ lo ∧ lo < 2 ^ 62 ∧ -(2 ^ 62) ≤ j ∧ j < 2 ^ 62) ∧ ∀ L, H1 L = none → ∃ Pv : Nat → Hp → Prop, Pv 0 (upd H1 L (.lst [])) ∧
    (∀ (i : Nat) H, i < (j - lo).toNat → Pv i H → Turn X G N sc scope k tg elt ifs vs σ (.int (lo + i)) H fun o H4 => match o with
      | some y => ∃ acc, H4 L = some (.lst acc) ∧ acc.length < sizeLine ∧ Pv (i + 1) (upd H4 L (.lst (acc ++ [y])))
      | none => Pv (i + 1) H4) ∧ ∀ H, Pv (j - lo).toNat H → Q (.ref L) H
theorem lcR2_core (d : Def X G N sc k) (h : WA X [a, b] σ H fun ys H1 => LcR2 X G N sc scope k tg elt ifs vs σ ys H1 Q) :
    tLc (iRng2 (WA X [a, b])) (fun v σ H R => Blk X G N sc scope k fun X' => WG X' tg v σ H R) (fun σ H R => Blk X G N sc scope k fun X' => WTs X' ifs σ H R) (fun σ H R => Blk X G N sc scope k fun X' => WE X' elt σ H R) vs σ H Q := by
  show WA X [a, b] σ H _
  refine wa_mono (fun ys H1 q => ?_) h
  obtain ⟨lo, j, ey, hb, q⟩ := q
  refine ⟨lo, j, ey, hb, fun L hL => ?_⟩
  obtain ⟨Pv, h0, hst, hd⟩ := q L hL
  refine ⟨fun i m H => m = (j - lo).toNat - i ∧ i ≤ (j - lo).toNat ∧ Pv i H, ⟨_, rfl, Nat.zero_le _, h0⟩, ?_⟩
  rintro i m H2 ⟨rfl, hi, hp⟩
  by_cases hlt : i < (j - lo).toNat
  · refine .inr ⟨hlt, Pv (i + 1), fun H' p' => ⟨_, by omega, rfl, hlt, p'⟩, fun x H' y => ?_⟩
    obtain ⟨rfl, rfl⟩ := y
    exact hst i _ hlt hp
  · have e2 : i = (j - lo).toNat := by omega
    subst e2
    exact .inl ⟨Nat.le_refl _, hd _ hp⟩
theorem we_lcR2 (d : Def X G N sc k) {rp rp2 : Pos} (own : List (Str × Nat)) (ok : blkC N sc scope own = true) (hg : glB sc "range" = true) (hm : G.mg "range" = none)
    (hs : ∀ x, foldedSetIterable (.Call (.Name "range" rp) [a, b] [] rp2) X.env x = pure x) (ha : ns a = true) (hb : ns b = true)
    (h : WA X [a, b] σ H fun ys H1 => LcR2 X G N sc scope k tg elt ifs (own.map (·.2)) σ ys H1 Q) : WE X (.ListComp elt [⟨tg, (.Call (.Name "range" rp) [a, b] [] rp2), ifs, 0⟩] scope pos) σ H Q :=
  we_of (pe_lcW d (pi_range2 (d.gl hg) (by rw [d.mg]; exact hm) pa_wa (by rw [star_ns ha, star_ns hb]; rfl) (by rw [star_ns hb]; rfl)) (blkOk_by ok) hs) (lcR2_core d h)
theorem lcR2_map {lo j : Int} {n : Nat} (f : Nat → Option V) (ej : (j - lo).toNat = n) (hb : -(2 ^ 62) ≤ lo ∧ lo < 2 ^ 62 ∧ -(2 ^ 62) ≤ j ∧ j < 2 ^ 62) (hn : n < 100000)
    (turn : ∀ i, i < n → ∀ H', Same H H' → ∀ R : Option V → Hp → Prop, (∀ H2, Same H' H2 → R (f i) H2) → Turn X G N sc scope k tg elt ifs vs σ (.int (lo + i)) H' R)
    (fin : ∀ L H', H L = none → Same H H' → H' L = some (.lst ((List.range n).filterMap f)) → Q (.ref L) H') : LcR2 X G N sc scope k tg elt ifs vs σ [.int lo, .int j] H Q := by
  refine ⟨lo, j, rfl, hb, fun L hL => ⟨fun i H' => Same H H' ∧ H' L = some (.lst (((List.range n).take i).filterMap f)), ⟨same_new hL, upd_same⟩, fun i H' hi h => ?_, fun H' h => ?_⟩⟩
  · rw [ej] at hi
    have hx : (List.range n)[i]? = some i := by rw [List.getElem?_range hi]
    exact turn i hi H' h.1 (Done (List.range n) f H L i) (done hL hx (by rw [List.length_range]; exact hn) h.1 h.2)
  · obtain ⟨h1, h2⟩ := h
    rw [ej, List.take_of_length_le (by rw [List.length_range]; exact Nat.le_refl _)] at h2
    exact fin L H' hL h1 h2
end
end Wx

/-! Tuples cut and joined within a frame; a list held against an empty one; a local that holds a def, called. -/
namespace Wx
open PySem L2
section
variable {X : Cx} {σ : L2.St} {H H0 : Hp} {Q : VK} {G : Gb} {N : List Str} {sc : Scope} {k : Nat} {Fm : Hp → Hp → Prop} {a c : Addr} {xs ys : List V} {lo hi : Option Int}
/-- t[lo:hi] within a frame -/
theorem rsl_tupF (d : Def X G N sc k) (F : Frm Fm) (A : Fm H0 H) (h : SqT G.K H0 a xs)
    (q : ∀ p H0' H', Same H0 H0' → Fm H0' H' → SqT G.K H0' p (cutV xs lo hi) → Q (.ref p) H') : RSl X (.ref a) lo hi H Q := by
  refine ⟨_, sl_tupA, a, xs, rfl, by rw [d.K]; exact (F.same A).tup h, fun hw => q a H0 H (Same.refl _) A ?_, fun _ p hp => q p _ _ (same_new ((F.same A).free hp)) (F.laid A hp) (SqT.of upd_same)⟩
  have e : cutV xs lo hi = xs := by
    unfold cutV
    rw [hw.1, hw.2, List.drop_zero, Nat.sub_zero, List.take_length]
  rw [e]
  exact h
/-- t + u within a frame -/
theorem ro_catF (d : Def X G N sc k) (F : Frm Fm) (A : Fm H0 H) (ha : SqT G.K H0 a xs) (hc : SqT G.K H0 c ys) (hl : xs.length + ys.length ≤ sizeLine)
    (q : ∀ p H0' H', Same H0 H0' → Fm H0' H' → SqT G.K H0' p (xs ++ ys) → Q (.ref p) H') : RO X (binaryOp .Add) (.ref a) (.ref c) H Q := by
  refine ⟨_, op_catA, a, c, xs, ys, rfl, rfl, by rw [d.K]; exact (F.same A).tup ha, by rw [d.K]; exact (F.same A).tup hc, hl, fun e => q c H0 H (Same.refl _) A ?_, fun _ e => q a H0 H (Same.refl _) A ?_, fun _ _ p hp => q p _ _ (same_new ((F.same A).free hp)) (F.laid A hp) (SqT.of upd_same)⟩
  · rw [e]
    exact hc
  · rw [e, List.append_nil]
    exact ha
theorem ro_notInD {X : Cx} {G : Gb} {N : List Str} {sc : Scope} {k : Nat} {H : Hp} {Q : VK} {x y : V} {dx : PyData} {ds : List PyData} (d : Def X G N sc k) (h1 : Dp G.K H x dx) (h2 : Dp G.K H y (.list ds)) (s1 : SeqAt.shaped dx = true) (s2 : SeqAt.shaped (.list ds) = true)
    (q : Q (.bl (!ds.any fun z => PyData.eqv z dx)) H) : RO X (compareOp .NotIn) x y H Q :=
  ⟨_, op_notInD (by have := d.room.un; omega), dx, ds, by rw [d.K]; exact h1, by rw [d.K]; exact h2, s1, s2, q⟩
theorem cut_to (xs : List V) (n : Nat) : cutV xs none (some (n : Int)) = xs.take n := by
  unfold cutV
  rw [HT.sIx_none, HT.sIx_nat, List.drop_zero, Nat.sub_zero]
  by_cases h : n ≤ xs.length
  · rw [Nat.min_eq_left h]
  · rw [Nat.min_eq_right (by omega), List.take_length, List.take_of_length_le (by omega)]
theorem cut_from (xs : List V) (n : Nat) : cutV xs (some (n : Int)) none = xs.drop n := by
  unfold cutV
  rw [HT.sIx_none, HT.sIx_nat]
  by_cases h : n ≤ xs.length
  · rw [Nat.min_eq_left h, List.take_of_length_le (by rw [List.length_drop]; omega)]
  · rw [Nat.min_eq_right (by omega), Nat.sub_self, List.take_zero, List.drop_of_length_le (by omega)]
theorem sIx_neg (n d : Nat) : HT.sIx n d (some (-1)) = n - 1 := by
  show (if (-1 : Int) < 0 then ((-1 : Int) + (n : Int)).toNat else min (-1 : Int).toNat n) = n - 1
  rw [if_pos (by decide)]
  omega
theorem cut_toNeg (xs : List V) : cutV xs none (some (-1)) = xs.take (xs.length - 1) := by
  unfold cutV
  rw [HT.sIx_none, sIx_neg, List.drop_zero, Nat.sub_zero]
theorem cut_fromNeg (xs : List V) : cutV xs (some (-1)) none = xs.drop (xs.length - 1) := by
  unfold cutV
  rw [HT.sIx_none, sIx_neg, List.take_of_length_le (by rw [List.length_drop]; omega)]
/-- xs == [], whatever xs holds -/
theorem op_eqEmpty (hu : X.A.units + 64 < cLine) : OpR X (compareOp .Eq) (fun x y H Q => ∃ a c xs, x = .ref a ∧ y = .ref c ∧ SqL X.K H a xs ∧ SqL X.K H c [] ∧ Q (.bl xs.isEmpty) H) := by
  intro pins s σ H x y v u Q I rx ry h
  obtain ⟨a, c, xs, rfl, rfl, ha, hc, q⟩ := h
  cases (show v = Value.ref a from rx)
  cases (show u = Value.ref c from ry)
  obtain ⟨us, r1, p1, _⟩ := I.list ha
  obtain ⟨ws, r2, p2, _⟩ := I.list hc
  cases r2
  cases xs with
  | nil =>
    cases r1
    exact PySem.SeqAt.eq_listAt (e := fun _ => true) p1.isList p2.isList rfl (by omega) (fun j h1 h2 => by simp at h1) ⟨.bl true, H, I, rfl, q⟩
  | cons x xs =>
    cases r1
    exact PySem.SeqAt.eq_list_lengthsAt p1.isList p2.isList (by simp) (by omega) ⟨.bl false, H, I, rfl, q⟩
theorem ro_eqEmpty (d : Def X G N sc k) (h : SqL G.K H a xs) (h2 : SqL G.K H c []) (q : Q (.bl xs.isEmpty) H) : RO X (compareOp .Eq) (.ref a) (.ref c) H Q :=
  ⟨_, op_eqEmpty (by have := d.room.un; omega), a, c, xs, rfl, rfl, by rw [d.K]; exact h, by rw [d.K]; exact h2, q⟩
/-! ### cells that change, over a heap that stays -/
def Over (f : Hp) (H0 H : Hp) : Prop := ∀ b, match f b with
  | none => H b = H0 b
  | some o => H0 b = none ∧ H b = some o
variable {f : Hp} {p : Addr} {o o' : HO}
def no : Hp := fun _ => none
theorem over_nil : Over no H H := fun _ => rfl
theorem Over.some (A : Over f H0 H) (e : f p = some o) : H0 p = none ∧ H p = some o := by
  have := A p
  rw [e] at this
  exact this
theorem Over.get (A : Over f H0 H) (e : f p = Option.some o) : H p = Option.some o := (A.some e).2
theorem Over.none (A : Over f H0 H) (e : f p = none) : H p = H0 p := by
  have := A p
  rw [e] at this
  exact this
theorem Over.same (A : Over f H0 H) : Same H0 H := fun b u e => by
  cases h : f b with
  | none => rw [A.none h]; exact e
  | some o =>
    rw [(A.some h).1] at e
    cases e
theorem Over.free (A : Over f H0 H) (e : H p = Option.none) : f p = Option.none ∧ H0 p = Option.none := by
  cases h : f p with
  | none => exact ⟨rfl, by rw [← A.none h]; exact e⟩
  | some o =>
    rw [A.get h] at e
    cases e
theorem frm_over : Frm (Over f) := ⟨fun {H0 H p o} A hp b => by
  obtain ⟨h1, h2⟩ := A.free hp
  by_cases hb : b = p
  · subst hb
    rw [h1]
    show upd H b o b = upd H0 b o b
    rw [upd_same, upd_same]
  · have := A b
    rw [upd_ne hb, upd_ne hb]
    exact this, fun A => A.same⟩
theorem Over.new (A : Over f H0 H) (e : H p = Option.none) : Over (upd f p o) H0 (upd H p o) := fun b => by
  obtain ⟨h1, h2⟩ := A.free e
  by_cases hb : b = p
  · subst hb
    rw [upd_same]
    exact ⟨h2, upd_same⟩
  · have := A b
    rw [upd_ne hb, upd_ne hb]
    exact this
theorem Over.put (A : Over f H0 H) (e : f p = Option.some o) : Over (upd f p o') H0 (upd H p o') := fun b => by
  by_cases hb : b = p
  · subst hb
    rw [upd_same]
    exact ⟨(A.some e).1, upd_same⟩
  · have := A b
    rw [upd_ne hb, upd_ne hb]
    exact this
/-! ### dicts with text keys -/
theorem op_inDict (hu : X.A.units + 1 < cLine) : OpR X (compareOp .In) (fun x y H Q => ∃ a o, y = .ref a ∧ DGet H a x o ∧ Q (.bl o.isSome) H) := by
  intro pins s σ H x y v u Q I rx ry h
  obtain ⟨a, o, rfl, g, q⟩ := h
  cases (show u = Value.ref a from ry)
  exact d_in hu I g rx fun s3 I3 => ⟨.bl o.isSome, H, I3, rfl, q⟩
theorem op_notInDict (hu : X.A.units + 1 < cLine) : OpR X (compareOp .NotIn) (fun x y H Q => ∃ a o, y = .ref a ∧ DGet H a x o ∧ Q (.bl (!o.isSome)) H) := by
  intro pins s σ H x y v u Q I rx ry h
  obtain ⟨a, o, rfl, g, q⟩ := h
  cases (show u = Value.ref a from ry)
  exact d_notIn hu I g rx fun s3 I3 => ⟨.bl (!o.isSome), H, I3, rfl, q⟩
theorem ro_inDict (d : Def X G N sc k) {z : Str} {kvs : List (Key × V)} (h : H a = some (.dK kvs)) (q : Q (.bl (valV kvs (Sum.inr z)).isSome) H) : RO X (compareOp .In) (.str z) (.ref a) H Q :=
  ⟨_, op_inDict d.hu, a, valV kvs (Sum.inr z), rfl, DGet.k (k := Sum.inr z) h, q⟩
theorem ro_notInDict (d : Def X G N sc k) {z : Str} {kvs : List (Key × V)} (h : H a = some (.dK kvs)) (q : Q (.bl (!(valV kvs (Sum.inr z)).isSome)) H) : RO X (compareOp .NotIn) (.str z) (.ref a) H Q :=
  ⟨_, op_notInDict d.hu, a, valV kvs (Sum.inr z), rfl, DGet.k (k := Sum.inr z) h, q⟩
/-- the values of a display, from the left -/
def WD (X : Cx) : List (Str × Expr) → L2.St → Hp → (List (Key × V) → Hp → Prop) → Prop
  | [], _, H, Q => Q [] H
  | (z, e) :: r, σ, H, Q => WE X e σ H fun v H1 => WD X r σ H1 fun kvs H2 => Q ((Sum.inr z, v) :: kvs) H2
theorem wd_nil {QD : List (Key × V) → Hp → Prop} (q : QD [] H) : WD X [] σ H QD := q
theorem wd_cons {QD : List (Key × V) → Hp → Prop} {z : Str} {e : Expr} {r : List (Str × Expr)} (h : WE X e σ H fun v H1 => WD X r σ H1 fun kvs H2 => QD ((Sum.inr z, v) :: kvs) H2) : WD X ((z, e) :: r) σ H QD := h
def strKeys : List (Option Expr) → List Expr → Option (List (Str × Expr))
  | [], [] => some []
  | Option.some (.Constant (.str z) _ _) :: ks, e :: es => (strKeys ks es).map fun r => (z, e) :: r
  | _, _ => none
theorem wd_mono {Q1 Q2 : List (Key × V) → Hp → Prop} : ∀ {ps : List (Str × Expr)} {H : Hp}, (∀ kvs H', Q1 kvs H' → Q2 kvs H') → WD X ps σ H Q1 → WD X ps σ H Q2
  | [], _, h, q => h _ _ q
  | (z, e) :: r, _, h, q => we_mono (fun v H1 q => wd_mono (fun kvs H2 q => h _ _ q) q) q
theorem pps_strs {pos : Pos} : ∀ {ks : List (Option Expr)} {es : List Expr} {ps : List (Str × Expr)}, strKeys ks es = some ps → ∃ trs, PPs X pos ks es trs ∧ ks.all (·.isSome) = true ∧ ks.length = es.length ∧ ks.length = ps.length ∧
    ∀ (σ : L2.St) (H : Hp) (QD : List (V × V) → Hp → Prop), WD X ps σ H (fun kvs H2 => kvs.length = ps.length → QD (kvs.map fun kv => (kV kv.1, kv.2)) H2) → tPairs trs σ H QD
  | [], [], _, h => by
    cases h
    exact ⟨[], pps_nil, rfl, rfl, rfl, fun σ H QD q => q rfl⟩
  | [], _ :: _, _, h => by cases h
  | none :: _, _, _, h => by cases h
  | Option.some (.Constant (.str z) j p) :: ks, e :: es, ps, h => by
    have h : (strKeys ks es).map (fun r => (z, e) :: r) = some ps := h
    cases hr : strKeys ks es with
    | none => rw [hr] at h; cases h
    | some r =>
      rw [hr] at h
      cases h
      obtain ⟨trs, P, a1, a2, a3, a4⟩ := pps_strs (pos := pos) hr
      refine ⟨_ :: trs, pps_cons pe_str pe_we P, by rw [List.all_cons, a1]; rfl, by rw [List.length_cons, List.length_cons, a2], by rw [List.length_cons, List.length_cons, a3], fun σ H QD q => ?_⟩
      show WE X e σ H fun y H2 => tPairs trs σ H2 fun ps H3 => QD ((.str z, y) :: ps) H3
      refine we_mono (fun v H1 q => a4 σ H1 _ (wd_mono (fun kvs H2 q hl => ?_) q)) q
      exact q (by rw [List.length_cons, List.length_cons, hl])
  | Option.some (.Constant (.str z) j p) :: ks, [], ps, h => by cases h
  | Option.some (.Constant (.int _) _ _) :: _, _, _, h => by cases h
theorem we_disp {ks : List (Option Expr)} {es : List Expr} {pos : Pos} {ps : List (Str × Expr)} (hk : strKeys ks es = some ps) (h0 : ps ≠ []) (h15 : ps.length ≤ 15)
    (h : ∀ p, H p = none → WD X ps σ (upd H p (.dK [])) fun kvs H2 => H2 p = some (.dK []) ∧ Q (.ref p) (upd H2 p (.dK (mergeK [] kvs)))) : WE X (.Dict ks es pos) σ H Q := by
  obtain ⟨trs, P, a1, a2, a3, a4⟩ := pps_strs (X := X) (pos := pos) hk
  refine we_of (pe_disp P a1 a2 (fun e => h0 ?_) (by rw [a3]; exact h15)) fun p hp => a4 σ _ _ (wd_mono (fun kvs H2 q hl => ⟨q.1, kvs, rfl, by rw [hl]; exact h15, q.2⟩) (h p hp))
  rw [e] at a3
  exact List.eq_nil_of_length_eq_zero a3.symm
theorem mergeK_app : ∀ (more kvs : List (Key × V)), ((kvs ++ more).map (·.1)).Nodup → mergeK kvs more = kvs ++ more
  | [], kvs, _ => (List.append_nil _).symm
  | p :: r, kvs, h => by
    have hn : valV kvs p.1 = none := by
      have h' := h
      rw [List.map_append, List.map_cons, List.nodup_append] at h'
      have hx := h'.2.2
      clear h h'
      induction kvs with
      | nil => rfl
      | cons q kvs ih =>
        rw [valV_neg (fun e => hx q.1 (by simp) p.1 (by simp) e)]
        exact ih fun a ha b hb => hx a (by rw [List.map_cons]; exact List.mem_cons_of_mem _ ha) b hb
    show mergeK (putK kvs p.1 p.2) r = _
    rw [putK_new p.2 hn, mergeK_app r (kvs ++ [(p.1, p.2)]) (by rw [List.append_assoc]; exact h), List.append_assoc]
    rfl
theorem mergeK_nil {kvs : List (Key × V)} (h : (kvs.map (·.1)).Nodup) : mergeK [] kvs = kvs := mergeK_app kvs [] h
theorem wg_sub (d : Def X G N sc k) {a b : Expr} {pos : Pos} {v : V} {R : L2.St → Hp → Prop} (h : WE X a σ H fun x H1 => WE X b σ H1 fun y H2 => ∃ (p : Addr) (H3 : Hp), x = .ref p ∧ DPut H2 p y v H3 ∧ R σ H3)
    (ha : ∀ v, assign (.Subscript a b pos) X.env v = (do
      let ov ← holding [v] (eval a X.env)
      let iv ← holding [v, ov] (eval b X.env)
      standAt pos
      holding [v, ov, iv] (setItem ov iv v)
      release [v, ov, iv] []) := by intro _; rfl) : WG X (.Subscript a b pos) v σ H R := by
  refine wg_of (pg_sub pe_we pe_we (set_dict d.hu) ha) ?_
  show WE X a σ H _
  refine we_mono (fun x H1 q => ?_) h
  show WE X b σ H1 _
  exact we_mono (fun y H2 q => q) q
theorem ws_asgE {W : WX} {D : Ends} {tg e : Expr} {pos : Pos} (d : Fr X G N sc k W) (hs : swapsWithSole [tg] e pos.line X.env = pure false) (hw : ∀ env : Env, swappedStores [tg] e { env with scope := sc } = pure none) (h1 : (assignEach [tg] X.env).map (·.2) = [assign tg X.env]) (h : WE X e σ H fun v H1 => WG X tg v σ H1 D.nx) : WS X (.Assign [tg] e pos) D σ H :=
  ws_asg hs (env_sc (P := fun env => swappedStores [tg] e env = pure none) hw d.sc) h1 h
end
end Wx

/-! d[y] of a told dict, by values. -/
namespace Wx
open PySem PySem.Spec PyProof.Rows L2
section
variable {X : Cx} {H : Hp} {Q : VK} {G : Gb} {N : List Str} {sc : Scope} {k : Nat} {a : Addr} {y v : V}
theorem ix_dget (hu : X.A.units + 1 < cLine) : IxR X (fun x y H Q => ∃ a v, x = .ref a ∧ DGet H a y (some v) ∧ Q v H) := by
  intro value slice pins s σ H x y v u Q I rx ry h hs
  obtain ⟨a, z, rfl, g, q⟩ := h
  cases (show v = Value.ref a from rx)
  have hT := dict_typeIs I g
  unfold subscriptTail
  refine wpAny_bind ?_
  rw [getitemInPython_of_ne hT.not_modules]
  refine wpAny_bind (wpAny_specialOf hT PySem.F.slot_dict_getitem.lookup ?_)
  have fin : wpAny (model X.prog X.w) X.A (subscripted slice false (.ref a) u) (fun r s₃ => wpAny (model X.prog X.w) X.A (letTemporaryGo value (.ref a) r >>= fun _ => pure r) (EP X pins σ Q) X.xe s₃) X.xe s := by
    rw [hs]
    exact wpAny_operating (d_getItem hu I g ry fun w' s' I' rw' => wpAny_bind (wpAny_letTemporaryGo (wpAny_pure ⟨z, H, I', rw', q⟩)))
  first
    | exact wpAny_pure (wpAny_bind fin)
    | exact wpAny_bind (wpAny_pure (wpAny_bind fin))
    | exact wpAny_bind fin
theorem rx_dget (d : Def X G N sc k) (g : DGet H a y (some v)) (q : Q v H) : RX X (.ref a) y H Q := ⟨_, ix_dget d.hu, a, v, rfl, g, q⟩
end
end Wx

/-! Comprehensions within a frame: what the new list holds is told of the frame's own heap. -/
namespace Wx
open PySem L2
structure FrmP (Fm : Hp → Hp → Prop) : Prop extends Frm Fm where
  put : ∀ {H0 H : Hp} {p : Addr} {o o' : HO}, Fm H0 H → H0 p = some o → Fm (upd H0 p o') (upd H p o')
theorem frmp_draw {d : Addr} {B : Nat} : FrmP fun H0 H => DrawAt H0 H d B := { frm_draw with put := fun A hp => A.put hp }
theorem same_put {H0 H : Hp} {p : Addr} {o' : HO} (s : Same H0 H) : Same (upd H0 p o') (upd H p o') := fun b u e => by
  by_cases hb : b = p
  · subst hb
    rw [upd_same] at e ⊢
    exact e
  · rw [upd_ne hb] at e ⊢
    exact s b u e
theorem frmp_same : FrmP Same := { frm_same with put := fun s _ => same_put s }
/-- what stands stays, but that lists may hold other things -/
def Keep (H H' : Hp) : Prop := ∀ b u, H b = some u → H' b = some u ∨ ∃ xs ys, u = .lst xs ∧ H' b = some (.lst ys)
theorem keep_of {H H' : Hp} (s : Same H H') : Keep H H' := fun b u e => .inl (s b u e)
theorem Keep.trans {H H1 H2 : Hp} (a : Keep H H1) (c : Keep H1 H2) : Keep H H2 := fun b u e => by
  rcases a b u e with h | ⟨xs, ys, rfl, h⟩
  · exact c b u h
  · rcases c b _ h with h2 | ⟨_, zs, _, h2⟩
    · exact .inr ⟨xs, ys, rfl, h2⟩
    · exact .inr ⟨xs, zs, rfl, h2⟩
theorem keep_put {H : Hp} {p : Addr} {xs ys : List V} (h : H p = some (.lst xs)) : Keep H (upd H p (.lst ys)) := fun b u e => by
  by_cases hb : b = p
  · subst hb
    rw [h] at e
    cases e
    exact .inr ⟨xs, ys, rfl, upd_same⟩
  · rw [upd_ne hb]
    exact .inl e
section
variable {X : Cx} {σ : L2.St} {H H0 : Hp} {Q : VK} {G : Gb} {N : List Str} {sc scope : Scope} {k : Nat} {tg elt : Expr} {ifs : List Expr} {vs : List Nat} {Fm : Nat → Hp → Hp → Prop} {P : Nat → List V → Hp → Prop}
def DoneF (Pv : Nat → Hp → Prop) (L : Addr) (i : Nat) (o : Option V) (H4 : Hp) : Prop := match o with
  | some y => ∃ acc, H4 L = some (.lst acc) ∧ acc.length < sizeLine ∧ Pv (i + 1) (upd H4 L (.lst (acc ++ [y])))
  | none => Pv (i + 1) H4
/-- the state of such a comprehension -/
def PvF (Fm : Nat → Hp → Hp → Prop) (P : Nat → List V → Hp → Prop) (H0 : Hp) (L : Addr) (i : Nat) (H' : Hp) : Prop := ∃ Hb acc, Same H0 Hb ∧ Fm i Hb H' ∧ Hb L = some (.lst acc) ∧ acc.length ≤ i ∧ P i acc Hb
theorem pvF_zero (F : ∀ i, FrmP (Fm i)) (A : Fm 0 H0 H) (Pk : ∀ i acc Ha Hb, Keep Ha Hb → P i acc Ha → P i acc Hb) (P0 : P 0 [] H0) {L : Addr} (hL : H L = none) : PvF Fm P H0 L 0 (upd H L (.lst [])) := by
  have n := ((F 0).same A).free hL
  exact ⟨upd H0 L (.lst []), [], same_new n, (F 0).laid A hL, upd_same, Nat.le_refl _, Pk _ _ _ _ (keep_of (same_new n)) P0⟩
theorem pvF_step (F : ∀ i, FrmP (Fm i)) (Pk : ∀ i acc Ha Hb, Keep Ha Hb → P i acc Ha → P i acc Hb) {L : Addr} (hL : H0 L = none) {i : Nat} (hi : i < 100000) {acc : List V} {Ha Ha' Hc' : Hp} (s0 : Same H0 Ha) (ha : Ha L = some (.lst acc)) (hl : acc.length ≤ i)
    {y : V} (s : Same Ha Ha') (A : Fm (i + 1) Ha' Hc') (p : P (i + 1) (acc ++ [y]) Ha') : DoneF (PvF Fm P H0 L) L i (some y) Hc' := by
  have h1 := s _ _ ha
  refine ⟨acc, (F (i + 1)).same A _ _ h1, len_lt (by omega), upd Ha' L (.lst (acc ++ [y])), acc ++ [y], same_upd (s0.trans s) hL, (F (i + 1)).put A h1, upd_same, by rw [List.length_append, List.length_singleton]; omega, Pk _ _ _ _ (keep_put h1) p⟩
theorem lcT_frm {α : Type} {a : Addr} {zs : List α} (g : α → V) (F : ∀ i, FrmP (Fm i)) (A : Fm 0 H0 H) (hq : SqT G.K H0 a (zs.map g)) (hn : zs.length < 100000) (Pk : ∀ i acc Ha Hb, Keep Ha Hb → P i acc Ha → P i acc Hb) (P0 : P 0 [] H0)
    (turn : ∀ i z acc Ha Hc, zs[i]? = some z → Same H0 Ha → Fm i Ha Hc → P i acc Ha → ∀ R : Option V → Hp → Prop, (∀ y Ha' Hc', Same Ha Ha' → Fm (i + 1) Ha' Hc' → P (i + 1) (acc ++ [y]) Ha' → R (some y) Hc') → Turn X G N sc scope k tg elt ifs vs σ (g z) Hc R)
    (fin : ∀ L ys H0' H', Same H0 H0' → Fm zs.length H0' H' → H0 L = none → H0' L = some (.lst ys) → P zs.length ys H0' → Q (.ref L) H') : LcT X G N sc scope k tg elt ifs vs σ (.ref a) H Q := by
  refine ⟨a, _, rfl, ((F 0).same A).tup hq, fun L hL => ⟨PvF Fm P H0 L, pvF_zero F A Pk P0 hL, fun i H' _ h => ?_, fun i x H' hx h => ?_, fun H' h => ?_⟩⟩
  · obtain ⟨Hb, acc, s, B, _⟩ := h
    exact (s.trans ((F i).same B)).tup hq
  · obtain ⟨z, hz, rfl⟩ := map_at hx
    obtain ⟨Hb, acc, s, B, h1, h2, h3⟩ := h
    have hi : i < zs.length := (List.getElem?_eq_some_iff.mp hz).1
    exact turn i z acc Hb H' hz s B h3 (DoneF (PvF Fm P H0 L) L i) fun y Ha' Hc' s2 B2 p2 => pvF_step F Pk (((F 0).same A).free hL) (by omega) s h1 h2 s2 B2 p2
  · rw [List.length_map] at h
    obtain ⟨Hb, acc, s, B, h1, h2, h3⟩ := h
    exact fin L acc Hb H' s B (((F 0).same A).free hL) h1 h3
theorem lcL_frm {α : Type} {a : Addr} {zs : List α} (g : α → V) (F : ∀ i, FrmP (Fm i)) (A : Fm 0 H0 H) (hq : SqL G.K H0 a (zs.map g)) (hn : zs.length < 100000) (Pk : ∀ i acc Ha Hb, Keep Ha Hb → P i acc Ha → P i acc Hb) (P0 : P 0 [] H0)
    (turn : ∀ i z acc Ha Hc, zs[i]? = some z → Same H0 Ha → Fm i Ha Hc → P i acc Ha → ∀ R : Option V → Hp → Prop, (∀ y Ha' Hc', Same Ha Ha' → Fm (i + 1) Ha' Hc' → P (i + 1) (acc ++ [y]) Ha' → R (some y) Hc') → Turn X G N sc scope k tg elt ifs vs σ (g z) Hc R)
    (fin : ∀ L ys H0' H', Same H0 H0' → Fm zs.length H0' H' → H0 L = none → H0' L = some (.lst ys) → P zs.length ys H0' → Q (.ref L) H') : LcL X G N sc scope k tg elt ifs vs σ (.ref a) H Q := by
  refine ⟨a, _, rfl, ((F 0).same A).seq hq, fun L hL => ⟨PvF Fm P H0 L, pvF_zero F A Pk P0 hL, fun i H' _ h => ?_, fun i x H' hx h => ?_, fun H' h => ?_⟩⟩
  · obtain ⟨Hb, acc, s, B, _⟩ := h
    exact (s.trans ((F i).same B)).seq hq
  · obtain ⟨z, hz, rfl⟩ := map_at hx
    obtain ⟨Hb, acc, s, B, h1, h2, h3⟩ := h
    have hi : i < zs.length := (List.getElem?_eq_some_iff.mp hz).1
    exact turn i z acc Hb H' hz s B h3 (DoneF (PvF Fm P H0 L) L i) fun y Ha' Hc' s2 B2 p2 => pvF_step F Pk (((F 0).same A).free hL) (by omega) s h1 h2 s2 B2 p2
  · rw [List.length_map] at h
    obtain ⟨Hb, acc, s, B, h1, h2, h3⟩ := h
    exact fin L acc Hb H' s B (((F 0).same A).free hL) h1 h3
theorem lcR_frm {n : Nat} {j : Int} (F : ∀ i, FrmP (Fm i)) (A : Fm 0 H0 H) (ej : j.toNat = n) (b1 : -(2 ^ 62) ≤ j) (hn : n < 100000) (Pk : ∀ i acc Ha Hb, Keep Ha Hb → P i acc Ha → P i acc Hb) (P0 : P 0 [] H0)
    (turn : ∀ i acc Ha Hc, i < n → Same H0 Ha → Fm i Ha Hc → P i acc Ha → ∀ R : Option V → Hp → Prop, (∀ y Ha' Hc', Same Ha Ha' → Fm (i + 1) Ha' Hc' → P (i + 1) (acc ++ [y]) Ha' → R (some y) Hc') → Turn X G N sc scope k tg elt ifs vs σ (.int i) Hc R)
    (fin : ∀ L ys H0' H', Same H0 H0' → Fm n H0' H' → H0 L = none → H0' L = some (.lst ys) → P n ys H0' → Q (.ref L) H') : LcR X G N sc scope k tg elt ifs vs σ (.int j) H Q := by
  have hj : j < 2 ^ 62 := by
    have : (2 : Int) ^ 62 = 4611686018427387904 := by decide
    omega
  refine ⟨j, rfl, b1, hj, fun L hL => ⟨PvF Fm P H0 L, pvF_zero F A Pk P0 hL, fun i H' hi h => ?_, fun H' h => ?_⟩⟩
  · rw [ej] at hi
    obtain ⟨Hb, acc, s, B, h1, h2, h3⟩ := h
    exact turn i acc Hb H' hi s B h3 (DoneF (PvF Fm P H0 L) L i) fun y Ha' Hc' s2 B2 p2 => pvF_step F Pk (((F 0).same A).free hL) (by omega) s h1 h2 s2 B2 p2
  · rw [ej] at h
    obtain ⟨Hb, acc, s, B, h1, h2, h3⟩ := h
    exact fin L acc Hb H' s B (((F 0).same A).free hL) h1 h3
end
end Wx

namespace Wx
open PySem L2
section
variable {X : Cx} {G : Gb} {N : List Str} {sc : Scope} {k : Nat} {W : WX} {σ : L2.St} {H : Hp} {D : Ends} {a b c : Expr} {x y z : Str} {pos : Pos}
theorem ws_par3 (d : Fr X G N sc k W) (i j l : Nat) {px py pz pt : Pos} {kt k2 pt2} (h1 : N[i]? = some x) (h2 : N[j]? = some y) (h3 : N[l]? = some z) (hij : i ≠ j) (hil : i ≠ l) (hjl : j ≠ l) (hx : locB sc x = true) (hy : locB sc y = true) (hz : locB sc z = true)
    (hw : ∀ env : Env, swappedStores [.Tuple [.Name x px, .Name y py, .Name z pz] kt pt] (.Tuple [a, b, c] k2 pt2) { env with scope := sc } = pure (some [x, y, z]))
    (hs : swapsWithSole [.Tuple [.Name x px, .Name y py, .Name z pz] kt pt] (.Tuple [a, b, c] k2 pt2) pos.line X.env = pure false)
    (h : WE X a σ H fun v H1 => WE X b σ H1 fun w H2 => WE X c σ H2 fun u H3 => D.nx (((σ.set i (some v)).set j (some w)).set l (some u)) H3) (sa : ns a = true) (sb : ns b = true) (sc' : ns c = true) : WS X (.Assign [.Tuple [.Name x px, .Name y py, .Name z pz] kt pt] (.Tuple [a, b, c] k2 pt2) pos) D σ H := by
  refine ws_of (ps_par3 (i := i) (j := j) (l := l) (ta := WA X [a, b, c]) d.calm (by rw [d.n]; exact d.nd) (by rw [d.n]; exact h1) (by rw [d.n]; exact h2) (by rw [d.n]; exact h3) hij hil hjl (by rw [d.sc]; exact loc_of hx) (by rw [d.sc]; exact loc_of hy) (by rw [d.sc]; exact loc_of hz) pa_wa
    (env_sc (P := fun env => swappedStores [.Tuple [.Name x px, .Name y py, .Name z pz] kt pt] (.Tuple [a, b, c] k2 pt2) env = pure (some [x, y, z])) hw d.sc) hs) ?_
  show WA X [a, b, c] σ H _
  refine wa_cons sa (we_mono (fun v H1 q => wa_cons sb (we_mono (fun w H2 q => wa_cons sc' (we_mono (fun u H3 q => wa_nil ⟨v, w, u, rfl, q⟩) q)) q)) h)
end
end Wx

/-! A def held by a local name: called with values, called with keywords. -/
namespace Wx
open PySem L2
section
variable {X : Cx} {G : Gb} {N : List Str} {sc : Scope} {k : Nat} {σ : L2.St} {H : Hp} {Q : VK} {e : Expr} {es : List Expr} {x y : Str} {p pos : Pos} {f : Addr}
theorem we_callLoc (d : Def X G N sc k) {n j : Nat} {sp : Sp} (F : Fn G x n j sp) (hj : j ≤ k) (hf : G.mg x = some (.ref f)) (i : Nat) (h1 : N[i]? = some y) (h2 : visB sc y = true) (hs : σ[i]? = some (some (.ref f)))
    (he : ns e = true) (hpl : nss es = true) (h : WA X (e :: es) σ H fun vs H1 => sp vs H1 Q E0) (hd : (y == ("__debug__" : Str)) = false := by decide +kernel) (hc : (y == ("__classdict__" : Str)) = false := by decide +kernel) : WE X (.Call (.Name y p) (e :: es) [] pos) σ H Q := by
  obtain ⟨f', fd, ps, m1, m2, m3, m4, _⟩ := F.is
  have e0 := hf.symm.trans m1
  injection e0 with e0
  injection e0 with e0
  subst e0
  refine we_of (pe_callL (i := i) (f := f) (fd := fd) (ps := ps) (sp := sp) (dvs := []) (ds := []) (E := E0) (k := j) (CX := L2.CX G.prog G.w) ?_ (d.room.mono hj) (by rw [d.n]; exact h1) (by rw [d.sc]; exact vis_of h2) (by rw [d.K]; exact m2) (by rw [d.K]; exact m4) .nil (by rw [← d.prog, ← d.w]; exact passL) pa_wa hd hc (star_ns he) (hpl_ns hpl)) ⟨hs, ?_⟩
  · rw [d.prog, d.w, d.K, d.mg, d.base]
    exact m3
  · show WA X (e :: es) σ H _
    refine wa_mono (fun vs H1 q => ?_) h
    rw [List.append_nil]
    exact q
theorem we_callLocK (d : Def X G N sc k) {ks : List Str} {gV : List V → List V → List V} {kws : List Keyword} {j : Nat} {sp : Sp} (F : FnK G x ks gV j sp) (hj : j ≤ k) (hf : G.mg x = some (.ref f)) (i : Nat) (h1 : N[i]? = some y) (h2 : visB sc y = true) (hs : σ[i]? = some (some (.ref f)))
    (hall : (backToKw pos (keywordEach kws X.env)).all (·.1.isSome) = true) (hks : (backToKw pos (keywordEach kws X.env)).filterMap (·.1) = ks)
    (hpl : ((backTo pos (starEach [] X.env)).any (·.1) || (backToKw pos (keywordEach kws X.env)).any (·.1.isNone)) = false)
    (h : WK X kws σ H fun zs H2 => sp (gV [] zs) H2 Q E0) (hd : (y == ("__debug__" : Str)) = false := by decide +kernel) (hc : (y == ("__classdict__" : Str)) = false := by decide +kernel) : WE X (.Call (.Name y p) [] kws pos) σ H Q := by
  obtain ⟨f', fd, ps, g, m1, m2, m3, m4⟩ := F.is
  have e0 := hf.symm.trans m1
  injection e0 with e0
  injection e0 with e0
  subst e0
  intro pins s I
  have F' : FnOk X.prog X.w X.K X.mg X.base (L2.CX G.prog G.w) j f fd ps sp := by
    rw [d.prog, d.w, d.K, d.mg, d.base]
    exact m3
  refine PySem.wpAny_Call_Name_kw (thn ((pe_var (pos := p) (by rw [d.n]; exact h1) (by rw [d.sc]; exact vis_of h2) hd hc).run pins s σ H (fun v H1 => v = .ref f ∧ H1 = H) I ⟨.ref f, hs, rfl, rfl⟩) fun u s1 ⟨v, H1, I1, r1, q1⟩ => ?_)
  obtain ⟨rfl, rfl⟩ := q1
  cases r1
  refine PySem.W.callWith_KW0 (h₀ := X.base) I.ok.mod.kin (by rw [d.K]; exact m2) hall ?_ hpl
  refine thn (h pos pins s1 I1) fun ws s2 ⟨zs, H2, I2, rz, q2⟩ => ⟨I2.kIn, ?_⟩
  rw [hks]
  exact run_fnk (us := []) (vs := []) F' (d.room.mono hj) (by rw [d.K]; exact m4) (by rw [← d.prog, ← d.w]; exact passL) I2 .nil rz q2
end
end Wx

/-! Cells that change, within a frame. -/
namespace Wx
open PySem L2
structure OverF (Fm : Hp → Hp → Prop) (f H0 H : Hp) : Prop where
  F : FrmP Fm
  ex : ∃ H1, Over f H0 H1 ∧ Fm H1 H
section
variable {H H0 f : Hp} {Fm : Hp → Hp → Prop} {p : Addr} {o o' : HO}
theorem overF_nil (F : FrmP Fm) (A : Fm H0 H) : OverF Fm no H0 H := ⟨F, H0, over_nil, A⟩
theorem OverF.get (A : OverF Fm f H0 H) (e : f p = some o) : H p = some o := by
  obtain ⟨F, H1, O, A⟩ := A
  exact F.same A _ _ (O.get e)
theorem OverF.same (A : OverF Fm f H0 H) : Same H0 H := by
  obtain ⟨F, H1, O, A⟩ := A
  exact O.same.trans (F.same A)
theorem OverF.free (A : OverF Fm f H0 H) (e : H p = none) : f p = none ∧ H0 p = none := by
  obtain ⟨F, H1, O, A⟩ := A
  exact O.free ((F.same A).free e)
theorem frm_overF : Frm (OverF Fm f) := ⟨fun {H0 H p o} A hp => by
  obtain ⟨F, H1, O, A⟩ := A
  have h1 := (F.same A).free hp
  exact ⟨F, _, frm_over.laid O h1, F.laid A hp⟩, fun A => A.same⟩
theorem OverF.new (A : OverF Fm f H0 H) (e : H p = none) : OverF Fm (upd f p o) H0 (upd H p o) := by
  obtain ⟨F, H1, O, A⟩ := A
  exact ⟨F, _, O.new ((F.same A).free e), F.laid A e⟩
theorem OverF.put (A : OverF Fm f H0 H) (e : f p = some o) : OverF Fm (upd f p o') H0 (upd H p o') := by
  obtain ⟨F, H1, O, A⟩ := A
  exact ⟨F, _, O.put e, F.put A (O.get e)⟩
end
end Wx

section
open PySem L2 Wx
local macro_rules | `(tactic| walk_at "wn") => `(tactic| first
  | with_reducible refine we_n0 (by assumption) (by decide +kernel) ?_
  | with_reducible refine we_n1 (by assumption) (by decide +kernel) ?_
  | with_reducible refine we_n2 (by assumption) (by decide +kernel) ?_
  | with_reducible refine we_n3 (by assumption) (by decide +kernel) ?_
  | with_reducible refine we_n4 (by assumption) (by decide +kernel) ?_
  | with_reducible refine we_n5 (by assumption) (by decide +kernel) ?_
  | with_reducible refine we_n6 (by assumption) (by decide +kernel) ?_
  | with_reducible refine we_n7 (by assumption) (by decide +kernel) ?_
  | with_reducible refine we_n8 (by assumption) (by decide +kernel) ?_
  | with_reducible refine we_n9 (by assumption) (by decide +kernel) ?_
  | with_reducible refine we_n10 (by assumption) (by decide +kernel) ?_
  | with_reducible refine we_n11 (by assumption) (by decide +kernel) ?_
  | with_reducible refine we_n12 (by assumption) (by decide +kernel) ?_
  | with_reducible refine we_n13 (by assumption) (by decide +kernel) ?_
  | with_reducible refine we_n14 (by assumption) (by decide +kernel) ?_
  | with_reducible refine we_n15 (by assumption) (by decide +kernel) ?_
  | with_reducible refine we_n16 (by assumption) (by decide +kernel) ?_
  | with_reducible refine we_n17 (by assumption) (by decide +kernel) ?_
  | with_reducible refine we_t_int (by assumption) (by assumption) (by decide +kernel) ?_
  | with_reducible refine we_t_bool (by assumption) (by assumption) (by decide +kernel) ?_
  | with_reducible refine we_t_str (by assumption) (by assumption) (by decide +kernel) ?_
  | with_reducible refine we_t_list (by assumption) (by assumption) (by decide +kernel) ?_
  | with_reducible refine we_t_tuple (by assumption) (by assumption) (by decide +kernel) ?_
  | with_reducible refine we_t_dict (by assumption) (by assumption) (by decide +kernel) ?_)
local macro_rules | `(tactic| walk_at "wg") => `(tactic| first
  | with_reducible refine wg_n0 (by assumption) (by decide +kernel) ?_
  | with_reducible refine wg_n1 (by assumption) (by decide +kernel) ?_
  | with_reducible refine wg_n2 (by assumption) (by decide +kernel) ?_
  | with_reducible refine wg_n3 (by assumption) (by decide +kernel) ?_
  | with_reducible refine wg_n4 (by assumption) (by decide +kernel) ?_
  | with_reducible refine wg_n5 (by assumption) (by decide +kernel) ?_
  | with_reducible refine wg_n6 (by assumption) (by decide +kernel) ?_
  | with_reducible refine wg_n7 (by assumption) (by decide +kernel) ?_
  | with_reducible refine wg_n8 (by assumption) (by decide +kernel) ?_
  | with_reducible refine wg_n9 (by assumption) (by decide +kernel) ?_
  | with_reducible refine wg_n10 (by assumption) (by decide +kernel) ?_
  | with_reducible refine wg_n11 (by assumption) (by decide +kernel) ?_
  | with_reducible refine wg_n12 (by assumption) (by decide +kernel) ?_
  | with_reducible refine wg_n13 (by assumption) (by decide +kernel) ?_
  | with_reducible refine wg_n14 (by assumption) (by decide +kernel) ?_
  | with_reducible refine wg_n15 (by assumption) (by decide +kernel) ?_
  | with_reducible refine wg_n16 (by assumption) (by decide +kernel) ?_
  | with_reducible refine wg_n17 (by assumption) (by decide +kernel) ?_
  | with_reducible refine wg_b0 (by assumption) (by decide +kernel) ?_
  | with_reducible refine wg_b1 (by assumption) (by decide +kernel) ?_
  | with_reducible refine wg_b2 (by assumption) (by decide +kernel) ?_
  | with_reducible refine wg_b3 (by assumption) (by decide +kernel) ?_
  | with_reducible refine wg_b4 (by assumption) (by decide +kernel) ?_
  | with_reducible refine wg_b5 (by assumption) (by decide +kernel) ?_
  | with_reducible refine wg_b6 (by assumption) (by decide +kernel) ?_
  | with_reducible refine wg_b7 (by assumption) (by decide +kernel) ?_
  | with_reducible refine wg_b8 (by assumption) (by decide +kernel) ?_
  | with_reducible refine wg_b9 (by assumption) (by decide +kernel) ?_
  | with_reducible refine wg_b10 (by assumption) (by decide +kernel) ?_
  | with_reducible refine wg_b11 (by assumption) (by decide +kernel) ?_
  | with_reducible refine wg_b12 (by assumption) (by decide +kernel) ?_
  | with_reducible refine wg_b13 (by assumption) (by decide +kernel) ?_
  | with_reducible refine wg_b14 (by assumption) (by decide +kernel) ?_
  | with_reducible refine wg_b15 (by assumption) (by decide +kernel) ?_
  | with_reducible refine wg_b16 (by assumption) (by decide +kernel) ?_
  | with_reducible refine wg_b17 (by assumption) (by decide +kernel) ?_)
local macro_rules | `(tactic| walk_at "ws=") => `(tactic| first
  | with_reducible refine ws_s0 (by assumption) (by decide +kernel) (by with_unfolding_all rfl) ?_
  | with_reducible refine ws_s1 (by assumption) (by decide +kernel) (by with_unfolding_all rfl) ?_
  | with_reducible refine ws_s2 (by assumption) (by decide +kernel) (by with_unfolding_all rfl) ?_
  | with_reducible refine ws_s3 (by assumption) (by decide +kernel) (by with_unfolding_all rfl) ?_
  | with_reducible refine ws_s4 (by assumption) (by decide +kernel) (by with_unfolding_all rfl) ?_
  | with_reducible refine ws_s5 (by assumption) (by decide +kernel) (by with_unfolding_all rfl) ?_
  | with_reducible refine ws_s6 (by assumption) (by decide +kernel) (by with_unfolding_all rfl) ?_
  | with_reducible refine ws_s7 (by assumption) (by decide +kernel) (by with_unfolding_all rfl) ?_
  | with_reducible refine ws_s8 (by assumption) (by decide +kernel) (by with_unfolding_all rfl) ?_
  | with_reducible refine ws_s9 (by assumption) (by decide +kernel) (by with_unfolding_all rfl) ?_
  | with_reducible refine ws_s10 (by assumption) (by decide +kernel) (by with_unfolding_all rfl) ?_
  | with_reducible refine ws_s11 (by assumption) (by decide +kernel) (by with_unfolding_all rfl) ?_
  | with_reducible refine ws_s12 (by assumption) (by decide +kernel) (by with_unfolding_all rfl) ?_
  | with_reducible refine ws_s13 (by assumption) (by decide +kernel) (by with_unfolding_all rfl) ?_
  | with_reducible refine ws_s14 (by assumption) (by decide +kernel) (by with_unfolding_all rfl) ?_
  | with_reducible refine ws_s15 (by assumption) (by decide +kernel) (by with_unfolding_all rfl) ?_
  | with_reducible refine ws_s16 (by assumption) (by decide +kernel) (by with_unfolding_all rfl) ?_
  | with_reducible refine ws_s17 (by assumption) (by decide +kernel) (by with_unfolding_all rfl) ?_)
local macro_rules | `(tactic| walk_at "wE") => `(tactic| first
  | with_reducible refine we_int ?_
  | with_reducible refine we_str ?_
  | with_reducible refine we_bl ?_
  | with_reducible refine we_non ?_
  | ((with_reducible show Wx.WE _ (Expr.Name _ _) _ _ _); walk_at "wn")
  | with_reducible refine we_bin ?_
  | ((with_reducible refine we_cmp ?hm ?_); (case hm => exact rfl))
  | with_reducible refine we_if ?_
  | with_reducible refine we_tup ?_
  | with_reducible refine we_lst ?_
  | with_reducible refine we_not ?_
  | with_reducible refine we_un ?_
  | with_reducible refine we_and ?_
  | with_reducible refine we_or ?_
  | with_reducible refine we_one ?_
  | with_reducible refine we_slice ?_
  | ((with_reducible refine we_chain ?hm ?_); (case hm => exact rfl))
  | ((with_reducible show Wx.WE _ (Expr.Subscript _ (Expr.Constant (Const.str _) _ _) _) _ _ _); refine we_dget (by with_reducible assumption) (by intro _ _; rfl) ?_)
  | ((with_reducible show Wx.WE _ (Expr.Subscript _ (Expr.Constant _ _ _) _) _ _ _); refine we_ix (by intro _ _; rfl) ?_)
  | ((with_reducible show Wx.WE _ (Expr.Subscript _ (Expr.Name _ _) _) _ _ _); refine we_ix (by intro _ _; rfl) ?_)
  | ((with_reducible show Wx.WE _ (Expr.Subscript _ (Expr.BinOp _ _ _ _) _) _ _ _); refine we_ix (by intro _ _; rfl) ?_)
  | ((with_reducible show Wx.WE _ (Expr.Subscript _ (Expr.Call _ _ _ _) _) _ _ _); refine we_ix (by intro _ _; rfl) ?_)
  | ((with_reducible show Wx.WE _ (Expr.Subscript _ (Expr.UnaryOp _ _ _) _) _ _ _); refine we_ix (by intro _ _; rfl) ?_)
  | ((with_reducible show Wx.WE _ (Expr.Subscript _ (Expr.Subscript _ _ _) _) _ _ _); refine we_ix (by intro _ _; rfl) ?_)
  | ((with_reducible show Wx.WE _ (Expr.Call (Expr.Name _ _) _ _ _) _ _ _); walk_at "wC"))
local macro_rules | `(tactic| walk_at "wC") => `(tactic| first
  | with_reducible refine we_c_int (by assumption) (by assumption) (by decide +kernel) (by with_unfolding_all rfl) (by with_unfolding_all rfl) ?_
  | with_reducible refine we_c_bool (by assumption) (by assumption) (by decide +kernel) (by with_unfolding_all rfl) (by with_unfolding_all rfl) ?_
  | with_reducible refine we_c_str (by assumption) (by assumption) (by decide +kernel) (by with_unfolding_all rfl) (by with_unfolding_all rfl) ?_
  | with_reducible refine we_c_list (by assumption) (by assumption) (by decide +kernel) (by with_unfolding_all rfl) (by with_unfolding_all rfl) ?_
  | with_reducible refine we_c_tuple (by assumption) (by assumption) (by decide +kernel) (by with_unfolding_all rfl) (by with_unfolding_all rfl) ?_
  | with_reducible refine we_c_set (by assumption) (by assumption) (by decide +kernel) (by with_unfolding_all rfl) (by with_unfolding_all rfl) ?_
  | with_reducible refine we_c_dict (by assumption) (by assumption) (by decide +kernel) (by with_unfolding_all rfl) (by with_unfolding_all rfl) ?_
  | with_reducible refine we_c_type (by assumption) (by assumption) (by decide +kernel) (by with_unfolding_all rfl) (by with_unfolding_all rfl) ?_
  | with_reducible refine we_c_len (by assumption) (by assumption) (by decide +kernel) (by with_unfolding_all rfl) (by with_unfolding_all rfl) ?_
  | with_reducible refine we_c_isinstance (by assumption) (by assumption) (by decide +kernel) (by with_unfolding_all rfl) (by with_unfolding_all rfl) ?_
  | with_reducible refine we_c_abs (by assumption) (by assumption) (by decide +kernel) (by with_unfolding_all rfl) (by with_unfolding_all rfl) ?_
  | with_reducible refine we_c_min (by assumption) (by assumption) (by decide +kernel) (by with_unfolding_all rfl) (by with_unfolding_all rfl) ?_
  | with_reducible refine we_c_max (by assumption) (by assumption) (by decide +kernel) (by with_unfolding_all rfl) (by with_unfolding_all rfl) ?_
  | with_reducible refine we_c_any (by assumption) (by assumption) (by decide +kernel) (by with_unfolding_all rfl) (by with_unfolding_all rfl) ?_
  | with_reducible refine we_c_all (by assumption) (by assumption) (by decide +kernel) (by with_unfolding_all rfl) (by with_unfolding_all rfl) ?_
  | with_reducible refine we_c_sum (by assumption) (by assumption) (by decide +kernel) (by with_unfolding_all rfl) (by with_unfolding_all rfl) ?_
  | with_reducible refine we_c_sorted (by assumption) (by assumption) (by decide +kernel) (by with_unfolding_all rfl) (by with_unfolding_all rfl) ?_
  | with_reducible refine we_c_repr (by assumption) (by assumption) (by decide +kernel) (by with_unfolding_all rfl) (by with_unfolding_all rfl) ?_)
local macro_rules | `(tactic| walk_at "wT") => `(tactic| first
  | ((with_reducible refine wt_cmp ?hm ?_); (case hm => exact rfl))
  | ((with_reducible refine wt_chain ?hm ?_); (case hm => exact rfl))
  | with_reducible refine wt_not ?_
  | ((with_reducible refine wt_ww ?_); first | with_reducible refine ww_and ?_ | with_reducible refine ww_or ?_ | with_reducible refine ww_and1 ?_ | with_reducible refine ww_or1 ?_)
  | with_reducible refine ww_and ?_
  | with_reducible refine ww_or ?_
  | with_reducible refine ww_and1 ?_
  | with_reducible refine ww_or1 ?_
  | ((with_reducible show Wx.WT _ (Expr.Name _ _) _ _ _); refine wt_truth (by intro _; rfl) ?_)
  | ((with_reducible show Wx.WT _ (Expr.Call _ _ _ _) _ _ _); refine wt_truth (by intro _; rfl) ?_)
  | ((with_reducible show Wx.WT _ (Expr.Subscript _ _ _) _ _ _); refine wt_truth (by intro _; rfl) ?_)
  | ((with_reducible show Wx.WT _ (Expr.IfExp _ _ _ _) _ _ _); refine wt_truth (by intro _; rfl) ?_)
  | ((with_reducible show Wx.WT _ (Expr.Attribute _ _ _) _ _ _); refine wt_truth (by intro _; rfl) ?_))
local macro_rules | `(tactic| walk_at "wA") => `(tactic| first
  | with_reducible refine wa_nil ?_
  | ((with_reducible refine wa_cons ?hs ?_); (case hs => exact rfl))
  | with_reducible refine wk_nil ?_
  | with_reducible refine wk_cons ?_)
local macro_rules | `(tactic| walk_at "wS") => `(tactic| first
  | with_reducible refine wb_nil ?_
  | with_reducible refine wb_one ?_
  | with_reducible refine wb_cons ?_
  | with_reducible refine ws_ret ?_
  | with_reducible refine ws_if ?_
  | ((with_reducible show Wx.WS _ (Stmt.Assign [Expr.Name _ _] _ _) _ _ _); walk_at "ws=")
  | with_reducible refine ws_pass ?_
  | ((with_reducible refine ws_expr ?hs ?_); (case hs => exact rfl))
  | with_reducible refine ws_retN ?_
  | with_reducible refine ws_continue ?_
  | with_reducible refine ws_break ?_
  | ((with_reducible show Wx.WS _ (Stmt.Assign [Expr.Subscript _ (Expr.Constant (Const.str _) _ _) _] _ _) _ _ _); refine ws_dput (by with_reducible assumption) (by rfl) ?_))
local macro_rules | `(tactic| walk_at "wR") => `(tactic| first
  | with_reducible refine ro_add ?_
  | with_reducible refine ro_sub ?_
  | with_reducible refine ro_eqI ?_
  | with_reducible refine ro_neI ?_
  | with_reducible refine ro_lt ?_
  | with_reducible refine ro_le ?_
  | with_reducible refine ro_gt ?_
  | with_reducible refine ro_ge ?_
  | with_reducible refine ro_leZ ?_
  | with_reducible refine ro_isN ?_
  | with_reducible refine ro_notN ?_
  | with_reducible refine ro_eqS ?_
  | with_reducible refine ro_neS ?_
  | with_reducible refine ro_eqB ?_
  | with_reducible refine ro_neB ?_
  | with_reducible refine ro_isB ?_
  | with_reducible refine ro_isnotB ?_
  | with_reducible refine ru_neg ?_
  | with_reducible refine rc_int ?_)
local macro_rules | `(tactic| walk_at "wG") => `(tactic| first
  | walk_at "wg"
  | with_reducible refine wgs_nil ?_
  | ((with_reducible refine wgs_cons ?hs ?_); (case hs => exact rfl)))
local macro_rules | `(tactic| walk_at "lits") => `(tactic| first
  | repeat' constructor)
local macro_rules | `(tactic| walk_at "wx1") => `(tactic| first
  | ((with_reducible show Wx.WE _ _ _ _ _); walk_at "wE")
  | ((with_reducible show Wx.WT _ _ _ _ _); walk_at "wT")
  | ((with_reducible show Wx.WW _ _ _ _ _); walk_at "wT")
  | ((with_reducible show Wx.WA _ _ _ _ _); walk_at "wA")
  | ((with_reducible show Wx.WK _ _ _ _ _); walk_at "wA")
  | ((with_reducible show Wx.WB _ _ _ _ _); walk_at "wS")
  | ((with_reducible show Wx.WS _ _ _ _ _); walk_at "wS")
  | ((with_reducible show Wx.RO _ _ _ _ _ _); walk_at "wR")
  | ((with_reducible show Wx.WG _ _ _ _ _ _); walk_at "wG")
  | ((with_reducible show Wx.WGs _ _ _ _ _ _); walk_at "wG")
  | ((with_reducible show Wx.RC _ _ _ _ _); walk_at "wR")
  | ((with_reducible show Wx.RC _ (Value.builtin "isinstance") [_, V.ty _] _ _); walk_at "wI")
  | ((with_reducible show Wx.RU _ _ _ _ _); walk_at "wR")
  | ((with_reducible show Wx.WO _ _ _ _ _); first | with_reducible refine wo_none ?_ | with_reducible refine wo_some ?_)
  | refine ⟨_, rfl, ?_⟩
  | dsimp only [List.set])
local macro_rules | `(tactic| walk_at "wTy") => `(tactic| first
  | exact TyX.base TyOf.non
  | exact TyX.base (TyOf.bl _)
  | exact TyX.base (TyOf.int _)
  | exact TyX.base (TyOf.str _)
  | exact ty_seqT (by assumption)
  | exact ty_seqL (by assumption)
  | exact TyX.base (TyOf.dK (by assumption))
  | exact dp_ty (by assumption))
local macro_rules | `(tactic| walk_at "wI") => `(tactic| first
  | refine rc_isi (by assumption) (ClsV.ty _) (by walk_at "wTy") (kit_bt (r := true) (by decide +kernel)) ?_
  | refine rc_isi (by assumption) (ClsV.ty _) (by walk_at "wTy") (kit_bt (r := false) (by decide +kernel)) ?_)
local macro_rules | `(tactic| walk_at "wx") => `(tactic| repeat walk_at "wx1")
local macro_rules | `(tactic| walk_at "wy") => `(tactic| repeat (first | walk_at "wx1" | refine ite_t ?_ | refine ite_f ?_))
/-! Matters: values as the judges of trees see them. -/
namespace K02
open PySem L2 Wx
/-- what a value is: lists and dicts are never looked into -/
inductive M where
  | non
  | bl (b : Bool)
  | int (i : Int)
  | str (z : Str)
  | lst
  | dic
  | tup (ms : List M)
mutual
inductive At (K : PySem.W.Frag) (H : Hp) : V → M → Prop
  | non : At K H .non .non
  | bl (b : Bool) : At K H (.bl b) (.bl b)
  | int (i : Int) : At K H (.int i) (.int i)
  | str (z : Str) (h : z.cps.toList.length ≤ 1000 ∧ ∀ c ∈ z.cps.toList, c < 1114112) : At K H (.str z) (.str z)
  | lst {a : Addr} {xs : List V} : SqL K H a xs → At K H (.ref a) .lst
  | dic {a : Addr} {kvs : List (Key × V)} : H a = some (.dK kvs) → At K H (.ref a) .dic
  | tup {a : Addr} {xs : List V} {ms : List M} : SqT K H a xs → xs.length ≤ 1000 → AtAll K H xs ms → At K H (.ref a) (.tup ms)
inductive AtAll (K : PySem.W.Frag) (H : Hp) : List V → List M → Prop
  | nil : AtAll K H [] []
  | cons {v : V} {vs : List V} {m : M} {ms : List M} : At K H v m → AtAll K H vs ms → AtAll K H (v :: vs) (m :: ms)
end
section
variable {K : PySem.W.Frag} {H H' : Hp}
mutual
theorem At.same (e : Same H H') : ∀ (m : M) (v : V), At K H v m → At K H' v m
  | .non, _, h => by cases h; exact .non
  | .bl b, _, h => by cases h; exact .bl b
  | .int i, _, h => by cases h; exact .int i
  | .str z, _, h => by
    cases h with
    | str _ h1 => exact .str z h1
  | .lst, _, h => by
    cases h with
    | lst h1 => exact .lst (e.seq h1)
  | .dic, _, h => by
    cases h with
    | dic h1 => exact .dic (e _ _ h1)
  | .tup ms, _, h => by
    cases h with
    | tup h1 hl h2 => exact .tup (e.tup h1) hl (AtAll.same e ms _ h2)
theorem AtAll.same (e : Same H H') : ∀ (ms : List M) (vs : List V), AtAll K H vs ms → AtAll K H' vs ms
  | [], _, h => by cases h; exact .nil
  | m :: ms, _, h => by
    cases h with
    | cons h1 h2 => exact .cons (At.same e m _ h1) (AtAll.same e ms _ h2)
end
theorem AtAll.len : ∀ {vs : List V} {ms : List M}, AtAll K H vs ms → vs.length = ms.length
  | _, _, .nil => rfl
  | _, _, .cons _ h => congrArg Nat.succ h.len
theorem AtAll.get : ∀ {vs : List V} {ms : List M} {i : Nat} {v : V}, AtAll K H vs ms → vs[i]? = some v → ∃ m, ms[i]? = some m ∧ At K H v m
  | _, _, _, _, .nil, e => by simp at e
  | _, _, 0, _, .cons h _, e => by
    cases e
    exact ⟨_, rfl, h⟩
  | _, _, i + 1, v, .cons _ h, e => h.get (i := i) (v := v) e
theorem AtAll.get2 : ∀ {vs : List V} {ms : List M} {i : Nat} {m : M}, AtAll K H vs ms → ms[i]? = some m → ∃ v, vs[i]? = some v ∧ At K H v m
  | _, _, _, _, .nil, e => by simp at e
  | _, _, 0, _, .cons h _, e => by
    cases e
    exact ⟨_, rfl, h⟩
  | _, _, i + 1, m, .cons _ h, e => h.get2 (i := i) (m := m) e
def tyM : M → String
  | .non => "NoneType" | .bl _ => "bool" | .int _ => "int" | .str _ => "str" | .lst => "list" | .dic => "dict" | .tup _ => "tuple"
theorem at_ty {v : V} {m : M} (h : At K H v m) : TyX K H v (.type (tyM m)) := by
  cases h with
  | non => exact .base .non
  | bl b => exact .base (.bl b)
  | int i => exact .base (.int i)
  | str x _ => exact .base (.str x)
  | lst h => exact ty_seqL h
  | dic h => exact .base (.dK h)
  | tup h _ _ => exact ty_seqT h
end
/-! ### what the judges say -/
def numM : M → Bool
  | .int _ => true
  | _ => false
def fromM (lo hi : Int) : M → Bool
  | .int i => decide (lo ≤ i) && decide (i ≤ hi)
  | _ => false
def isSmall (c : Nat) : Bool := decide (97 ≤ c) && decide (c ≤ 122)
def keptS : List Str := ["and", "cases", "cell", "else", "fewest", "fork", "from", "greatest", "if", "input", "leaf", "least", "most", "not", "of", "or", "place", "row", "settle", "start", "sum", "then", "to"]
def isNameW (l : List Nat) : Bool := decide (1 ≤ l.length) && decide (l.length ≤ 8) && (!decide (tx l ∈ keptS) && l.all isSmall)
def nameS (z : Str) : Bool := isNameW z.cps.toList
def nameM : M → Bool
  | .str z => nameS z
  | _ => false
/-- which sorts of slots a word has -/
def forms : List (Str × Str) := [("input", "xnn"), ("cell", "xe"), ("row", "xke"), ("settle", "xnnee"), ("number", "n"), ("name", "x"), ("item", "xk"), ("place", ""), ("at", "xne"), ("plus", "ee"), ("minus", "ee"), ("times", "ee"), ("least", "ee"), ("greatest", "ee"), ("sum", "x"), ("fewest", "x"), ("most", "x"), ("less", "ee"), ("atmost", "ee"), ("same", "ee"), ("not", "e"), ("and", "ee"), ("or", "ee"), ("choose", "eee"), ("cases", "epe")]
def risingI : List Int → Bool
  | [] => true
  | [_] => true
  | a :: b :: r => decide (a < b) && risingI (b :: r)
def pairM : M → Option Int
  | .tup [.int i, _] => if -999 ≤ i ∧ i ≤ 999 then some i else none
  | _ => none
def pairsM : M → Bool
  | .tup (p :: ps) => (p :: ps).all (fun q => (pairM q).isSome) && risingI ((p :: ps).filterMap pairM)
  | _ => false
/-- one slot -/
def slotM (c : Nat) (m : M) : Bool :=
  if c = 120 then nameM m else if c = 110 then fromM (-999) 999 m else if c = 107 then fromM 1 9 m else if c = 101 then true else pairsM m
def slotsM : List Nat → List M → Bool
  | [], [] => true
  | c :: cs, m :: ms => slotM c m && slotsM cs ms
  | _, _ => false
def leM : M → M → Bool
  | .int i, .int j => decide (i ≤ j)
  | _, _ => false
def shapedM : M → Bool
  | .tup (.str w :: ms) => match forms.lookup w with
    | some f => slotsM f.cps.toList ms && (!(decide (w = "input") || decide (w = "settle")) || leM (ms.getD 1 .non) (ms.getD 2 .non))
    | none => false
  | _ => false
end K02

open PySem L2 Wx

namespace K02
def top (i : Nat) : Stmt := PySem.Challenge.pw_whysheets_k02_trees_judged.main.body.getD i (.Pass ⟨0, 0, 0, 0⟩)
variable {G : Gb}
abbrev nMixed : List Str := ["_law_draw", "_law_turn", "_law_found", "_law_prime", "_law_blend", "_law_grain"]
theorem scMixed : FnScope nMixed ["_law_draw"] (defScope (top 27)) := ⟨rfl, rfl, rfl, by decide +kernel, rfl, by decide +kernel, by decide +kernel⟩
theorem fn_mixed (b : Bi G.mg) (T : Top G "_law_mixed" (top 27) ["_law_draw"]) : Fn G "_law_mixed" 1 1 spMixed := by
  refine T.fn (N := nMixed) scMixed (fun vs H Q E h => ?_) (fun X vs H Q E d h => ?_)
  · obtain ⟨_, _, _, _, _, _, _, _, rfl, _⟩ := h
    rfl
  · have dd := d.toDef
    obtain ⟨p, aw, ac, ws, cs, r, t, B, rfl, I, hB, k⟩ := h
    show WB X _ _ [some (.ref p), none, none, none, none, none] H
    refine wb_cons ?_
    walk_at "wx"
    refine ws_par2 d 1 2 rfl rfl (by decide) (by decide +kernel) (by decide +kernel) (by intro _; rfl) (by rfl) ?_ (by rfl) (by rfl)
    walk_at "wx"
    refine ⟨_, _, rfl, dgk I.hd d4_turn, ?_⟩
    walk_at "wx"
    refine ⟨_, _, rfl, dpk I.hd d4_len d4_put_turn, ?_⟩
    walk_at "wx"
    refine ws_forL d (by intro _; rfl) ?_
    walk_at "wx"
    refine ⟨by show 4 ≤ sizeLine; decide, fun l hl => ⟨l, _, rfl, SqL.of upd_same, fun _ σ H' => H' = upd (upd H p (.dK (D4 aw ac r (t + 1)))) l (.lst [.int 2147483647, .int 2147483629, .int 2147483587, .int 2147483579]) ∧ ∃ f v3 v4 v5, σ = [some (.ref p), some (.int (t + 1)), some (.int f), v3, v4, v5],
      ⟨rfl, _, _, _, _, rfl⟩, ?_, ?_, ?_⟩⟩
    · rintro i σ H' _ ⟨rfl, _⟩
      exact SqL.of upd_same
    · rintro i x σ H' hx ⟨rfl, f, v3, v4, v5, rfl⟩
      obtain ⟨pr, rfl, h1, h2⟩ : ∃ pr : Int, x = .int pr ∧ 2147483579 ≤ pr ∧ pr ≤ 2147483647 := by
        have hm := List.mem_of_getElem? hx
        simp only [List.mem_cons, List.not_mem_nil, or_false] at hm
        rcases hm with rfl | rfl | rfl | rfl <;> exact ⟨_, rfl, by decide, by decide⟩
      walk_at "wg"
      walk_at "wx"
      refine ro_mul (.inl (by decide)) ?_
      walk_at "wx"
      refine ro_fdiv (by decide) ?_
      walk_at "wx"
      refine ws_forL d (by intro _; rfl) ?_
      walk_at "wx"
      have ndl : p ≠ l := fun e => by rw [e, upd_same] at hl; cases hl
      have ncl : ac ≠ l := fun e => by
        have z : ac ≠ p := ne_of I.hc I.hd (by intro q; cases q)
        rw [← e, upd_ne z, I.hc] at hl
        cases hl
      have ncp : ac ≠ p := ne_of I.hc I.hd (by intro q; cases q)
      have e1 : (upd (upd H p (.dK (D4 aw ac r (t + 1)))) l (.lst [.int 2147483647, .int 2147483629, .int 2147483587, .int 2147483579])) p = some (.dK (D4 aw ac r (t + 1))) := by rw [upd_ne ndl, upd_same]
      have e2 : (upd (upd H p (.dK (D4 aw ac r (t + 1)))) l (.lst [.int 2147483647, .int 2147483629, .int 2147483587, .int 2147483579])) ac = some (.lst (cs.map V.int)) := by rw [upd_ne ncl, upd_ne ncp]; exact I.hc
      refine ⟨_, _, rfl, dgk e1 d4_cells, ?_⟩
      refine ⟨ac, _, rfl, SqL.of e2, fun _ σ H' => H' = upd (upd H p (.dK (D4 aw ac r (t + 1)))) l (.lst [.int 2147483647, .int 2147483629, .int 2147483587, .int 2147483579]) ∧ ∃ b v5, σ = [some (.ref p), some (.int (t + 1)), some (.int f), some (.int pr), some (.int b), v5] ∧ 0 ≤ b ∧ b < 1152921504606846976,
        ⟨rfl, _, _, rfl, ?_, ?_⟩, ?_, ?_, ?_⟩
      · have := I.t0; omega
      · have := I.tB; omega
      · rintro j τ H2 _ ⟨rfl, _⟩
        exact SqL.of e2
      · rintro j y τ H2 hy ⟨rfl, b, v5, rfl, hb0, hb1⟩
        obtain ⟨g, rfl⟩ : ∃ g : Int, y = .int g := by
          have hm := List.mem_of_getElem? hy
          obtain ⟨g, _, e⟩ := List.mem_map.mp hm
          exact ⟨g, e.symm⟩
        walk_at "wg"
        walk_at "wx"
        refine ro_mul (.inr (by decide)) ?_
        walk_at "wx"
        refine ro_mod (by omega) ?_
        walk_at "wx"
        refine ⟨rfl, _, _, rfl, Int.emod_nonneg _ (by omega), ?_⟩
        have := Int.emod_lt_of_pos (b * 69621 + g + (t + 1)) (show 0 < pr by omega)
        omega
      · rintro τ H2 ⟨rfl, b, v5, rfl, hb0, hb1⟩
        walk_at "wx"
        refine ro_mul (.inr (by decide)) ?_
        walk_at "wx"
        refine ro_pow ⟨by decide, by decide, by omega⟩ ?_
        walk_at "wx"
        refine ro_mod (by omega) ?_
        walk_at "wx"
        exact ⟨rfl, _, _, _, _, rfl⟩
    · rintro σ H' ⟨rfl, f, v3, v4, v5, rfl⟩
      walk_at "wx"
      exact k _ _ (same_new hl)
abbrev nTake : List Str := ["_law_draw", "_law_many", "_law_found"]
theorem scTake : FnScope nTake ["_law_draw", "_law_many"] (defScope (top 28)) := ⟨rfl, rfl, rfl, by decide +kernel, rfl, by decide +kernel, by decide +kernel⟩
theorem fn_take (b : Bi G.mg) (FM : Fn G "_law_mixed" 1 1 spMixed) (T : Top G "_law_take" (top 28) ["_law_draw", "_law_many"]) : Fn G "_law_take" 2 2 spTake := by
  refine T.fn (N := nTake) scTake (fun vs H Q E h => ?_) (fun X vs H Q E d h => ?_)
  · obtain ⟨_, _, _, _, rfl, _⟩ := h
    rfl
  · have dd := d.toDef
    obtain ⟨H0, p, B, many, rfl, ⟨s0, nd, aw, ac, ws, cs, r, t, nw, nc, I⟩, hB, m0, m1, k⟩ := h
    -- what follows the test, from any state of the draw
    have rest : ∀ (H1 : Hp) (aw ac : Addr) (ws cs : List Int) (r t : Int), Same H0 H1 → H0 aw = none → H0 ac = none → DrawIs H1 p aw ac ws cs r t (B + 1) → WB X ((defBody (top 28)).drop 1) { nx := fun _ H' => Q .non H', rt := Q } [some (.ref p), some (.int many), none] H1 := by
      intro H1 aw ac ws cs r t s1 nw nc J
      refine wb_cons ?_
      walk_at "wx"
      refine ⟨_, _, rfl, dgk J.hd d4_rest, ?_⟩
      walk_at "wx"
      refine ro_mod m0 ?_
      walk_at "wx"
      refine ⟨_, _, rfl, dgk J.hd d4_rest, ?_⟩
      walk_at "wx"
      refine ro_fdiv ⟨m0, m1⟩ ?_
      walk_at "wx"
      refine ⟨_, _, rfl, dpk J.hd d4_len d4_put_rest, ?_⟩
      walk_at "wx"
      have e0 : 0 ≤ r % many := Int.emod_nonneg _ (by omega)
      have e1 : r % many < many := Int.emod_lt_of_pos _ m0
      exact k _ _ e0 e1 ⟨same_upd s1 nd, nd, aw, ac, ws, cs, _, t, nw, nc, J.step J.t0 J.tB (Same.refl _)⟩
    show WB X _ _ [some (.ref p), some (.int many), none] H
    refine wb_cons ?_
    walk_at "wx"
    refine ⟨_, _, rfl, dgk I.hd d4_rest, ?_⟩
    walk_at "wx"
    refine ite_b (fun hr => ?_) (fun hr => ?_)
    · walk_at "wx"
      refine ⟨_, _, rfl, dgk I.hd d4_wide, ?_⟩
      walk_at "wx"
      refine ⟨by show 0 ≤ sizeLine; decide, fun l hl => ?_⟩
      have I2 := I.keep (Nat.le_succ B) (same_new (o := .lst []) hl)
      refine ro_neD dd (dp_ints (SqL.of I2.hw)) (.lst (SqL.of upd_same) .nil) (shaped_ints _) (by decide) ?_
      rw [eqv_nil]
      walk_at "wx"
      cases ws with
      | nil =>
        refine ite_f ?_
        refine we_call dd FM (by decide) (by decide +kernel) (by rfl) (by rfl) ?_
        walk_at "wx"
        refine ⟨p, aw, ac, [], cs, r, t, B + 1, rfl, I2, by omega, fun n H' s => ?_⟩
        walk_at "wx"
        have hp : H' p = some (.dK (D4 aw ac r (t + 1))) := s _ _ upd_same
        refine ⟨_, _, rfl, dpk hp d4_len d4_put_rest, ?_⟩
        have J := I2.step (t' := t + 1) (r' := r) (C := B + 1) (by have := I.t0; omega) (by have := I.tB; omega) s
        exact rest _ aw ac [] cs n (t + 1) (same_upd ((same_upd (s0.trans (same_new hl)) nd).trans s) nd) nw nc (J.step J.t0 J.tB (Same.refl _))
      | cons z ws =>
        refine ite_t ?_
        refine we_bm dd PySem.F.plainAttrs_list PySem.F.slot_list_pop PySem.F.type_list_pop (by rfl) (by rfl) (by rfl) (by rfl) (by rfl) ?_
        walk_at "wx"
        refine ⟨_, _, rfl, dgk I2.hd d4_wide, ty_list I2.hw, ?_⟩
        walk_at "wx"
        refine rm_pop0 I2.hw ?_
        walk_at "wx"
        have e1 : p ≠ aw := ne_of I.hd I.hw (by intro q; cases q)
        refine ⟨_, _, rfl, dpk (by rw [upd_ne e1]; exact I2.hd) d4_len d4_put_rest, ?_⟩
        exact rest _ aw ac ws cs z t (same_upd (same_upd (s0.trans (same_new hl)) nw) nd) nw nc (I2.pop (Same.refl _))
    · refine wb_nil ?_
      exact rest H aw ac ws cs r t s0 nw nc (I.keep (Nat.le_succ B) (Same.refl _))

abbrev nPick : List Str := ["_law_draw", "_law_some"]
theorem scPick : FnScope nPick ["_law_draw", "_law_some"] (defScope (top 29)) := ⟨rfl, rfl, rfl, by decide +kernel, rfl, by decide +kernel, by decide +kernel⟩
theorem fn_pick (b : Bi G.mg) (FT : Fn G "_law_take" 2 2 spTake) (T : Top G "_law_pick" (top 29) ["_law_draw", "_law_some"]) : Fn G "_law_pick" 2 3 (spPick G.K) := by
  refine T.fn (N := nPick) scPick (fun vs H Q E h => ?_) (fun X vs H Q E d h => ?_)
  · obtain ⟨_, _, _, _, _, rfl, _⟩ := h
    rfl
  · have dd := d.toDef
    obtain ⟨H0, p, l, B, xs, rfl, A, hB, hl, l0, l1, k⟩ := h
    show WB X _ _ [some (.ref p), some (.ref l)] H
    refine wb_one ?_
    walk_at "wx"
    refine we_call dd FT (by decide) (by decide +kernel) (by rfl) (by rfl) ?_
    walk_at "wx"
    refine rc_lenL dd (A.same.seq hl) ?_
    walk_at "wx"
    refine ⟨H0, p, B, _, rfl, A, hB, by omega, by omega, fun n H' h0 h1 A' => ?_⟩
    have e : xs[n.toNat]? = some (xs[n.toNat]'(by omega)) := List.getElem?_eq_getElem (by omega)
    have ez : ((n.toNat : Nat) : Int) = n := Int.toNat_of_nonneg h0
    refine rx_list dd (A'.same.seq hl) (by rw [← ez]; exact atI_nat e) ?_
    exact k _ _ _ e A'
abbrev nBegun : List Str := ["_law_script", "_law_wide", "_law_grain"]
theorem scBegun : FnScope nBegun ["_law_script"] (defScope (top 26)) := ⟨rfl, rfl, rfl, by decide +kernel, rfl, by decide +kernel, by decide +kernel⟩
theorem fn_begun (b : Bi G.mg) (T : Top G "_law_begun" (top 26) ["_law_script"]) : Fn G "_law_begun" 1 1 (spBegun G.K) := by
  refine T.fn (N := nBegun) scBegun (fun vs H Q E h => ?_) (fun X vs H Q E d h => ?_)
  · obtain ⟨_, _, rfl, _⟩ := h
    rfl
  · have dd := d.toDef
    obtain ⟨a, ns, rfl, hS, hn, k⟩ := h
    show WB X _ _ [some (.ref a), none, none] H
    refine wb_cons ?_
    refine ws_lcL d 1 [("_law_grain", 2)] (by rfl) (by decide +kernel) (by decide +kernel) (by intro _; rfl) (by rfl) (by decide +kernel) ?_
    walk_at "wx"
    refine ⟨a, _, rfl, hS, fun L hL => ⟨fun i H' => ∃ acc : List Int, acc.length ≤ i ∧ H' = upd H L (.lst (acc.map V.int)), ⟨[], Nat.zero_le _, rfl⟩, ?_, ?_, ?_⟩⟩
    · rintro i H' _ ⟨acc, _, rfl⟩
      exact (same_new hL).seq hS
    · rintro i x H' hx ⟨acc, hl, rfl⟩ X' dX
      obtain ⟨g, hg, rfl⟩ := int_of_map hx
      dsimp only [L2.wipe, List.map, List.set]
      walk_at "wg"
      refine ⟨rfl, fun X' dX => wts_one ?_⟩
      walk_at "wx"
      refine rc_abs ?_
      walk_at "wx"
      refine ro_pow ⟨by decide, by decide, by decide⟩ ?_
      walk_at "wx"
      refine ite_b (fun _ => ?_) (fun _ => ⟨acc, by omega, rfl⟩)
      intro X'' d2
      walk_at "wx"
      refine rc_abs ?_
      walk_at "wx"
      refine ro_pow ⟨by decide, by decide, by decide⟩ ?_
      walk_at "wx"
      have hi : i < ns.length := (List.getElem?_eq_some_iff.mp hg).1
      refine ⟨_, upd_same, by rw [List.length_map]; exact len_lt (by omega), _, ?_, by rw [upd_upd, map_app]⟩
      rw [List.length_append, List.length_singleton]
      omega
    · rintro H' ⟨ws, hw, rfl⟩
      rw [List.length_map] at hw
      refine wb_one ?_
      walk_at "wx"
      refine we_disp4 dd fun p hp => ?_
      have npL : L ≠ p := ne_of_none upd_same hp
      walk_at "wx"
      refine we_lcL dd [("_law_grain", 2)] (by decide +kernel) (by intro _; rfl) ?_
      walk_at "wx"
      refine ⟨a, _, rfl, ((same_new hL).trans (same_new hp)).seq hS, fun M hM => ⟨fun i H' => ∃ acc : List Int, (∀ c ∈ acc, 0 ≤ c ∧ c < 2147483648) ∧ acc.length ≤ i ∧ H' = upd (upd (upd H L (.lst (ws.map V.int))) p (.dK [])) M (.lst (acc.map V.int)), ⟨[], (fun _ h => nomatch h), Nat.zero_le _, rfl⟩, ?_, ?_, ?_⟩⟩
      · rintro i H' _ ⟨acc, _, _, rfl⟩
        exact (((same_new hL).trans (same_new hp)).trans (same_new hM)).seq hS
      · rintro i x H' hx ⟨acc, hc, hl, rfl⟩ X' dX
        obtain ⟨g, hg, rfl⟩ := int_of_map hx
        dsimp only [L2.wipe, List.map, List.set]
        walk_at "wg"
        refine ⟨rfl, fun X' dX => wts_nil (ite_t ?_)⟩
        intro X'' d2
        walk_at "wx"
        refine rc_abs ?_
        walk_at "wx"
        refine ro_mod (by decide) ?_
        have hi : i < ns.length := (List.getElem?_eq_some_iff.mp hg).1
        refine ⟨_, upd_same, by rw [List.length_map]; exact len_lt (by omega), _, ?_, ?_, by rw [upd_upd, map_app]⟩
        · intro c hm
          rcases List.mem_append.mp hm with hm | hm
          · exact hc c hm
          · rw [List.mem_singleton.mp hm]
            have h0 := Int.emod_nonneg (if g < 0 then -g else g) (show (2147483629 : Int) ≠ 0 by decide)
            have h1 := Int.emod_lt_of_pos (if g < 0 then -g else g) (show (0 : Int) < 2147483629 by decide)
            omega
        · rw [List.length_append, List.length_singleton]
          omega
      · rintro H' ⟨cs, hc, _, rfl⟩
        walk_at "wx"
        have npM : p ≠ M := ne_of_none upd_same hM
        have nLM : L ≠ M := ne_of_none (by rw [upd_ne npL]; exact upd_same) hM
        refine ⟨by rw [upd_ne npM]; exact upd_same, ?_⟩
        rw [d4_make]
        have hMp : H M = none := by rw [upd_ne npM.symm, upd_ne nLM.symm] at hM; exact hM
        have hpH : H p = none := by rw [upd_ne npL.symm] at hp; exact hp
        refine k p _ ⟨same_upd (same_upd (same_upd (same_upd (Same.refl _) hL) hpH) hMp) hpH, hpH, L, M, ws, cs, 0, 0, hL, hMp, ⟨upd_same, ?_, ?_, by decide, by decide, hc, by omega, nLM⟩⟩
        · rw [upd_ne npL, upd_ne nLM, upd_ne npL, upd_same]
        · rw [upd_ne npM.symm, upd_same]
end K02

namespace K02
variable {G : Gb}
def one (p : Nat → Bool) : List Nat → Bool
  | [c] => p c
  | _ => false
theorem ch_a : ("a" : Str).cps.toList = [97] := by decide +kernel
theorem ch_z : ("z" : Str).cps.toList = [122] := by decide +kernel
theorem ch_A : ("A" : Str).cps.toList = [65] := by decide +kernel
theorem ch_Z : ("Z" : Str).cps.toList = [90] := by decide +kernel
theorem ch_0 : ("0" : Str).cps.toList = [48] := by decide +kernel
theorem ch_9 : ("9" : Str).cps.toList = [57] := by decide +kernel
theorem ch_sp : (" " : Str).cps.toList = [32] := by decide +kernel
theorem ch_ti : ("~" : Str).cps.toList = [126] := by decide +kernel
theorem t_us : ("_" : Str) = tx [95] := by decide +kernel
theorem t_nl : ("\n" : Str) = tx [10] := by decide +kernel
theorem t_mi : ("-" : Str) = tx [45] := by decide +kernel
theorem t_0 : ("0" : Str) = tx [48] := by decide +kernel
theorem t_em : ("" : Str) = tx [] := by decide +kernel
theorem one_dec {a c : Nat} : decide (tx [a] = tx [c]) = decide (a = c) := by
  rw [decide_eq_decide, tx_inj]
  simp
def btw (a b c : Nat) : Bool := decide (a ≤ c) && decide (c ≤ b)
theorem small_cases {l : List Nat} (h : l.length ≤ 1) : l = [] ∨ ∃ c, l = [c] := by
  match l, h with
  | [], _ => exact .inl rfl
  | [c], _ => exact .inr ⟨c, rfl⟩
theorem one_us {a : Nat} : decide (tx [a] = ("_" : Str)) = decide (a = 95) := by rw [t_us]; exact one_dec
theorem one_nl {a : Nat} : decide (tx [a] = ("\n" : Str)) = decide (a = 10) := by rw [t_nl]; exact one_dec
theorem one_mi {a : Nat} : decide (tx [a] = ("-" : Str)) = decide (a = 45) := by rw [t_mi]; exact one_dec
theorem one_0 {a : Nat} : decide (tx [a] = ("0" : Str)) = decide (a = 48) := by rw [t_0]; exact one_dec
/-- lo <= e <= hi, e a sign or nothing -/
theorem we_btw {X : Cx} {e : Expr} {σ : L2.St} {H : Hp} {Q : VK} {lo hi : Str} (a b : Nat) {j1 j2} {p1 p2 pos : Pos} (hlo : lo.cps.toList = [a]) (hhi : hi.cps.toList = [b]) (hm : lastMarks [.LtE, .LtE] [e, .Constant (.str hi) j2 p2] = false)
    (h : WE X e σ H fun v H1 => ∃ l, v = .str (tx l) ∧ l.length ≤ 1 ∧ Q (.bl (one (btw a b) l)) H1) : WE X (.Compare (.Constant (.str lo) j1 p1) [.LtE, .LtE] [e, .Constant (.str hi) j2 p2] pos) σ H Q := by
  refine we_chain hm (we_str (we_mono (fun v H1 q => ?_) h))
  obtain ⟨l, rfl, hl, k⟩ := q
  refine ro_leZ ?_
  refine ⟨_, rfl, ?_⟩
  rw [hlo, tx_list]
  rcases small_cases hl with rfl | ⟨c, rfl⟩
  · rw [leL_nil]
    exact ite_f k
  · rw [leL_one]
    have k : Q (.bl (decide (a ≤ c) && decide (c ≤ b))) H1 := k
    refine ite_b (fun e => ?_) (fun e => by rw [e, Bool.false_and] at k; exact k)
    rw [e, Bool.true_and] at k
    refine we_str (ro_leZ ?_)
    rw [hhi, tx_list, leL_one]
    exact k
theorem wt_btw {X : Cx} {e : Expr} {σ : L2.St} {H : Hp} {Q : Bool → Hp → Prop} {lo hi : Str} (a b : Nat) {j1 j2} {p1 p2 pos : Pos} (hlo : lo.cps.toList = [a]) (hhi : hi.cps.toList = [b]) (hm : lastMarks [.LtE, .LtE] [e, .Constant (.str hi) j2 p2] = false)
    (h : WE X e σ H fun v H1 => ∃ l, v = .str (tx l) ∧ l.length ≤ 1 ∧ Q (one (btw a b) l) H1) : WT X (.Compare (.Constant (.str lo) j1 p1) [.LtE, .LtE] [e, .Constant (.str hi) j2 p2] pos) σ H Q := by
  refine wt_chain hm (we_str (we_mono (fun v H1 q => ?_) h))
  obtain ⟨l, rfl, hl, k⟩ := q
  refine ro_leZ ?_
  refine ⟨_, rfl, ?_⟩
  rw [hlo, tx_list]
  rcases small_cases hl with rfl | ⟨c, rfl⟩
  · rw [leL_nil]
    exact ite_f k
  · rw [leL_one]
    have k : Q (decide (a ≤ c) && decide (c ≤ b)) H1 := k
    refine ite_b (fun e => ?_) (fun e => by rw [e, Bool.false_and] at k; exact k)
    rw [e, Bool.true_and] at k
    refine we_str (ro_leZ ⟨_, rfl, ?_⟩)
    rw [hhi, tx_list, leL_one]
    exact k
/-- is_small, is_figure -/
def spOne (p : Nat → Bool) : Sp := fun vs H Q _ => ∃ l, vs = [.str (tx l)] ∧ l.length ≤ 1 ∧ Q (.bl (one p l)) H
theorem fn_small (T : Top G "is_small" (top 8) ["sign"]) : Fn G "is_small" 1 1 (spOne isSmall) := by
  refine T.fn (N := ["sign"]) ⟨rfl, rfl, rfl, by decide +kernel, rfl, by decide +kernel, by decide +kernel⟩ (fun vs H Q E h => ?_) (fun X vs H Q E d h => ?_)
  · obtain ⟨_, rfl, _⟩ := h
    rfl
  · have dd := d.toDef
    obtain ⟨l, rfl, hl, k⟩ := h
    show WB X _ _ [some (.str (tx l))] H
    refine wb_one (ws_ret (we_btw 97 122 ch_a ch_z (by rfl) ?_))
    walk_at "wx"
    exact ⟨hl, k⟩
/-! ### globals that are tuples of texts -/
structure TupG (G : Gb) (x : Str) (ss : List Str) : Prop where
  is : ∃ a : Addr, G.mg x = some (.ref a) ∧ ∀ H : Hp, SqT G.K H a (ss.map V.str)
theorem flat_strs : ∀ ss : List Str, (ss.map V.str).all flatV = true
  | [] => rfl
  | _ :: ss => flat_strs ss
theorem inV_strs (z : Str) : ∀ ss : List Str, inV (.str z) (ss.map V.str) = decide (z ∈ ss)
  | [] => rfl
  | s :: ss => by
    have ih := inV_strs z ss
    unfold inV at ih ⊢
    rw [List.map_cons, List.any_cons, ih]
    have e : eqV (.str s) (.str z) = decide (z = s) := by
      show (s == z) = _
      rw [Bool.eq_iff_iff, beq_iff_eq, decide_eq_true_eq]
      exact eq_comm
    rw [e, Bool.eq_iff_iff]
    simp
theorem ro_inG {X : Cx} {N : List Str} {sc : Scope} {k : Nat} {z : Str} {H : Hp} {Q : VK} {a : Addr} {ss : List Str} (d : Def X G N sc k) (h : SqT G.K H a (ss.map V.str) ∨ SqL G.K H a (ss.map V.str)) (q : Q (.bl (decide (z ∈ ss))) H) : RO X (compareOp .In) (.str z) (.ref a) H Q :=
  ro_in d h.symm rfl (flat_strs ss) (by rw [inV_strs]; exact q)
theorem ro_notInG {X : Cx} {N : List Str} {sc : Scope} {k : Nat} {z : Str} {H : Hp} {Q : VK} {a : Addr} {ss : List Str} (d : Def X G N sc k) (h : SqT G.K H a (ss.map V.str) ∨ SqL G.K H a (ss.map V.str)) (q : Q (.bl (!decide (z ∈ ss))) H) : RO X (compareOp .NotIn) (.str z) (.ref a) H Q :=
  ro_notIn d h.symm rfl (flat_strs ss) (by rw [inV_strs]; exact q)
theorem all_map (p : Nat → Bool) (l : List Nat) : l.filterMap (fun c => some (V.bl (p c))) = (l.map p).map V.bl := by
  rw [List.filterMap_eq_map', List.map_map]
  rfl
theorem all_id (p : Nat → Bool) (l : List Nat) : (l.map p).all id = l.all p := by
  rw [List.all_map]
  rfl
def spName (K : PySem.W.Frag) : Sp := fun vs H Q _ => ∃ v, vs = [v] ∧ ((∃ l, v = .str (tx l) ∧ l.length ≤ 10000 ∧ ∀ H', Same H H' → Q (.bl (isNameW l)) H') ∨ (∃ t, TyX K H v (.type t) ∧ kitB t "str" = some false ∧ Q (.bl false) H))
theorem fn_name (b : Bi G.mg) (F : Fn G "is_small" 1 1 (spOne isSmall)) (P : TupG G "KEPT" keptS) (T : Top G "is_name" (top 7) ["thing"]) : Fn G "is_name" 1 2 (spName G.K) := by
  refine T.fn (N := ["thing", "sign"]) ⟨rfl, rfl, rfl, by decide +kernel, rfl, by decide +kernel, by decide +kernel⟩ (fun vs H Q E h => ?_) (fun X vs H Q E d h => ?_)
  · obtain ⟨_, rfl, _⟩ := h
    rfl
  · have dd := d.toDef
    obtain ⟨v, rfl, h⟩ := h
    show WB X _ _ [some v, none] H
    refine wb_cons ?_
    rcases h with ⟨l, rfl, hl, k⟩ | ⟨t, ht, hk, k⟩
    · walk_at "wx"
      refine ite_f ?_
      walk_at "wx"
      refine rc_lenS (by rw [tx_len]; exact len_le (by omega)) ?_
      rw [tx_len]
      walk_at "wx"
      have h1 : decide ((1 : Int) ≤ (l.length : Int)) = decide (1 ≤ l.length) := by rw [decide_eq_decide]; omega
      have h8 : decide ((l.length : Int) ≤ 8) = decide (l.length ≤ 8) := by rw [decide_eq_decide]; omega
      rw [h1]
      unfold isNameW at k
      cases e1 : decide (1 ≤ l.length) with
      | false =>
        walk_at "wy"
        have k := k H (Same.refl _)
        rw [e1] at k
        exact k
      | true =>
        refine ite_t ?_
        walk_at "wx"
        rw [h8]
        cases e8 : decide (l.length ≤ 8) with
        | false =>
          walk_at "wy"
          have k := k H (Same.refl _)
          rw [e1, e8] at k
          exact k
        | true =>
          walk_at "wy"
          obtain ⟨aP, hP, sP⟩ := P.is
          refine we_glob dd (v := .ref aP) (by decide +kernel) hP rfl ?_
          refine ro_notInG dd (.inl (sP H)) ?_
          walk_at "wx"
          cases ek : decide (tx l ∈ keptS) with
          | true =>
            refine ite_f ?_
            have k := k H (Same.refl _)
            rw [e1, e8, ek] at k
            exact k
          | false =>
            refine ite_t ?_
            walk_at "wx"
            refine we_lcS dd [("sign", 1)] (by decide +kernel) (by intro _; rfl) ?_
            walk_at "wx"
            have hl3 : l.length < 100000 := by omega
            refine lcS_map (fun c => some (.bl (isSmall c))) hl3 (fun c _ H1 s1 R hR => ?_) (fun L H1 hL s1 h1 => ?_)
            · intro X' d'
              dsimp only [L2.wipe, List.map, List.set]
              walk_at "wg"
              refine ⟨rfl, fun X2 d2 => wts_nil (ite_t fun X3 d3 => ?_)⟩
              refine we_call d3 F (by decide) (by decide +kernel) (by rfl) (by rfl) ?_
              walk_at "wx"
              exact ⟨Nat.le_refl _, hR H1 (Same.refl _)⟩
            · rw [all_map] at h1
              walk_at "wx"
              refine rc_all dd (SqL.of h1) ?_
              rw [all_id]
              have k := k H1 s1
              rw [e1, e8, ek] at k
              exact k
    · walk_at "wx"
      refine rc_isi dd (ClsV.ty _) ht (kit_bt hk) ?_
      walk_at "wy"
      exact k
/-! ### values -/
def spNameM (K : PySem.W.Frag) : Sp := fun vs H Q _ => ∃ v m, vs = [v] ∧ At K H v m ∧ ∀ H', Same H H' → Q (.bl (nameM m)) H'
theorem fn_nameM (b : Bi G.mg) (F : Fn G "is_small" 1 1 (spOne isSmall)) (P : TupG G "KEPT" keptS) (T : Top G "is_name" (top 7) ["thing"]) : Fn G "is_name" 1 2 (spNameM G.K) := by
  refine fn_to (fn_name b F P T) fun vs H Q E h => ?_
  obtain ⟨v, m, rfl, hv, k⟩ := h
  refine ⟨v, rfl, ?_⟩
  cases hv with
  | str z hz => exact .inl ⟨z.cps.toList, by rw [tx_of], by have := hz.1; omega, k⟩
  | non => exact .inr ⟨_, .base .non, by decide +kernel, k H (Same.refl _)⟩
  | bl x => exact .inr ⟨_, .base (.bl x), by decide +kernel, k H (Same.refl _)⟩
  | int x => exact .inr ⟨_, .base (.int x), by decide +kernel, k H (Same.refl _)⟩
  | lst h => exact .inr ⟨_, ty_seqL h, by decide +kernel, k H (Same.refl _)⟩
  | dic h => exact .inr ⟨_, .base (.dK h), by decide +kernel, k H (Same.refl _)⟩
  | tup h _ _ => exact .inr ⟨_, ty_seqT h, by decide +kernel, k H (Same.refl _)⟩
def spNum (K : PySem.W.Frag) : Sp := fun vs H Q _ => ∃ v m, vs = [v] ∧ At K H v m ∧ Q (.bl (numM m)) H
theorem fn_num (b : Bi G.mg) (T : Top G "is_number" (top 1) ["thing"]) : Fn G "is_number" 1 1 (spNum G.K) := by
  refine T.fn (N := ["thing"]) ⟨rfl, rfl, rfl, by decide +kernel, rfl, by decide +kernel, by decide +kernel⟩ (fun vs H Q E h => ?_) (fun X vs H Q E d h => ?_)
  · obtain ⟨_, _, rfl, _⟩ := h
    rfl
  · have dd := d.toDef
    obtain ⟨v, m, rfl, hv, k⟩ := h
    show WB X _ _ [some v] H
    refine wb_one ?_
    cases hv with
    | int i =>
      walk_at "wx"
      refine ite_t ?_
      walk_at "wx"
      exact k
    | bl x =>
      walk_at "wx"
      refine ite_t ?_
      walk_at "wx"
      exact k
    | _ =>
      walk_at "wx"
      exact ite_f k
def spFrom (K : PySem.W.Frag) : Sp := fun vs H Q _ => ∃ (v : V) (m : M) (lo hi : Int), vs = [v, .int lo, .int hi] ∧ At K H v m ∧ Q (.bl (fromM lo hi m)) H
theorem fn_from (F : Fn G "is_number" 1 1 (spNum G.K)) (T : Top G "is_number_from" (top 2) ["thing", "low", "high"]) : Fn G "is_number_from" 3 2 (spFrom G.K) := by
  refine T.fn (N := ["thing", "low", "high"]) ⟨rfl, rfl, rfl, by decide +kernel, rfl, by decide +kernel, by decide +kernel⟩ (fun vs H Q E h => ?_) (fun X vs H Q E d h => ?_)
  · obtain ⟨_, _, _, _, rfl, _⟩ := h
    rfl
  · have dd := d.toDef
    obtain ⟨v, m, lo, hi, rfl, hv, k⟩ := h
    show WB X _ _ [some v, some (.int lo), some (.int hi)] H
    refine wb_one ?_
    walk_at "wx"
    refine we_call dd F (by decide) (by decide +kernel) (by rfl) (by rfl) ?_
    walk_at "wA"
    walk_at "wn"
    walk_at "wA"
    refine ⟨v, m, rfl, hv, ?_⟩
    walk_at "wx"
    cases hv with
    | int i =>
      refine ite_t ?_
      walk_at "wx"
      have k : Q (.bl (decide (lo ≤ i) && decide (i ≤ hi))) H := k
      cases e : decide (lo ≤ i) with
      | true =>
        refine ite_t ?_
        walk_at "wx"
        rw [e] at k
        exact k
      | false =>
        refine ite_f ?_
        rw [e] at k
        exact k
    | _ => exact ite_f k
def lenM (n : Int) : M → Bool
  | .tup ms => decide ((ms.length : Int) = n)
  | _ => false
def spTup (K : PySem.W.Frag) : Sp := fun vs H Q _ => ∃ (v : V) (m : M) (n : Int), vs = [v, .int n] ∧ At K H v m ∧ Q (.bl (lenM n m)) H
theorem fn_tup (b : Bi G.mg) (T : Top G "is_tuple_of" (top 3) ["thing", "count"]) : Fn G "is_tuple_of" 2 1 (spTup G.K) := by
  refine T.fn (N := ["thing", "count"]) ⟨rfl, rfl, rfl, by decide +kernel, rfl, by decide +kernel, by decide +kernel⟩ (fun vs H Q E h => ?_) (fun X vs H Q E d h => ?_)
  · obtain ⟨_, _, _, rfl, _⟩ := h
    rfl
  · have dd := d.toDef
    obtain ⟨v, m, n, rfl, hv, k⟩ := h
    show WB X _ _ [some v, some (.int n)] H
    refine wb_one ?_
    cases hv with
    | @tup a xs ms h1 hl h2 =>
      walk_at "wx"
      refine ite_t ?_
      walk_at "wx"
      refine rc_lenT dd h1 ?_
      walk_at "wx"
      rw [h2.len]
      exact k
    | _ =>
      walk_at "wx"
      exact ite_f k
end K02

namespace K02
variable {G : Gb}
/-! ### rising numbers -/
theorem rising_iff : ∀ ns : List Int, risingI ns = ((List.range (ns.length - 1)).map fun k => decide (ns.getD k 0 < ns.getD (k + 1) 0)).all id
  | [] => rfl
  | [_] => rfl
  | a :: b :: r => by
    have ih := rising_iff (b :: r)
    unfold risingI
    rw [ih, List.length_cons, List.length_cons, List.length_cons, Nat.add_sub_cancel, Nat.add_sub_cancel, List.range_succ_eq_map, List.map_cons, List.all_cons, List.map_map]
    rfl
def spRising (K : PySem.W.Frag) : Sp := fun vs H Q _ => ∃ (a : Addr) (ns : List Int), vs = [.ref a] ∧ SqL K H a (ns.map V.int) ∧ ns.length ≤ 1000 ∧ ∀ H', Same H H' → Q (.bl (risingI ns)) H'
theorem fn_rising (b : Bi G.mg) (T : Top G "is_rising" (top 4) ["numbers"]) : Fn G "is_rising" 1 1 (spRising G.K) := by
  refine T.fn (N := ["numbers", "k"]) ⟨rfl, rfl, rfl, by decide +kernel, rfl, by decide +kernel, by decide +kernel⟩ (fun vs H Q E h => ?_) (fun X vs H Q E d h => ?_)
  · obtain ⟨_, _, rfl, _⟩ := h
    rfl
  · have dd := d.toDef
    obtain ⟨a, ns, rfl, hq, hl, k⟩ := h
    show WB X _ _ [some (.ref a), none] H
    refine wb_one ?_
    walk_at "wx"
    refine we_lcR dd [("k", 1)] (by decide +kernel) (by decide +kernel) b.b_range (by intro _; rfl) (by rfl) ?_
    walk_at "wx"
    refine rc_lenL dd hq ?_
    walk_at "wE"
    walk_at "wR"
    refine lcR_map (n := ns.length - 1) (j := ((ns.map V.int).length : Nat) - 1) (fun i => some (.bl (decide (ns.getD i 0 < ns.getD (i + 1) 0)))) (by rw [List.length_map]; omega) (by rw [List.length_map]; omega) (by omega) (fun i hi H1 s1 R hR => ?_) (fun L H1 hL s1 h1 => ?_)
    · intro X' d'
      dsimp only [L2.wipe, List.map, List.set]
      walk_at "wg"
      refine ⟨rfl, fun X2 d2 => wts_nil (ite_t fun X3 d3 => ?_)⟩
      walk_at "wx"
      have g1 : ns[i]? = some (ns.getD i 0) := by rw [List.getD_eq_getElem?_getD, List.getElem?_eq_getElem (by omega)]; rfl
      have g2 : ns[i + 1]? = some (ns.getD (i + 1) 0) := by rw [List.getD_eq_getElem?_getD, List.getElem?_eq_getElem (by omega)]; rfl
      refine rx_list d3 (s1.seq hq) (atI_nat (by rw [List.getElem?_map, g1]; rfl)) ?_
      walk_at "wx"
      refine rx_list d3 (s1.seq hq) (show atI (ns.map V.int) ((i : Int) + 1) = some (.int (ns.getD (i + 1) 0)) from atI_nat (j := i + 1) (by rw [List.getElem?_map, g2]; rfl)) ?_
      walk_at "wx"
      exact hR _ (Same.refl _)
    · have e : (List.range (ns.length - 1)).filterMap (fun i => some (V.bl (decide (ns.getD i 0 < ns.getD (i + 1) 0)))) = ((List.range (ns.length - 1)).map fun i => decide (ns.getD i 0 < ns.getD (i + 1) 0)).map V.bl := by
        rw [List.filterMap_eq_map', List.map_map] <;> rfl
      rw [e] at h1
      walk_at "wx"
      refine rc_all dd (SqL.of h1) ?_
      rw [← rising_iff]
      exact k _ s1
/-! ### pairs -/
/-- a global that is a whole number -/
structure IntG (G : Gb) (x : Str) (i : Int) : Prop where
  is : ∃ u, G.mg x = some u ∧ RelV (.int i) u
theorem headOf {K : PySem.W.Frag} {H : Hp} {v : V} {m : M} (h : At K H v m) (hl : lenM 2 m = true) : ∃ (a : Addr) (x y : V) (p q : M), v = .ref a ∧ m = .tup [p, q] ∧ SqT K H a [x, y] ∧ At K H x p ∧ At K H y q := by
  cases h with
  | @tup a xs ms h1 hn h2 =>
    have e : ms.length = 2 := by
      have := of_decide_eq_true (show decide ((ms.length : Int) = 2) = true from hl)
      omega
    match ms, e with
    | [p, q], _ =>
      cases h2 with
      | @cons x vs _ _ g1 g2 =>
        cases g2 with
        | @cons y vs _ _ g2 g3 =>
          cases g3
          exact ⟨a, x, y, p, q, rfl, rfl, h1, g1, g2⟩
  | _ => cases hl
theorem pairM_eq {m : M} : (pairM m).isSome = (lenM 2 m && (match m with | .tup (p :: _) => fromM (-999) 999 p | _ => false)) := by
  unfold pairM lenM
  split
  · rename_i i _
    by_cases h : -999 ≤ i ∧ i ≤ 999
    · rw [if_pos h]
      show true = (decide _ && (decide _ && decide _))
      rw [decide_eq_true h.1, decide_eq_true h.2]
      rfl
    · rw [if_neg h]
      show false = (_ && (decide (-999 ≤ i) && decide (i ≤ 999)))
      rw [← Bool.decide_and, decide_eq_false h, Bool.and_false]
  · rename_i h
    cases m with
    | tup ms =>
      cases ms with
      | nil => rfl
      | cons p r =>
        by_cases e : ((((p :: r).length : Nat) : Int)) = 2
        · match r, e with
          | [q], _ =>
            cases p with
            | int i => exact absurd rfl (h i q)
            | _ => rfl
        · show false = (decide _ && _)
          rw [decide_eq_false e]
          rfl
    | _ => rfl
theorem pair_at {K : PySem.W.Frag} {H : Hp} {v : V} {m : M} (h : At K H v m) (e : (pairM m).isSome = true) : ∃ (a : Addr) (y : V) (i : Int), v = .ref a ∧ SqT K H a [.int i, y] ∧ pairM m = some i := by
  rw [pairM_eq] at e
  obtain ⟨e1, e2⟩ := Bool.and_eq_true_iff.mp e
  obtain ⟨a, x, y, p, q, rfl, rfl, h1, g1, g2⟩ := headOf h e1
  cases g1 with
  | int i =>
    obtain ⟨z1, z2⟩ := Bool.and_eq_true_iff.mp (show (decide (-999 ≤ i) && decide (i ≤ 999)) = true from e2)
    exact ⟨a, y, i, rfl, h1, if_pos ⟨of_decide_eq_true z1, of_decide_eq_true z2⟩⟩
  | _ => cases e2
theorem pairs_zs {K : PySem.W.Frag} {H : Hp} : ∀ {vs : List V} {ms : List M}, AtAll K H vs ms → (∀ m ∈ ms, (pairM m).isSome = true) → ∃ zs : List (Addr × V × Int), vs = zs.map (fun z => V.ref z.1) ∧ (∀ z ∈ zs, SqT K H z.1 [.int z.2.2, z.2.1]) ∧ ms.filterMap pairM = zs.map (·.2.2)
  | _, _, .nil, _ => ⟨[], rfl, (fun _ h => nomatch h), rfl⟩
  | _, _, .cons (m := m) h hs, e => by
    obtain ⟨zs, r1, r2, r3⟩ := pairs_zs hs fun m hm => e m (List.mem_cons_of_mem _ hm)
    obtain ⟨a, y, i, rfl, h1, h2⟩ := pair_at h (e m List.mem_cons_self)
    refine ⟨(a, y, i) :: zs, by rw [r1]; rfl, fun z hz => ?_, ?_⟩
    · rcases List.mem_cons.mp hz with rfl | hz
      · exact h1
      · exact r2 z hz
    · rw [List.filterMap_cons, h2, r3]
      rfl
def spPairs (K : PySem.W.Frag) : Sp := fun vs H Q _ => ∃ (v : V) (m : M), vs = [v] ∧ At K H v m ∧ ∀ H', Same H H' → Q (.bl (pairsM m)) H'
theorem fn_pairs (b : Bi G.mg) (FF : Fn G "is_number_from" 3 2 (spFrom G.K)) (FT : Fn G "is_tuple_of" 2 1 (spTup G.K)) (FR : Fn G "is_rising" 1 1 (spRising G.K)) (gL : IntG G "LEAST" (-999)) (gG : IntG G "GREATEST" 999) (T : Top G "are_pairs" (top 18) ["thing"]) : Fn G "are_pairs" 1 3 (spPairs G.K) := by
  refine T.fn (N := ["thing", "pair"]) ⟨rfl, rfl, rfl, by decide +kernel, rfl, by decide +kernel, by decide +kernel⟩ (fun vs H Q E h => ?_) (fun X vs H Q E d h => ?_)
  · obtain ⟨_, _, rfl, _⟩ := h
    rfl
  · have dd := d.toDef
    obtain ⟨v, m, rfl, hv, k⟩ := h
    show WB X _ _ [some v, none] H
    refine wb_cons ?_
    cases hv with
    | @tup a xs ms h1 hl h2 =>
      have k : ∀ H', Same H H' → Q (.bl (pairsM (.tup ms))) H' := k
      walk_at "wx"
      refine ite_f ?_
      walk_at "wx"
      refine ⟨_, .inr (.inl ⟨xs, by rw [d.K]; exact h1, rfl⟩), ?_⟩
      walk_at "wx"
      cases h2 with
      | nil =>
        refine ite_t ?_
        walk_at "wx"
        exact k _ (Same.refl _)
      | @cons x vs p ps g1 g2 =>
        have h2 := AtAll.cons g1 g2
        refine ite_f ?_
        walk_at "wS"
        walk_at "wS"
        generalize hx : x :: vs = xs at h1 hl h2 ⊢
        generalize hm : p :: ps = ms at k h2
        have hpm : ∀ m ∈ ms, (pairM m).isSome = false → ∀ H', Same H H' → Q (.bl false) H' := fun m hmm e H' s => by
          have k := k H' s
          have z : pairsM (.tup ms) = false := by
            rw [← hm] at hmm ⊢
            show ((p :: ps).all (fun q => (pairM q).isSome) && _) = false
            have : (p :: ps).all (fun q => (pairM q).isSome) = false := by
              rw [Bool.eq_false_iff]
              intro w
              have := List.all_eq_true.mp w m hmm
              rw [e] at this
              cases this
            rw [this, Bool.false_and]
          rw [z] at k
          exact k
        refine ws_forT d (by intro _; rfl) ?_
        walk_at "wn"
        refine ⟨a, xs, rfl, h1, fun i σ H' => Same H H' ∧ (∀ m ∈ ms.take i, (pairM m).isSome = true) ∧ ∃ v1, σ = [some (.ref a), v1], ⟨Same.refl _, (fun _ h => by simp at h), _, rfl⟩, fun i σ H' _ h => h.1.tup h1, ?_, ?_⟩
        · rintro i x σ H' hi ⟨s1, hok, v1, rfl⟩
          obtain ⟨m, hmi, hv⟩ := h2.get hi
          have hmem := List.mem_of_getElem? hmi
          have hv := At.same s1 m x hv
          walk_at "wG"
          walk_at "wx"
          refine we_call dd FT (by decide) (by decide +kernel) (by rfl) (by rfl) ?_
          walk_at "wA"
          walk_at "wn"
          walk_at "wA"
          walk_at "wE"
          walk_at "wA"
          refine ⟨x, m, 2, rfl, hv, ?_⟩
          walk_at "wx"
          cases el : lenM 2 m with
          | false =>
            refine ite_t (ite_t ?_)
            walk_at "wx"
            refine hpm m hmem ?_ _ s1
            rw [pairM_eq, el, Bool.false_and]
          | true =>
            obtain ⟨c, u, w, m1, m2, rfl, rfl, t1, g3, g4⟩ := headOf hv el
            refine ite_f ?_
            walk_at "wx"
            obtain ⟨uL, mL, rL⟩ := gL.is
            obtain ⟨uG, mG, rG⟩ := gG.is
            refine we_call dd FF (by decide) (by decide +kernel) (by rfl) (by rfl) ?_
            walk_at "wA"
            walk_at "wE"
            walk_at "wn"
            walk_at "wE"
            refine rx_tup dd t1 (atI_nat (j := 0) rfl) ?_
            walk_at "wA"
            refine we_glob dd (v := .int (-999)) (by decide +kernel) mL rL ?_
            walk_at "wA"
            refine we_glob dd (v := .int 999) (by decide +kernel) mG rG ?_
            walk_at "wA"
            refine ⟨u, m1, -999, 999, rfl, g3, ?_⟩
            walk_at "wx"
            have ep : (pairM (.tup [m1, m2])).isSome = fromM (-999) 999 m1 := by
              rw [pairM_eq, el]
              rfl
            cases ef : fromM (-999) 999 m1 with
            | false =>
              refine ite_t ?_
              walk_at "wx"
              exact hpm _ hmem (by rw [ep, ef]) _ s1
            | true =>
              refine ite_f ?_
              walk_at "wx"
              refine ⟨s1, fun m hm => ?_, _, rfl⟩
              rw [take_succ hmi] at hm
              rcases List.mem_append.mp hm with hm | hm
              · exact hok m hm
              · rw [List.mem_singleton.mp hm, ep, ef]
        · rintro σ H' ⟨s1, hok, v1, rfl⟩
          rw [h2.len, List.take_length] at hok
          obtain ⟨zs, rfl, z2, z3⟩ := pairs_zs (AtAll.same s1 _ _ h2) hok
          have hz : zs.length ≤ 1000 := by rw [List.length_map] at hl; exact hl
          walk_at "wx"
          refine we_call dd FR (by decide) (by decide +kernel) (by rfl) (by rfl) ?_
          walk_at "wA"
          refine we_lcT dd [("pair", 1)] (by decide +kernel) (by intro _; rfl) ?_
          walk_at "wE"
          refine lcT_map (fun z : Addr × V × Int => V.ref z.1) (fun z => some (.int z.2.2)) (s1.tup h1) (by omega) (fun z hzm H2 s2 R hR => ?_) (fun L H2 hL s2 h3 => ?_)
          · intro X' d'
            dsimp only [L2.wipe, List.map, List.set]
            walk_at "wg"
            refine ⟨rfl, fun X2 d2 => wts_nil (ite_t fun X3 d3 => ?_)⟩
            walk_at "wx"
            exact rx_tup d3 (s2.tup (z2 z hzm)) (atI_nat (j := 0) rfl) (hR _ (Same.refl _))
          · walk_at "wA"
            have e3 : zs.filterMap (fun z => some (V.int z.2.2)) = (zs.map (·.2.2)).map V.int := by
              rw [List.filterMap_eq_map', List.map_map] <;> rfl
            rw [e3] at h3
            refine ⟨L, zs.map (·.2.2), rfl, SqL.of h3, by rw [List.length_map]; exact hz, fun H4 s4 => ?_⟩
            have k := k H4 (s1.trans (s2.trans s4))
            have ez : pairsM (.tup ms) = risingI (zs.map (·.2.2)) := by
              rw [← z3, ← hm]
              show ((p :: ps).all (fun q => (pairM q).isSome) && _) = _
              rw [hm, List.all_eq_true.mpr hok, Bool.true_and]
            rw [ez] at k
            exact k
    | _ =>
      walk_at "wy"
      exact k _ (Same.refl _)
end K02

namespace K02
variable {G : Gb}
theorem one_x {a : Nat} : decide (tx [a] = ("x" : Str)) = decide (a = 120) := by rw [show ("x" : Str) = tx [120] from by decide +kernel]; exact one_dec
theorem one_n {a : Nat} : decide (tx [a] = ("n" : Str)) = decide (a = 110) := by rw [show ("n" : Str) = tx [110] from by decide +kernel]; exact one_dec
theorem one_k {a : Nat} : decide (tx [a] = ("k" : Str)) = decide (a = 107) := by rw [show ("k" : Str) = tx [107] from by decide +kernel]; exact one_dec
theorem one_e {a : Nat} : decide (tx [a] = ("e" : Str)) = decide (a = 101) := by rw [show ("e" : Str) = tx [101] from by decide +kernel]; exact one_dec
def spSlot (K : PySem.W.Frag) : Sp := fun vs H Q _ => ∃ (c : Nat) (v : V) (m : M), vs = [.str (tx [c]), v] ∧ At K H v m ∧ ∀ H', Same H H' → Q (.bl (slotM c m)) H'
theorem fn_slot (FN : Fn G "is_name" 1 2 (spNameM G.K)) (FF : Fn G "is_number_from" 3 2 (spFrom G.K)) (FP : Fn G "are_pairs" 1 3 (spPairs G.K)) (gL : IntG G "LEAST" (-999)) (gG : IntG G "GREATEST" 999) (T : Top G "fits_slot" (top 17) ["slot", "thing"]) : Fn G "fits_slot" 2 4 (spSlot G.K) := by
  refine T.fn (N := ["slot", "thing"]) ⟨rfl, rfl, rfl, by decide +kernel, rfl, by decide +kernel, by decide +kernel⟩ (fun vs H Q E h => ?_) (fun X vs H Q E d h => ?_)
  · obtain ⟨_, _, _, rfl, _⟩ := h
    rfl
  · have dd := d.toDef
    obtain ⟨c, v, m, rfl, hv, k⟩ := h
    show WB X _ _ [some (.str (tx [c])), some v] H
    obtain ⟨uL, mL, rL⟩ := gL.is
    obtain ⟨uG, mG, rG⟩ := gG.is
    unfold slotM at k
    refine wb_cons ?_
    walk_at "wx"
    rw [one_x]
    by_cases h1 : c = 120
    · rw [decide_eq_true h1]
      rw [if_pos h1] at k
      refine ite_t ?_
      walk_at "wx"
      refine we_call dd FN (by decide) (by decide +kernel) (by rfl) (by rfl) ?_
      walk_at "wA"
      walk_at "wn"
      walk_at "wA"
      exact ⟨v, m, rfl, hv, k⟩
    rw [decide_eq_false h1]
    rw [if_neg h1] at k
    refine ite_f ?_
    walk_at "wx"
    rw [one_n]
    by_cases h2 : c = 110
    · rw [decide_eq_true h2]
      rw [if_pos h2] at k
      refine ite_t ?_
      walk_at "wx"
      refine we_call dd FF (by decide) (by decide +kernel) (by rfl) (by rfl) ?_
      walk_at "wA"
      walk_at "wn"
      walk_at "wA"
      refine we_glob dd (v := .int (-999)) (by decide +kernel) mL rL ?_
      walk_at "wA"
      refine we_glob dd (v := .int 999) (by decide +kernel) mG rG ?_
      walk_at "wA"
      exact ⟨v, m, -999, 999, rfl, hv, k _ (Same.refl _)⟩
    rw [decide_eq_false h2]
    rw [if_neg h2] at k
    refine ite_f ?_
    walk_at "wx"
    rw [one_k]
    by_cases h3 : c = 107
    · rw [decide_eq_true h3]
      rw [if_pos h3] at k
      refine ite_t ?_
      walk_at "wx"
      refine we_call dd FF (by decide) (by decide +kernel) (by rfl) (by rfl) ?_
      walk_at "wA"
      walk_at "wn"
      walk_at "wA"
      walk_at "wE"
      walk_at "wA"
      walk_at "wE"
      walk_at "wA"
      exact ⟨v, m, 1, 9, rfl, hv, k _ (Same.refl _)⟩
    rw [decide_eq_false h3]
    rw [if_neg h3] at k
    refine ite_f ?_
    walk_at "wx"
    rw [one_e]
    by_cases h4 : c = 101
    · rw [decide_eq_true h4]
      rw [if_pos h4] at k
      exact ite_t (k _ (Same.refl _))
    rw [decide_eq_false h4]
    rw [if_neg h4] at k
    refine ite_f ?_
    walk_at "wx"
    refine we_call dd FP (by decide) (by decide +kernel) (by rfl) (by rfl) ?_
    walk_at "wA"
    walk_at "wn"
    walk_at "wA"
    exact ⟨v, m, rfl, hv, k⟩
/-! ### shapes -/
theorem slots_all : ∀ (cs : List Nat) (ms : List M), cs.length = ms.length → slotsM cs ms = (cs.zipIdx.map fun p => slotM p.1 (ms.getD p.2 .non)).all id := by
  have key : ∀ (cs : List Nat) (ms pre : List M), cs.length = ms.length → slotsM cs ms = ((cs.zipIdx pre.length).map fun p => slotM p.1 ((pre ++ ms).getD p.2 .non)).all id := by
    intro cs
    induction cs with
    | nil =>
      intro ms pre h
      match ms, h with
      | [], _ => rfl
    | cons c cs ih =>
      intro ms pre h
      match ms, h with
      | m :: ms, h =>
        have e : pre ++ m :: ms = (pre ++ [m]) ++ ms := by rw [List.append_assoc]; rfl
        have i2 := ih ms (pre ++ [m]) (by simpa using h)
        rw [List.length_append, List.length_singleton] at i2
        rw [List.zipIdx_cons, List.map_cons, List.all_cons, e, ← i2]
        show (slotM c m && slotsM cs ms) = (id (slotM c (((pre ++ [m]) ++ ms).getD pre.length .non)) && _)
        have g : ((pre ++ [m]) ++ ms).getD pre.length .non = m := by
          rw [List.getD_eq_getElem?_getD, List.append_assoc, List.getElem?_append_right (Nat.le_refl _), Nat.sub_self]
          rfl
        rw [g]
        rfl
  intro cs ms h
  have := key cs ms [] h
  rw [this]
  rfl
theorem slots_len : ∀ (cs : List Nat) (ms : List M), cs.length ≠ ms.length → slotsM cs ms = false
  | [], [], h => absurd rfl h
  | [], _ :: _, _ => rfl
  | _ :: _, [], _ => rfl
  | c :: cs, m :: ms, h => by
    have := slots_len cs ms (fun q => h (by rw [List.length_cons, List.length_cons, q]))
    show (slotM c m && slotsM cs ms) = false
    rw [this, Bool.and_false]
def spShaped (K : PySem.W.Frag) : Sp := fun vs H Q _ => ∃ (v : V) (m : M), vs = [v] ∧ At K H v m ∧ ∀ H', Same H H' → Q (.bl (shapedM m)) H'
end K02

namespace K02
variable {G : Gb}
theorem ranged_mem {w : Str} : decide (w ∈ (["input", "settle"] : List Str)) = (decide (w = "input") || decide (w = "settle")) := by
  rw [Bool.eq_iff_iff]
  simp
theorem at_tup {K : PySem.W.Frag} {H : Hp} {xs : List V} {ms : List M} (h : AtAll K H xs ms) {i : Nat} {m : M} (e : ms[i]? = some m) : ∃ x, atI xs (i : Int) = some x ∧ At K H x m := by
  obtain ⟨x, h1, h2⟩ := h.get2 e
  exact ⟨x, atI_nat h1, h2⟩
theorem ranged_ints {w f : Str} {ms : List M} (hf : forms.lookup w = some f) (hs : slotsM f.cps.toList ms = true) (hr : (decide (w = "input") || decide (w = "settle")) = true) : ∃ i j : Int, ms[1]? = some (.int i) ∧ ms[2]? = some (.int j) := by
  have key : ∀ (a b c : Nat) (cs : List Nat) (ms : List M), b = 110 → c = 110 → slotsM (a :: b :: c :: cs) ms = true → ∃ i j : Int, ms[1]? = some (.int i) ∧ ms[2]? = some (.int j) := by
    rintro a b c cs ms rfl rfl h
    match ms, h with
    | m0 :: m1 :: m2 :: r, h =>
      obtain ⟨_, h⟩ := Bool.and_eq_true_iff.mp (show (slotM a m0 && slotsM (110 :: 110 :: cs) (m1 :: m2 :: r)) = true from h)
      obtain ⟨h1, h⟩ := Bool.and_eq_true_iff.mp (show (slotM 110 m1 && slotsM (110 :: cs) (m2 :: r)) = true from h)
      obtain ⟨h2, _⟩ := Bool.and_eq_true_iff.mp (show (slotM 110 m2 && slotsM cs r) = true from h)
      cases m1 with
      | int i =>
        cases m2 with
        | int j => exact ⟨i, j, rfl, rfl⟩
        | _ => cases h2
      | _ => cases h1
    | [], h => cases h
    | [_], h =>
      obtain ⟨_, h⟩ := Bool.and_eq_true_iff.mp (show (_ && slotsM (110 :: 110 :: cs) []) = true from h)
      cases h
    | [_, _], h =>
      obtain ⟨_, h⟩ := Bool.and_eq_true_iff.mp (show (_ && slotsM (110 :: 110 :: cs) [_]) = true from h)
      obtain ⟨_, h⟩ := Bool.and_eq_true_iff.mp (show (_ && slotsM (110 :: cs) []) = true from h)
      cases h
  rcases Bool.or_eq_true_iff.mp hr with h | h
  · have h := of_decide_eq_true h
    subst h
    rw [show forms.lookup ("input" : Str) = some "xnn" from by decide +kernel] at hf
    cases hf
    rw [show ("xnn" : Str).cps.toList = [120, 110, 110] from by decide +kernel] at hs
    exact key _ _ _ _ _ rfl rfl hs
  · have h := of_decide_eq_true h
    subst h
    rw [show forms.lookup ("settle" : Str) = some "xnnee" from by decide +kernel] at hf
    cases hf
    rw [show ("xnnee" : Str).cps.toList = [120, 110, 110, 101, 101] from by decide +kernel] at hs
    exact key _ _ _ _ _ rfl rfl hs
theorem forms_len {w f : Str} (h : forms.lookup w = some f) : f.cps.toList.length ≤ 5 := by
  have key : ∀ (l : List (Str × Str)), (l.all fun p => decide (p.2.cps.toList.length ≤ 5)) = true → ∀ {f}, l.lookup w = some f → f.cps.toList.length ≤ 5 := by
    intro l
    induction l with
    | nil => intro _ f h; cases h
    | cons p l ih =>
      intro hl f h
      obtain ⟨h1, h2⟩ := Bool.and_eq_true_iff.mp (show (_ && _) = true from hl)
      obtain ⟨a, b⟩ := p
      rw [List.lookup_cons] at h
      split at h
      · cases h
        exact of_decide_eq_true h1
      · exact ih h2 h
  exact key forms (by decide +kernel) h
theorem shaped_eq {w : Str} {ms : List M} : shapedM (.tup (.str w :: ms)) = (match forms.lookup w with
    | some f => slotsM f.cps.toList ms && (!(decide (w = "input") || decide (w = "settle")) || leM (ms.getD 1 .non) (ms.getD 2 .non))
    | none => false) := rfl
theorem fn_shaped (b : Bi G.mg) (FS : Fn G "fits_slot" 2 4 (spSlot G.K)) (PF : FormsG G "FORMS" forms) (PR : TupG G "RANGED" ["input", "settle"]) (T : Top G "is_shaped" (top 16) ["thing"]) : Fn G "is_shaped" 1 5 (spShaped G.K) := by
  refine T.fn (N := ["thing", "form", "k", "slot"]) ⟨rfl, rfl, rfl, by decide +kernel, rfl, by decide +kernel, by decide +kernel⟩ (fun vs H Q E h => ?_) (fun X vs H Q E d h => ?_)
  · obtain ⟨_, _, rfl, _⟩ := h
    rfl
  · have dd := d.toDef
    obtain ⟨v, m, rfl, hv, k⟩ := h
    show WB X _ _ [some v, none, none, none] H
    obtain ⟨aF, es, nF, mF, DF, hF⟩ := PF.is
    refine wb_cons ?_
    cases hv with
    | @tup a xs ms h1 hl h2 =>
      have k : ∀ H', Same H H' → Q (.bl (shapedM (.tup ms))) H' := k
      walk_at "wx"
      refine ite_f ?_
      walk_at "wx"
      refine ⟨_, .inr (.inl ⟨xs, by rw [d.K]; exact h1, rfl⟩), ?_⟩
      walk_at "wx"
      cases h2 with
      | nil =>
        walk_at "wy"
        exact k _ (Same.refl _)
      | @cons x vs p ps g1 g2 =>
        refine ite_f ?_
        walk_at "wx"
        refine rx_tup dd h1 (atI_nat (j := 0) rfl) ?_
        walk_at "wx"
        have ns : (∀ z, p ≠ .str z) → shapedM (.tup (p :: ps)) = false := fun hz => by
          cases p with
          | str z => exact absurd rfl (hz z)
          | _ => rfl
        cases g1 with
        | str w hw =>
          refine rc_isi dd (ClsV.ty _) (.base (.str _)) (kit_bt (r := true) (by decide +kernel)) ?_
          walk_at "wx"
          refine ite_f ?_
          walk_at "wx"
          refine rx_tup dd h1 (atI_nat (j := 0) rfl) ?_
          walk_at "wx"
          refine we_glob dd (v := .ref aF) (by decide +kernel) mF rfl ?_
          refine ro_notInF dd DF hF ?_
          walk_at "wx"
          cases el : forms.lookup w with
          | none =>
            refine ite_t ?_
            walk_at "wx"
            have k := k _ (Same.refl _)
            rw [shaped_eq, el] at k
            exact k
          | some f =>
            refine ite_f ?_
            walk_at "wx"
            refine we_glob dd (v := .ref aF) (by decide +kernel) mF rfl ?_
            walk_at "wx"
            refine rx_tup dd h1 (atI_nat (j := 0) rfl) ?_
            refine rx_form dd DF hF el ?_
            walk_at "wx"
            rw [shaped_eq, el] at k
            have k : ∀ H', Same H H' → Q (.bl (slotsM f.cps.toList ps && (!(decide (w = "input") || decide (w = "settle")) || leM (ps.getD 1 .non) (ps.getD 2 .non)))) H' := k
            have hfl := forms_len el
            rw [← tx_of f]
            rw [← tx_of f] at k
            rw [tx_list] at k
            generalize ecs : f.cps.toList = cs at k hfl ⊢
            refine rc_lenT dd h1 ?_
            walk_at "wx"
            refine rc_lenS (by rw [tx_len]; exact len_le (by omega)) ?_
            rw [tx_len]
            walk_at "wx"
            by_cases hlen : cs.length = ps.length
            · have e1 : (((V.str w :: vs).length : Nat) : Int) = (cs.length : Int) + 1 := by
                have := g2.len
                rw [List.length_cons]
                omega
              rw [decide_eq_true e1]
              refine ite_f ?_
              walk_at "wx"
              refine we_lcE dd [("k", 2), ("slot", 3)] (by decide +kernel) (by decide +kernel) b.b_enumerate (by intro _; rfl) (by rfl) ?_
              walk_at "wA"
              walk_at "wn"
              walk_at "wA"
              refine lcE_map (fun i c => some (.bl (slotM c (ps.getD i .non)))) (by omega) (fun i c hc H1 T s1 hT R hR => ?_) (fun L H1 hL s1 h3 => ?_)
              · intro X' d'
                dsimp only [L2.wipe, List.map, List.set]
                refine wg_tup d' (SqT.of hT) (by rfl) (by rfl) ?_
                repeat walk_at "wG"
                refine ⟨rfl, fun X2 d2 => wts_nil (ite_t fun X3 d3 => ?_)⟩
                have hi : i < ps.length := by
                  rw [← hlen]
                  exact (List.getElem?_eq_some_iff.mp hc).1
                have hm : ps[i]? = some (ps.getD i .non) := by
                  rw [List.getD_eq_getElem?_getD, List.getElem?_eq_getElem hi]
                  rfl
                obtain ⟨y, hy, ay⟩ := g2.get2 hm
                walk_at "wx"
                refine we_call d3 FS (by decide) (by decide +kernel) (by rfl) (by rfl) ?_
                walk_at "wA"
                walk_at "wn"
                walk_at "wA"
                walk_at "wE"
                walk_at "wn"
                walk_at "wE"
                walk_at "wn"
                walk_at "wE"
                walk_at "wR"
                refine rx_tup d3 (s1.tup h1) (show atI (V.str w :: vs) ((i : Int) + 1) = some y from atI_nat (j := i + 1) (by rw [List.getElem?_cons_succ]; exact hy)) ?_
                walk_at "wA"
                exact ⟨c, y, _, rfl, At.same s1 _ _ ay, fun H2 s2 => hR _ s2⟩
              · have e2 : cs.zipIdx.filterMap (fun p => some (V.bl (slotM p.1 (ps.getD p.2 .non)))) = (cs.zipIdx.map fun p => slotM p.1 (ps.getD p.2 .non)).map V.bl := by
                  rw [List.filterMap_eq_map', List.map_map] <;> rfl
                rw [e2] at h3
                walk_at "wx"
                refine rc_all dd (SqL.of h3) ?_
                rw [← slots_all cs ps hlen]
                walk_at "wx"
                cases es1 : slotsM cs ps with
                | false =>
                  refine ite_t ?_
                  walk_at "wx"
                  have k := k _ s1
                  rw [es1] at k
                  exact k
                | true =>
                  refine ite_f ?_
                  walk_at "wx"
                  refine rx_tup dd (s1.tup h1) (atI_nat (j := 0) rfl) ?_
                  walk_at "wx"
                  obtain ⟨aR, mR, sR⟩ := PR.is
                  refine we_glob dd (v := .ref aR) (by decide +kernel) mR rfl ?_
                  refine ro_notInG dd (.inl (sR H1)) ?_
                  rw [ranged_mem]
                  walk_at "wx"
                  rw [es1] at k
                  cases er : (decide (w = "input") || decide (w = "settle")) with
                  | false =>
                    refine ite_t ?_
                    have k := k _ s1
                    rw [er] at k
                    exact k
                  | true =>
                    refine ite_f ?_
                    obtain ⟨i, j, p1, p2⟩ := ranged_ints el (by rw [ecs]; exact es1) er
                    obtain ⟨y1, q1, r1⟩ := g2.get2 p1
                    obtain ⟨y2, q2, r2⟩ := g2.get2 p2
                    cases r1
                    cases r2
                    walk_at "wx"
                    refine rx_tup dd (s1.tup h1) (atI_nat (j := 2) q1) ?_
                    walk_at "wx"
                    refine rx_tup dd (s1.tup h1) (atI_nat (j := 3) q2) ?_
                    walk_at "wx"
                    have k := k _ s1
                    rw [er, List.getD_eq_getElem?_getD, List.getD_eq_getElem?_getD, p1, p2] at k
                    exact k
            · have e1 : ¬ (((V.str w :: vs).length : Nat) : Int) = (cs.length : Int) + 1 := by
                have := g2.len
                rw [List.length_cons]
                omega
              rw [decide_eq_false e1]
              refine ite_t ?_
              walk_at "wx"
              have k := k _ (Same.refl _)
              rw [slots_len _ _ hlen, Bool.false_and] at k
              exact k
        | _ => 
          refine rc_isi dd (ClsV.ty _) (by walk_at "wTy") (kit_bt (r := false) (by decide +kernel)) ?_
          walk_at "wy"
          have k := k _ (Same.refl _)
          exact k
    | _ =>
      walk_at "wy"
      exact k _ (Same.refl _)
end K02

namespace K02
variable {G : Gb}
theorem rm_extend {X : Cx} {H : Hp} {Q : VK} {l b : Addr} {xs zs : List V} (h : H l = some (.lst xs)) (hb : H b = some (.lst zs)) (hl : xs.length + zs.length ≤ sizeLine) (q : Q .non (upd H l (.lst (xs ++ zs)))) : RM X "list.extend" (.ref l) [.ref b] H Q := ⟨_, mt_extend, l, b, xs, zs, rfl, rfl, h, hb, hl, q⟩
/-! ### the parts of a shaped tree -/
def sndM : M → M
  | .tup [_, y] => y
  | _ => .non
def partS (c : Nat) (m : M) : List M :=
  if c = 101 then [m] else if c = 112 then (match m with
    | .tup ps => ps.map sndM
    | _ => []) else []
def partsL (cs : List Nat) (ms : List M) : List M := (cs.zip ms).flatMap fun p => partS p.1 p.2
def partsM : M → List M
  | .tup (.str w :: ms) => match forms.lookup w with
    | some f => partsL f.cps.toList ms
    | none => []
  | _ => []
/-- pairs of a path and a part, the parts as they stood at H -/
def PartsAt (K : PySem.W.Frag) (H : Hp) (xs : List V) (H' : Hp) (ps : List M) : Prop :=
  ∃ as : List Addr, xs = as.map V.ref ∧ as.length = ps.length ∧ ∀ (i : Nat) (a : Addr) (m : M), as[i]? = some a → ps[i]? = some m → ∃ q y, H' a = some (.tup [q, y]) ∧ At K H y m
theorem PartsAt.nil {K : PySem.W.Frag} {H H' : Hp} : PartsAt K H [] H' [] := ⟨[], rfl, rfl, fun i a m h => by simp at h⟩
theorem PartsAt.same {K : PySem.W.Frag} {H H' H2 : Hp} {xs : List V} {ps : List M} (h : PartsAt K H xs H' ps) (e : ∀ a ys, H' a = some (.tup ys) → H2 a = some (.tup ys)) : PartsAt K H xs H2 ps := by
  obtain ⟨as, h1, h2, h3⟩ := h
  refine ⟨as, h1, h2, fun i a m p1 p2 => ?_⟩
  obtain ⟨q, y, g1, g2⟩ := h3 i a m p1 p2
  exact ⟨q, y, e _ _ g1, g2⟩
theorem PartsAt.app {K : PySem.W.Frag} {H H' : Hp} {xs ys : List V} {ps qs : List M} (h : PartsAt K H xs H' ps) (h2 : PartsAt K H ys H' qs) : PartsAt K H (xs ++ ys) H' (ps ++ qs) := by
  obtain ⟨as, a1, a2, a3⟩ := h
  obtain ⟨bs, b1, b2, b3⟩ := h2
  refine ⟨as ++ bs, by rw [a1, b1, List.map_append], by rw [List.length_append, List.length_append, a2, b2], fun i a m p1 p2 => ?_⟩
  by_cases hi : i < as.length
  · rw [List.getElem?_append_left hi] at p1
    rw [List.getElem?_append_left (by omega)] at p2
    exact a3 i a m p1 p2
  · rw [List.getElem?_append_right (by omega)] at p1 p2
    rw [← a2] at p2
    exact b3 _ a m p1 p2
theorem PartsAt.one {K : PySem.W.Frag} {H H' : Hp} {a : Addr} {q y : V} {m : M} (h : H' a = some (.tup [q, y])) (g : At K H y m) : PartsAt K H [.ref a] H' [m] := by
  refine ⟨[a], rfl, rfl, fun i b m' p1 p2 => ?_⟩
  match i with
  | 0 =>
    cases p1
    cases p2
    exact ⟨q, y, h, g⟩
  | i + 1 => simp at p1
theorem PartsAt.len {K : PySem.W.Frag} {H H' : Hp} {xs : List V} {ps : List M} (h : PartsAt K H xs H' ps) : xs.length = ps.length := by
  obtain ⟨as, h1, h2, _⟩ := h
  rw [h1, List.length_map, h2]
theorem zip_take {cs : List Nat} {ms : List M} {i c : Nat} {m : M} (h1 : cs[i]? = some c) (h2 : ms[i]? = some m) : (((cs.zip ms).take (i + 1)).flatMap fun p => partS p.1 p.2) = (((cs.zip ms).take i).flatMap fun p => partS p.1 p.2) ++ partS c m := by
  have e : (cs.zip ms)[i]? = some (c, m) := by
    rw [List.getElem?_zip_eq_some]
    exact ⟨h1, h2⟩
  rw [take_succ e, List.flatMap_append]
  simp
/-- pairs without end: the parts of one slot are not many -/
theorem partS_len {K : PySem.W.Frag} {H : Hp} {v : V} {c : Nat} {m : M} (h : At K H v m) : (partS c m).length ≤ 1000 := by
  unfold partS
  by_cases h1 : c = 101
  · rw [if_pos h1]
    show 1 ≤ 1000
    omega
  · rw [if_neg h1]
    by_cases h2 : c = 112
    · rw [if_pos h2]
      cases h with
      | tup h hl h2 =>
        show (List.map sndM _).length ≤ 1000
        rw [List.length_map, ← h2.len]
        exact hl
      | _ => exact Nat.zero_le _
    · rw [if_neg h2]
      exact Nat.zero_le _
def spParts (K : PySem.W.Frag) : Sp := fun vs H Q _ => ∃ (H0 : Hp) (v : V) (m : M), vs = [v] ∧ Same H0 H ∧ At K H0 v m ∧ shapedM m = true ∧ ∀ (F : Addr) (xs : List V) (H' : Hp), H F = none → Same H H' → H' F = some (.lst xs) → PartsAt K H0 xs H' (partsM m) → xs.length ≤ 5000 → Q (.ref F) H'
theorem one_p {a : Nat} : decide (tx [a] = ("p" : Str)) = decide (a = 112) := by rw [show ("p" : Str) = tx [112] from by decide +kernel]; exact one_dec
theorem shaped_form {m : M} (h : shapedM m = true) : ∃ w ms f, m = .tup (.str w :: ms) ∧ forms.lookup w = some f ∧ slotsM f.cps.toList ms = true := by
  unfold shapedM at h
  split at h
  · rename_i w ms
    cases e : forms.lookup w with
    | none => rw [e] at h; cases h
    | some f =>
      rw [e] at h
      exact ⟨w, ms, f, rfl, e, (Bool.and_eq_true_iff.mp h).1⟩
  · cases h
theorem slots_at : ∀ {cs : List Nat} {ms : List M}, slotsM cs ms = true → cs.length = ms.length ∧ ∀ (i c : Nat) (m : M), cs[i]? = some c → ms[i]? = some m → slotM c m = true
  | [], [], _ => ⟨rfl, fun i c m h => by simp at h⟩
  | [], _ :: _, h => by cases h
  | _ :: _, [], h => by cases h
  | c :: cs, m :: ms, h => by
    obtain ⟨h1, h2⟩ := Bool.and_eq_true_iff.mp (show (slotM c m && slotsM cs ms) = true from h)
    obtain ⟨i1, i2⟩ := slots_at h2
    refine ⟨by rw [List.length_cons, List.length_cons, i1], fun i c' m' p1 p2 => ?_⟩
    match i with
    | 0 =>
      cases p1
      cases p2
      exact h1
    | i + 1 => exact i2 i c' m' p1 p2
end K02

namespace K02
variable {G : Gb}
theorem tup_ne {H : Hp} {a F : Addr} {xs ys : List V} (h : H a = some (.tup ys)) (hF : H F = some (.lst xs)) : a ≠ F := fun e => by
  rw [e, hF] at h
  cases h
theorem pair_snd {K : PySem.W.Frag} {H : Hp} {v : V} {q : M} (h : At K H v q) (e : (pairM q).isSome = true) : ∃ (a : Addr) (x y : V), v = .ref a ∧ SqT K H a [x, y] ∧ At K H y (sndM q) := by
  rw [pairM_eq] at e
  obtain ⟨a, x, y, p, r, rfl, rfl, h1, _, g2⟩ := headOf h (Bool.and_eq_true_iff.mp e).1
  exact ⟨a, x, y, rfl, h1, g2⟩
theorem pairs_all {m : M} (h : pairsM m = true) : ∃ pps, m = .tup pps ∧ ∀ q ∈ pps, (pairM q).isSome = true := by
  unfold pairsM at h
  split at h
  · rename_i p ps
    exact ⟨p :: ps, rfl, List.all_eq_true.mp (Bool.and_eq_true_iff.mp h).1⟩
  · cases h
theorem fn_parts (b : Bi G.mg) (PF : FormsG G "FORMS" forms) (T : Top G "parts_of" (top 19) ["thing"]) : Fn G "parts_of" 1 1 (spParts G.K) := by
  refine T.fn (N := ["thing", "found", "k", "slot", "j", "pair"]) ⟨rfl, rfl, rfl, by decide +kernel, rfl, by decide +kernel, by decide +kernel⟩ (fun vs H Q E h => ?_) (fun X vs H Q E d h => ?_)
  · obtain ⟨_, _, _, rfl, _⟩ := h
    rfl
  · have dd := d.toDef
    obtain ⟨H0, v, m, rfl, s0, hv, hsh, k⟩ := h
    show WB X _ _ [some v, none, none, none, none, none] H
    obtain ⟨aF, es, nF, mF, DF, hF⟩ := PF.is
    obtain ⟨w, ms, f, rfl, el, hs⟩ := shaped_form hsh
    obtain ⟨hlen, hat⟩ := slots_at hs
    have hfl := forms_len el
    have epm : partsM (.tup (.str w :: ms)) = partsL f.cps.toList ms := by
      show (match forms.lookup w with | some f => partsL f.cps.toList ms | none => []) = _
      rw [el]
    rw [epm] at k
    unfold partsL at k
    have ef := tx_of f
    generalize f.cps.toList = cs at k hs hlen hat hfl ef
    cases hv with
    | @tup a ys _ h1 hl h2 =>
      cases h2 with
      | @cons x vs _ _ g1 g2 =>
        cases g1
        refine wb_cons ?_
        walk_at "wx"
        refine ⟨by decide, fun F hF0 => ?_⟩
        walk_at "wS"
        refine ws_forE d (by decide +kernel) b.b_enumerate (by intro _; rfl) (by rfl) ?_
        walk_at "wA"
        walk_at "wE"
        refine we_glob dd (v := .ref aF) (by decide +kernel) mF rfl ?_
        walk_at "wE"
        walk_at "wn"
        walk_at "wE"
        refine rx_tup dd ((s0.trans (same_new hF0)).tup h1) (atI_nat (j := 0) rfl) ?_
        refine rx_form dd DF hF el ?_
        walk_at "wA"
        refine ⟨cs, by rw [← ef], fun i σ H' => ∃ (xs : List V) (v2 v3 : Option V), Same H H' ∧ H' F = some (.lst xs) ∧ PartsAt G.K H0 xs H' (((cs.zip ms).take i).flatMap fun p => partS p.1 p.2) ∧ xs.length ≤ i * 1000 ∧ σ = [some (.ref a), some (.ref F), v2, v3, none, none], ⟨[], _, _, same_new hF0, upd_same, PartsAt.nil, Nat.le_refl _, rfl⟩, ?_, ?_⟩
        · rintro i c σ H' T hc ⟨xs, v2, v3, s1, hF1, hp, hlx, rfl⟩ hT
          have hic : i < cs.length := (List.getElem?_eq_some_iff.mp hc).1
          obtain ⟨m, hm⟩ : ∃ m, ms[i]? = some m := ⟨_, List.getElem?_eq_getElem (by omega)⟩
          obtain ⟨y, hy, ay⟩ := g2.get2 hm
          have hsl := hat i c m hc hm
          have s2 : Same H (upd H' T (.tup [.int (i : Nat), .str (tx [c])])) := s1.trans (same_new hT)
          have hF2 : (upd H' T (.tup [.int (i : Nat), .str (tx [c])])) F = some (.lst xs) := by rw [upd_ne (ne_of_none hF1 hT)]; exact hF1
          have hp2 : PartsAt G.K H0 xs (upd H' T (.tup [.int (i : Nat), .str (tx [c])])) _ := hp.same fun a ys e => by rw [upd_ne (ne_of_none e hT)]; exact e
          refine wg_tup dd (SqT.of upd_same) (by rfl) (by rfl) ?_
          generalize upd H' T (.tup [.int (i : Nat), .str (tx [c])]) = H1 at s2 hF2 hp2 ⊢
          repeat walk_at "wG"
          walk_at "wx"
          rw [one_e]
          by_cases h101 : c = 101
          · rw [decide_eq_true h101]
            refine ite_t ?_
            have ep : partS c m = [m] := if_pos h101
            walk_at "wx"
            refine we_bm dd PySem.F.plainAttrs_list PySem.F.slot_list_append PySem.F.type_list_append (by rfl) (by rfl) (by rfl) (by rfl) (by rfl) ?_
            walk_at "wx"
            refine ⟨ty_list hF2, ?_⟩
            walk_at "wx"
            refine ⟨by show 1 ≤ sizeLine; decide, fun q1 f1 => ?_⟩
            walk_at "wx"
            refine rx_tup dd ((s0.trans (s2.trans (same_new f1))).tup h1) (show atI (V.str w :: vs) ((i : Int) + 1) = some y from atI_nat (j := i + 1) (by rw [List.getElem?_cons_succ]; exact hy)) ?_
            walk_at "wx"
            refine ⟨by show 2 ≤ sizeLine; decide, fun q2 f2 => ?_⟩
            walk_at "wx"
            have hF3 : (upd (upd H1 q1 (.tup [.int ((i : Int) + 1)])) q2 (.tup [.ref q1, y])) F = some (.lst xs) := by
              rw [upd_ne (ne_of_none (by rw [upd_ne (ne_of_none hF2 f1)]; exact hF2) f2), upd_ne (ne_of_none hF2 f1)]
              exact hF2
            refine rm_append hF3 (len_lt (by omega)) ?_
            walk_at "wx"
            have keep : ∀ (b : Addr) (zs : List V), H1 b = some (.tup zs) → (upd (upd (upd H1 q1 (.tup [.int ((i : Int) + 1)])) q2 (.tup [.ref q1, y])) F (.lst (xs ++ [.ref q2]))) b = some (.tup zs) := fun b zs e => by
              rw [upd_ne (tup_ne e hF2), upd_ne (ne_of_none (by rw [upd_ne (ne_of_none e f1)]; exact e) f2), upd_ne (ne_of_none e f1)]
              exact e
            have n2 : q2 ≠ F := tup_ne (H := upd (upd H1 q1 (.tup [.int ((i : Int) + 1)])) q2 (.tup [.ref q1, y])) upd_same hF3
            exact ⟨_, _, _, same_upd ((s2.trans (same_new f1)).trans (same_new f2)) hF0, upd_same, (by rw [zip_take hc hm, ep]; exact (hp2.same keep).app (PartsAt.one (q := .ref q1) (by rw [upd_ne n2]; exact upd_same) ay)), by rw [List.length_append, List.length_singleton]; omega, rfl⟩
          · rw [decide_eq_false h101]
            refine ite_f ?_
            walk_at "wx"
            rw [one_p]
            by_cases h112 : c = 112
            · rw [decide_eq_true h112]
              refine ite_t ?_
              rw [h112] at hsl
              have hsl : pairsM m = true := hsl
              obtain ⟨pps, rfl, hpp⟩ := pairs_all hsl
              have ep : partS c (.tup pps) = pps.map sndM := by
                unfold partS
                rw [if_neg h101, if_pos h112]
              cases ay with
              | @tup tp ys _ t1 tl t2 =>
                walk_at "wx"
                refine we_bm dd PySem.F.plainAttrs_list PySem.F.slot_list_extend PySem.F.type_list_extend (by rfl) (by rfl) (by rfl) (by rfl) (by rfl) ?_
                walk_at "wx"
                refine ⟨ty_list hF2, ?_⟩
                walk_at "wA"
                refine we_lcET dd [("j", 4), ("pair", 5)] (by decide +kernel) (by decide +kernel) b.b_enumerate (by intro _; rfl) (by rfl) ?_
                walk_at "wA"
                walk_at "wE"
                walk_at "wn"
                walk_at "wE"
                walk_at "wn"
                walk_at "wE"
                walk_at "wR"
                refine rx_tup dd ((s0.trans s2).tup h1) (show atI (V.str w :: vs) ((i : Int) + 1) = some (.ref tp) from atI_nat (j := i + 1) (by rw [List.getElem?_cons_succ]; exact hy)) ?_
                walk_at "wA"
                refine ⟨tp, ys, rfl, (s0.trans s2).tup t1, fun L hL => ⟨fun j H2 => Same H1 H2 ∧ ∃ zs, H2 L = some (.lst zs) ∧ PartsAt G.K H0 zs H2 ((pps.take j).map sndM) ∧ zs.length = j, ⟨same_new hL, [], upd_same, PartsAt.nil, rfl⟩, fun j H2 _ h => (s0.trans (s2.trans h.1)).tup t1, ?_, ?_⟩⟩
                · rintro j x H2 T2 hx ⟨s3, zs, hz, hpz, hzl⟩ hT2 X' d'
                  obtain ⟨q, hq, gq⟩ := t2.get hx
                  obtain ⟨pa, x0, y0, rfl, u1, u2⟩ := pair_snd gq (hpp q (List.mem_of_getElem? hq))
                  have hj : j < ys.length := (List.getElem?_eq_some_iff.mp hx).1
                  dsimp only [L2.wipe, List.map, List.set]
                  refine wg_tup d' (SqT.of upd_same) (by rfl) (by rfl) ?_
                  have s4 : Same H2 (upd H2 T2 (.tup [.int (j : Nat), .ref pa])) := same_new hT2
                  have hz3 : (upd H2 T2 (.tup [.int (j : Nat), .ref pa])) L = some (.lst zs) := by rw [upd_ne (ne_of_none hz hT2)]; exact hz
                  generalize upd H2 T2 (.tup [.int (j : Nat), .ref pa]) = H3 at s4 hz3 ⊢
                  repeat walk_at "wG"
                  refine ⟨rfl, fun X2 d2 => wts_nil (ite_t fun X3 d3 => ?_)⟩
                  walk_at "wx"
                  refine ⟨by show 3 ≤ sizeLine; decide, fun q1 f1 => ?_⟩
                  walk_at "wx"
                  refine rx_tup d3 ((s0.trans (((s2.trans s3).trans s4).trans (same_new f1))).tup u1) (atI_nat (j := 1) rfl) ?_
                  walk_at "wx"
                  refine ⟨by show 2 ≤ sizeLine; decide, fun q2 f2 => ?_⟩
                  have hz5 : (upd (upd H3 q1 (.tup [.int ((i : Int) + 1), .int (j : Nat), .int 1])) q2 (.tup [.ref q1, y0])) L = some (.lst zs) := by
                    rw [upd_ne (ne_of_none (by rw [upd_ne (ne_of_none hz3 f1)]; exact hz3) f2), upd_ne (ne_of_none hz3 f1)]
                    exact hz3
                  have n2 : q2 ≠ L := tup_ne (H := upd (upd H3 q1 (.tup [.int ((i : Int) + 1), .int (j : Nat), .int 1])) q2 (.tup [.ref q1, y0])) upd_same hz5
                  have keep : ∀ (b : Addr) (ws : List V), H2 b = some (.tup ws) → (upd (upd (upd H3 q1 (.tup [.int ((i : Int) + 1), .int (j : Nat), .int 1])) q2 (.tup [.ref q1, y0])) L (.lst (zs ++ [.ref q2]))) b = some (.tup ws) := fun b ws e => by
                    have e3 := s4 _ _ e
                    rw [upd_ne (tup_ne e3 hz3), upd_ne (ne_of_none (by rw [upd_ne (ne_of_none e3 f1)]; exact e3) f2), upd_ne (ne_of_none e3 f1)]
                    exact e3
                  refine ⟨zs, hz5, len_lt (by omega), same_upd (((s3.trans s4).trans (same_new f1)).trans (same_new f2)) hL, _, upd_same, ?_, by rw [List.length_append, List.length_singleton, hzl]⟩
                  rw [take_succ hq, List.map_append]
                  exact (hpz.same keep).app (PartsAt.one (q := .ref q1) (by rw [upd_ne n2]; exact upd_same) u2)
                · rintro H2 ⟨s3, zs, hz, hpz, hzl⟩
                  rw [t2.len, List.take_length] at hpz
                  walk_at "wA"
                  refine rm_extend (s3 _ _ hF2) hz (len_le (by omega)) ?_
                  walk_at "wx"
                  have hF5 := s3 _ _ hF2
                  have keep : ∀ (b : Addr) (ws : List V), H2 b = some (.tup ws) → (upd H2 F (.lst (xs ++ zs))) b = some (.tup ws) := fun b ws e => by
                    rw [upd_ne (tup_ne e hF5)]
                    exact e
                  exact ⟨_, _, _, same_upd (s2.trans s3) hF0, upd_same, (by rw [zip_take hc hm, ep]; exact ((hp2.same fun b ws e => s3 _ _ e).same keep).app (hpz.same keep)), by rw [List.length_append]; omega, rfl⟩
            · rw [decide_eq_false h112]
              refine ite_f ?_
              have ep : partS c m = [] := by
                unfold partS
                rw [if_neg h101, if_neg h112]
              walk_at "wx"
              exact ⟨_, _, _, s2, hF2, (by rw [zip_take hc hm, ep, List.append_nil]; exact hp2), by omega, rfl⟩
        · rintro σ H' ⟨xs, v2, v3, s1, hF1, hp, hlx, rfl⟩
          walk_at "wx"
          rw [List.take_of_length_le (by rw [List.length_zip]; omega)] at hp
          exact k F xs H' hF0 s1 hF1 hp (by omega)
end K02

namespace K02
variable {G : Gb}
mutual
def sizeM : M → Nat
  | .tup ms => 1 + sizeL ms
  | .non => 1
  | .bl _ => 1
  | .int _ => 1
  | .str _ => 1
  | .lst => 1
  | .dic => 1
def sizeL : List M → Nat
  | [] => 0
  | m :: ms => sizeM m + sizeL ms
end
theorem size_pos (m : M) : 1 ≤ sizeM m := by
  cases m <;> (unfold sizeM; omega)
theorem sizeL_append : ∀ a b : List M, sizeL (a ++ b) = sizeL a + sizeL b
  | [], b => by rw [List.nil_append]; unfold sizeL; omega
  | m :: a, b => by
    rw [List.cons_append, sizeL, sizeL, sizeL_append a b]
    omega
theorem size_len : ∀ ms : List M, ms.length ≤ sizeL ms
  | [] => Nat.le_refl _
  | m :: ms => by
    have := size_pos m
    have := size_len ms
    rw [List.length_cons, sizeL]
    omega
theorem size_snd (q : M) : sizeM (sndM q) ≤ sizeM q := by
  unfold sndM
  split
  · rename_i x y
    rw [sizeM, sizeL, sizeL, sizeL]
    omega
  · rw [sizeM]
    exact size_pos q
theorem size_snds : ∀ ps : List M, sizeL (ps.map sndM) ≤ sizeL ps
  | [] => Nat.le_refl _
  | q :: ps => by
    have := size_snd q
    have := size_snds ps
    rw [List.map_cons, sizeL, sizeL]
    omega
theorem size_partS (c : Nat) (m : M) : sizeL (partS c m) ≤ sizeM m := by
  unfold partS
  by_cases h1 : c = 101
  · rw [if_pos h1, sizeL, sizeL]
    omega
  · rw [if_neg h1]
    by_cases h2 : c = 112
    · rw [if_pos h2]
      split
      · rename_i ps
        have := size_snds ps
        rw [sizeM]
        omega
      · rw [sizeL]; omega
    · rw [if_neg h2, sizeL]
      omega
theorem size_partsL : ∀ (cs : List Nat) (ms : List M), sizeL (partsL cs ms) ≤ sizeL ms
  | [], ms => by
    show sizeL [] ≤ _
    rw [sizeL]
    omega
  | _ :: _, [] => by
    show sizeL [] ≤ _
    rw [sizeL]
    omega
  | c :: cs, m :: ms => by
    have h1 := size_partS c m
    have h2 := size_partsL cs ms
    show sizeL (partS c m ++ partsL cs ms) ≤ _
    rw [sizeL_append, sizeL]
    omega
theorem size_parts (m : M) : sizeL (partsM m) < sizeM m := by
  unfold partsM
  split
  · rename_i w ms
    split
    · rename_i f _
      have := size_partsL f.cps.toList ms
      rw [sizeM, sizeL]
      have := size_pos (.str w)
      omega
    · rw [sizeL]
      exact size_pos _
  · rw [sizeL]
    exact size_pos _
theorem size_mem : ∀ {ms : List M} {m : M}, m ∈ ms → sizeM m ≤ sizeL ms
  | x :: ms, m, h => by
    rw [sizeL]
    rcases List.mem_cons.mp h with rfl | h
    · omega
    · have := size_mem h
      omega
def wordM : M → Str
  | .tup (.str w :: _) => w
  | _ => ""
abbrev cellS : List Str := ["cell", "row", "settle"]
abbrev rowS : List Str := ["place", "at"]
/-- a node of an expression -/
def nodeM (r : Bool) (m : M) : Bool := shapedM m && !(decide (wordM m ∈ cellS) || decide (wordM m = "input")) && (!decide (wordM m ∈ rowS) || r)
def wholeM (r : Bool) (m : M) : Bool := nodeM r m && ((partsM m).attach.all fun p => wholeM r p.1)
termination_by sizeM m
decreasing_by
  have := size_mem p.2
  have := size_parts m
  omega
theorem whole_eq (r : Bool) (m : M) : wholeM r m = (nodeM r m && (partsM m).all (wholeM r)) := by
  rw [wholeM]
  congr 1
  rw [Bool.eq_iff_iff, List.all_eq_true, List.all_eq_true]
  exact ⟨fun h p hp => h ⟨p, hp⟩ (List.mem_attach _ _), fun h p _ => h p.1 p.2⟩
end K02

namespace K02
variable {G : Gb}
/-- while, by a word that counts -/
theorem ws_whileN {X : Cx} {N : List Str} {sc : Scope} {k : Nat} {W0 : WX} {σ : L2.St} {H : Hp} {D : Ends} {c : Expr} {pos : Pos} (d : Fr X G N sc k W0) {body : List Stmt} (W : Nat → L2.St → Hp → Prop) {m : Nat} (h0 : W m σ H)
    (h : ∀ m σ H, W m σ H → WT X c σ H fun b H1 => if b = true then WB X body { D with nx := fun σ' H' => ∃ m', m' < m ∧ W m' σ' H', ct := fun σ' H' => ∃ m', m' < m ∧ W m' σ' H', bk := D.nx } σ H1 else D.nx σ H1) : WS X (.While c body [] pos) D σ H := by
  refine ws_of (ps_while d.own pt_wt pss_wb) ⟨W, ⟨m, h0⟩, fun m σ H w => wt_mono (fun b H1 q => ?_) (h m σ H w)⟩
  cases b with
  | true => exact ⟨_, fun _ _ z => z, q⟩
  | false => exact q
theorem atall_last {K : PySem.W.Frag} {H : Hp} : ∀ {xs : List V} {ms : List M}, AtAll K H xs ms → xs ≠ [] → ∃ ys y qs q, xs = ys ++ [y] ∧ ms = qs ++ [q] ∧ AtAll K H ys qs ∧ At K H y q
  | _, _, .nil, h => absurd rfl h
  | _, _, .cons (v := v) (vs := vs) (m := m) (ms := ms) g gs, _ => by
    by_cases e : vs = []
    · subst e
      cases gs
      exact ⟨[], v, [], m, rfl, rfl, .nil, g⟩
    · obtain ⟨ys, y, qs, q, rfl, rfl, r1, r2⟩ := atall_last gs e
      exact ⟨v :: ys, y, m :: qs, q, rfl, rfl, .cons g r1, r2⟩
theorem AtAll.app {K : PySem.W.Frag} {H : Hp} : ∀ {xs ys : List V} {ms ns : List M}, AtAll K H xs ms → AtAll K H ys ns → AtAll K H (xs ++ ys) (ms ++ ns)
  | _, _, _, _, .nil, h => h
  | _, _, _, _, .cons g gs, h => .cons g (AtAll.app gs h)
/-- what the parts' pairs give, second by second -/
theorem parts_zs {K : PySem.W.Frag} {H H' : Hp} {xs : List V} {ps : List M} (h : PartsAt K H xs H' ps) : ∃ zs : List (Addr × V × V), xs = zs.map (fun z => V.ref z.1) ∧ (∀ z ∈ zs, H' z.1 = some (.tup [z.2.1, z.2.2])) ∧ AtAll K H (zs.map (·.2.2)) ps := by
  obtain ⟨as, rfl, h2, h3⟩ := h
  induction as generalizing ps with
  | nil =>
    match ps, h2 with
    | [], _ => exact ⟨[], rfl, (fun _ h => nomatch h), .nil⟩
  | cons a as ih =>
    match ps, h2 with
    | m :: ps, h2 =>
      obtain ⟨q, y, g1, g2⟩ := h3 0 a m rfl rfl
      obtain ⟨zs, r1, r2, r3⟩ := ih (ps := ps) (by simpa using h2) fun i b m' p1 p2 => h3 (i + 1) b m' p1 p2
      refine ⟨(a, q, y) :: zs, by rw [List.map_cons, List.map_cons, r1], fun z hz => ?_, .cons g2 r3⟩
      rcases List.mem_cons.mp hz with rfl | hz
      · exact g1
      · exact r2 z hz
def spWhole (K : PySem.W.Frag) : Sp := fun vs H Q _ => ∃ (v : V) (m : M) (r : Bool), vs = [v, .bl r] ∧ At K H v m ∧ sizeM m ≤ 100000 ∧ ∀ H', Same H H' → Q (.bl (wholeM r m)) H'
theorem we_bm0 {X : Cx} {N : List Str} {sc : Scope} {k : Nat} {σ : L2.St} {H : Hp} {Q : VK} (d : Def X G N sc k) {o : Expr} {name : Str} {apos pos : Pos} {T id : String} (pa : PlainAttrs T) (slot : Slot T name id) (hty : typeOf (.builtin id) = pure (.type "method_descriptor"))
    (hbase : attributeBase o name X.env (eval o X.env) = eval o X.env) (hline : (apos.endLine == pos.line) = true)
    (h : WE X o σ H fun x H1 => tyV G.K T x H1 ∧ RM X id x [] H1 Q) : WE X (.Call (.Attribute o name apos) [] [] pos) σ H Q :=
  we_of (pe_bm0 pa slot hty rm_ok pe_we hbase hline) (by rw [← d.K] at h; exact h)
theorem rm_pop {X : Cx} {H : Hp} {Q : VK} {l : Addr} {xs : List V} {y : V} (h : H l = some (.lst (xs ++ [y]))) (q : Q y (upd H l (.lst xs))) : RM X "list.pop" (.ref l) [] H Q := by
  refine ⟨_, mt_pop, l, xs ++ [y], y, rfl, rfl, h, by rw [List.length_append, List.length_singleton, Nat.add_sub_cancel, List.getElem?_append_right (Nat.le_refl _), Nat.sub_self]; rfl, ?_⟩
  rw [List.dropLast_concat]
  exact q
theorem shaped_word {m : M} (h : shapedM m = true) : ∃ w ms, m = .tup (.str w :: ms) ∧ wordM m = w := by
  obtain ⟨w, ms, f, rfl, _, _⟩ := shaped_form h
  exact ⟨w, ms, rfl, rfl⟩
theorem fn_whole (FS : Fn G "is_shaped" 1 5 (spShaped G.K)) (FP : Fn G "parts_of" 1 1 (spParts G.K)) (PC : TupG G "CELLS" cellS) (PR : TupG G "IN_ROWS" rowS) (T : Top G "is_whole" (top 24) ["thing", "in_row"]) : Fn G "is_whole" 2 6 (spWhole G.K) := by
  refine T.fn (N := ["thing", "in_row", "waiting", "one", "_", "part"]) ⟨rfl, rfl, rfl, by decide +kernel, rfl, by decide +kernel, by decide +kernel⟩ (fun vs H Q E h => ?_) (fun X vs H Q E d h => ?_)
  · obtain ⟨_, _, _, rfl, _⟩ := h
    rfl
  · have dd := d.toDef
    obtain ⟨v, m, r, rfl, hv, hsz, k⟩ := h
    show WB X _ _ [some v, some (.bl r), none, none, none, none] H
    obtain ⟨aC, mC, sC⟩ := PC.is
    obtain ⟨aR, mR, sR⟩ := PR.is
    refine wb_cons ?_
    walk_at "wx"
    refine ⟨by show 1 ≤ sizeLine; decide, fun F hF0 => ?_⟩
    walk_at "wS"
    refine ws_whileN d (fun n σ H' => ∃ (xs : List V) (ms : List M) (v3 : Option V), Same H H' ∧ H' F = some (.lst xs) ∧ AtAll G.K H xs ms ∧ wholeM r m = ms.all (wholeM r) ∧ sizeL ms = n ∧ n ≤ sizeM m ∧ σ = [some v, some (.bl r), some (.ref F), v3, none, none]) (m := sizeM m) ⟨[v], [m], _, same_new hF0, upd_same, .cons hv .nil, by rw [List.all_cons, List.all_nil, Bool.and_true], by rw [sizeL, sizeL]; rfl, Nat.le_refl _, rfl⟩ ?_
    rintro n σ H1 ⟨xs, ms, v3, s1, hF1, hx, hw, hn, hnm, rfl⟩
    walk_at "wx"
    refine ⟨_, .inl ⟨xs, by rw [d.K]; exact SqL.of hF1, rfl⟩, ?_⟩
    by_cases ex : xs = []
    · subst ex
      cases hx
      refine ite_f ?_
      walk_at "wx"
      have k := k _ s1
      rw [hw] at k
      exact k
    · obtain ⟨ys, y, qs, q, rfl, rfl, hys, hy⟩ := atall_last hx ex
      have et : (!(ys ++ [y]).isEmpty) = true := by cases ys <;> rfl
      rw [et]
      refine ite_t ?_
      have enq : sizeL qs + sizeM q = n := by
        rw [← hn, sizeL_append, sizeL, sizeL]
        omega
      walk_at "wx"
      refine we_bm0 dd PySem.F.plainAttrs_list PySem.F.slot_list_pop PySem.F.type_list_pop (by rfl) (by rfl) ?_
      walk_at "wx"
      refine ⟨ty_list hF1, ?_⟩
      refine rm_pop hF1 ?_
      have s2 : Same H (upd H1 F (.lst ys)) := same_upd s1 hF0
      have hF2 : (upd H1 F (.lst ys)) F = some (.lst ys) := upd_same
      generalize upd H1 F (.lst ys) = H2 at s2 hF2 ⊢
      walk_at "wx"
      refine we_call dd FS (by decide) (by decide +kernel) (by rfl) (by rfl) ?_
      walk_at "wA"
      walk_at "wn"
      walk_at "wA"
      refine ⟨y, q, rfl, At.same s2 _ _ hy, fun H3 s3 => ?_⟩
      have no : nodeM r q = false → ∀ H', Same H H' → Q (.bl false) H' := fun e H' s => by
        have k := k H' s
        rw [hw, List.all_append, List.all_cons, whole_eq r q, e, Bool.false_and, Bool.false_and, Bool.and_false] at k
        exact k
      walk_at "wx"
      cases es : shapedM q with
      | false =>
        refine ite_t (ite_t ?_)
        walk_at "wx"
        exact no (by unfold nodeM; rw [es]; rfl) _ (s2.trans s3)
      | true =>
        refine ite_f ?_
        obtain ⟨w, ms2, rfl, ew⟩ := shaped_word es
        have hy0 := hy
        cases hy with
        | @tup a2 ys2 _ t1 tl t2 =>
        cases t2 with
        | @cons x2 vs2 _ _ g1 g2 =>
        cases g1
        have en : nodeM r (.tup (.str w :: ms2)) = (!(decide (w ∈ cellS) || decide (w = "input")) && (!decide (w ∈ rowS) || r)) := by
          unfold nodeM
          rw [es, ew, Bool.true_and]
        rw [en] at no
        have s3' := s2.trans s3
        walk_at "wx"
        refine rx_tup dd (s3'.tup t1) (atI_nat (j := 0) rfl) ?_
        walk_at "wx"
        refine we_glob dd (v := .ref aC) (by decide +kernel) mC rfl ?_
        refine ro_inG dd (.inl (sC H3)) ?_
        walk_at "wx"
        cases ec : decide (w ∈ cellS) with
        | true =>
          refine ite_t (ite_t ?_)
          walk_at "wx"
          exact no (by rw [ec]; rfl) _ s3'
        | false =>
          refine ite_f ?_
          walk_at "wx"
          refine rx_tup dd (s3'.tup t1) (atI_nat (j := 0) rfl) ?_
          walk_at "wx"
          cases ei : decide (w = ("input" : Str)) with
          | true =>
            refine ite_t ?_
            walk_at "wx"
            exact no (by rw [ec, ei]; rfl) _ s3'
          | false =>
            refine ite_f ?_
            walk_at "wx"
            refine rx_tup dd (s3'.tup t1) (atI_nat (j := 0) rfl) ?_
            walk_at "wx"
            refine we_glob dd (v := .ref aR) (by decide +kernel) mR rfl ?_
            refine ro_inG dd (.inl (sR H3)) ?_
            walk_at "wx"
            cases er : decide (w ∈ rowS) with
            | false =>
              have yes : nodeM r (.tup (.str w :: ms2)) = true := by rw [en, ec, ei, er]; rfl
              refine ite_f (ite_f ?_)
              walk_at "wx"
              refine we_bm dd PySem.F.plainAttrs_list PySem.F.slot_list_extend PySem.F.type_list_extend (by rfl) (by rfl) (by rfl) (by rfl) (by rfl) ?_
              walk_at "wx"
              refine ⟨ty_list (s3 _ _ hF2), ?_⟩
              walk_at "wA"
              refine we_lcL dd [("_", 4), ("part", 5)] (by decide +kernel) (by intro _; rfl) ?_
              refine we_call dd FP (by decide) (by decide +kernel) (by rfl) (by rfl) ?_
              walk_at "wA"
              walk_at "wn"
              walk_at "wA"
              refine ⟨H, _, _, rfl, s3', hy0, es, fun F2 xs2 H4 hF2n s4 hF4 hp hl4 => ?_⟩
              obtain ⟨zs, rfl, z2, z3⟩ := parts_zs hp
              have hzl : zs.length ≤ 5000 := by rw [List.length_map] at hl4; exact hl4
              refine lcL_map (fun z : Addr × V × V => V.ref z.1) (fun z => some z.2.2) (SqL.of hF4) (by omega) (fun z hz H5 s5 R hR => ?_) (fun L H5 hL s5 h5 => ?_)
              · intro X' d'
                dsimp only [L2.wipe, List.map, List.set]
                refine wg_tup d' (SqT.of (s5 _ _ (z2 z hz))) (by rfl) (by rfl) ?_
                repeat walk_at "wG"
                refine ⟨rfl, fun X2 d2 => wts_nil (ite_t fun X3 d3 => ?_)⟩
                walk_at "wn"
                exact hR _ (Same.refl _)
              · have e5 : zs.filterMap (fun z => some z.2.2) = zs.map (·.2.2) := by
                  rw [List.filterMap_eq_map'] <;> rfl
                rw [e5] at h5
                walk_at "wA"
                have hF5 := s5 _ _ (s4 _ _ (s3 _ _ hF2))
                have zl := z3.len
                have pl := size_len (partsM (.tup (.str w :: ms2)))
                have pz := size_parts (.tup (.str w :: ms2))
                have yl := hys.len
                have ql := size_len qs
                refine rm_extend hF5 h5 (len_le (by omega)) ?_
                walk_at "wx"
                refine ⟨sizeL qs + sizeL (partsM (.tup (.str w :: ms2))), by omega, _, _, _, same_upd ((s3'.trans s4).trans s5) hF0, upd_same, AtAll.app hys z3, ?_, by rw [sizeL_append], by omega, rfl⟩
                rw [hw, List.all_append, List.all_append, List.all_cons, List.all_nil, Bool.and_true, whole_eq r (.tup (.str w :: ms2)), yes, Bool.true_and]
            | true =>
              refine ite_t ?_
              walk_at "wx"
              cases r with
              | true =>
                have yes : nodeM true (.tup (.str w :: ms2)) = true := by rw [en, ec, ei, er]; rfl
                refine ite_f ?_
                walk_at "wx"
                refine we_bm dd PySem.F.plainAttrs_list PySem.F.slot_list_extend PySem.F.type_list_extend (by rfl) (by rfl) (by rfl) (by rfl) (by rfl) ?_
                walk_at "wx"
                refine ⟨ty_list (s3 _ _ hF2), ?_⟩
                walk_at "wA"
                refine we_lcL dd [("_", 4), ("part", 5)] (by decide +kernel) (by intro _; rfl) ?_
                refine we_call dd FP (by decide) (by decide +kernel) (by rfl) (by rfl) ?_
                walk_at "wA"
                walk_at "wn"
                walk_at "wA"
                refine ⟨H, _, _, rfl, s3', hy0, es, fun F2 xs2 H4 hF2n s4 hF4 hp hl4 => ?_⟩
                obtain ⟨zs, rfl, z2, z3⟩ := parts_zs hp
                have hzl : zs.length ≤ 5000 := by rw [List.length_map] at hl4; exact hl4
                refine lcL_map (fun z : Addr × V × V => V.ref z.1) (fun z => some z.2.2) (SqL.of hF4) (by omega) (fun z hz H5 s5 R hR => ?_) (fun L H5 hL s5 h5 => ?_)
                · intro X' d'
                  dsimp only [L2.wipe, List.map, List.set]
                  refine wg_tup d' (SqT.of (s5 _ _ (z2 z hz))) (by rfl) (by rfl) ?_
                  repeat walk_at "wG"
                  refine ⟨rfl, fun X2 d2 => wts_nil (ite_t fun X3 d3 => ?_)⟩
                  walk_at "wn"
                  exact hR _ (Same.refl _)
                · have e5 : zs.filterMap (fun z => some z.2.2) = zs.map (·.2.2) := by
                    rw [List.filterMap_eq_map'] <;> rfl
                  rw [e5] at h5
                  walk_at "wA"
                  have hF5 := s5 _ _ (s4 _ _ (s3 _ _ hF2))
                  have zl := z3.len
                  have pl := size_len (partsM (.tup (.str w :: ms2)))
                  have pz := size_parts (.tup (.str w :: ms2))
                  have yl := hys.len
                  have ql := size_len qs
                  refine rm_extend hF5 h5 (len_le (by omega)) ?_
                  walk_at "wx"
                  refine ⟨sizeL qs + sizeL (partsM (.tup (.str w :: ms2))), by omega, _, _, _, same_upd ((s3'.trans s4).trans s5) hF0, upd_same, AtAll.app hys z3, ?_, by rw [sizeL_append], by omega, rfl⟩
                  rw [hw, List.all_append, List.all_append, List.all_cons, List.all_nil, Bool.and_true, whole_eq true (.tup (.str w :: ms2)), yes, Bool.true_and]
              | false =>
                refine ite_t ?_
                walk_at "wx"
                exact no (by rw [ec, ei, er]; rfl) _ s3'
end K02

namespace K02
variable {G : Gb}
def spExpr (K : PySem.W.Frag) : Sp := fun vs H Q _ => ∃ (v : V) (m : M), vs = [v] ∧ At K H v m ∧ sizeM m ≤ 100000 ∧ ∀ H', Same H H' → Q (.bl (wholeM true m)) H'
theorem fn_expr (FW : Fn G "is_whole" 2 6 (spWhole G.K)) (T : Top G "is_expression" (top 21) ["thing"]) : Fn G "is_expression" 1 7 (spExpr G.K) := by
  refine T.fn (N := ["thing"]) ⟨rfl, rfl, rfl, by decide +kernel, rfl, by decide +kernel, by decide +kernel⟩ (fun vs H Q E h => ?_) (fun X vs H Q E d h => ?_)
  · obtain ⟨_, _, rfl, _⟩ := h
    rfl
  · have dd := d.toDef
    obtain ⟨v, m, rfl, hv, hsz, k⟩ := h
    show WB X _ _ [some v] H
    refine wb_one ?_
    walk_at "wx"
    refine we_call dd FW (by decide) (by decide +kernel) (by rfl) (by rfl) ?_
    walk_at "wA"
    walk_at "wn"
    walk_at "wA"
    walk_at "wE"
    walk_at "wA"
    exact ⟨v, m, true, rfl, hv, hsz, k⟩
def cellM (m : M) : Bool := shapedM m && (decide (wordM m ∈ cellS) && (partsM m).all (wholeM (decide (wordM m = "row"))))
def spCell (K : PySem.W.Frag) : Sp := fun vs H Q _ => ∃ (v : V) (m : M), vs = [v] ∧ At K H v m ∧ sizeM m ≤ 100000 ∧ ∀ H', Same H H' → Q (.bl (cellM m)) H'
theorem all_snd {zs : List (Addr × V × V)} {K : PySem.W.Frag} {H : Hp} {ps : List M} (h : AtAll K H (zs.map (·.2.2)) ps) : ∀ z ∈ zs, ∃ p ∈ ps, At K H z.2.2 p := by
  induction zs generalizing ps with
  | nil => intro z hz; cases hz
  | cons x zs ih =>
    cases h with
    | cons g gs =>
      intro z hz
      rcases List.mem_cons.mp hz with rfl | hz
      · exact ⟨_, List.mem_cons_self, g⟩
      · obtain ⟨p, p1, p2⟩ := ih gs z hz
        exact ⟨p, List.mem_cons_of_mem _ p1, p2⟩
/-- the i-th pair with the i-th part -/
theorem zip_snd {zs : List (Addr × V × V)} {K : PySem.W.Frag} {H : Hp} {ps : List M} (h : AtAll K H (zs.map (·.2.2)) ps) : ∃ us : List ((Addr × V × V) × M), zs = us.map (·.1) ∧ ps = us.map (·.2) ∧ ∀ u ∈ us, At K H u.1.2.2 u.2 := by
  induction zs generalizing ps with
  | nil =>
    cases h
    exact ⟨[], rfl, rfl, (fun _ h => nomatch h)⟩
  | cons x zs ih =>
    cases h with
    | @cons _ _ m _ g gs =>
      obtain ⟨us, u1, u2, u3⟩ := ih gs
      refine ⟨(x, m) :: us, by rw [u1]; rfl, by rw [u2]; rfl, fun u hu => ?_⟩
      rcases List.mem_cons.mp hu with rfl | hu
      · exact g
      · exact u3 u hu
theorem fn_cell (FS : Fn G "is_shaped" 1 5 (spShaped G.K)) (FP : Fn G "parts_of" 1 1 (spParts G.K)) (FW : Fn G "is_whole" 2 6 (spWhole G.K)) (b : Bi G.mg) (PC : TupG G "CELLS" cellS) (T : Top G "is_cell" (top 22) ["thing"]) : Fn G "is_cell" 1 7 (spCell G.K) := by
  refine T.fn (N := ["thing", "_", "part"]) ⟨rfl, rfl, rfl, by decide +kernel, rfl, by decide +kernel, by decide +kernel⟩ (fun vs H Q E h => ?_) (fun X vs H Q E d h => ?_)
  · obtain ⟨_, _, rfl, _⟩ := h
    rfl
  · have dd := d.toDef
    obtain ⟨v, m, rfl, hv, hsz, k⟩ := h
    show WB X _ _ [some v, none, none] H
    obtain ⟨aC, mC, sC⟩ := PC.is
    refine wb_cons ?_
    walk_at "wx"
    refine we_call dd FS (by decide) (by decide +kernel) (by rfl) (by rfl) ?_
    walk_at "wA"
    walk_at "wn"
    walk_at "wA"
    refine ⟨v, m, rfl, hv, fun H1 s1 => ?_⟩
    walk_at "wx"
    cases es : shapedM m with
    | false =>
      refine ite_t (ite_t ?_)
      walk_at "wx"
      have k := k _ s1
      unfold cellM at k
      rw [es] at k
      exact k
    | true =>
      refine ite_f ?_
      obtain ⟨w, ms2, rfl, ew⟩ := shaped_word es
      have hv0 := hv
      cases hv with
      | @tup a2 ys2 _ t1 tl t2 =>
      cases t2 with
      | @cons x2 vs2 _ _ g1 g2 =>
      cases g1
      have ecm : cellM (.tup (.str w :: ms2)) = (decide (w ∈ cellS) && (partsM (.tup (.str w :: ms2))).all (wholeM (decide (w = "row")))) := by
        unfold cellM
        rw [es, ew, Bool.true_and]
      rw [ecm] at k
      walk_at "wx"
      refine rx_tup dd (s1.tup t1) (atI_nat (j := 0) rfl) ?_
      walk_at "wx"
      refine we_glob dd (v := .ref aC) (by decide +kernel) mC rfl ?_
      refine ro_notInG dd (.inl (sC H1)) ?_
      walk_at "wx"
      cases ec : decide (w ∈ cellS) with
      | false =>
        refine ite_t ?_
        walk_at "wx"
        have k := k _ s1
        rw [ec] at k
        exact k
      | true =>
        refine ite_f ?_
        rw [ec] at k
        walk_at "wx"
        refine we_lcL dd [("_", 1), ("part", 2)] (by decide +kernel) (by intro _; rfl) ?_
        refine we_call dd FP (by decide) (by decide +kernel) (by rfl) (by rfl) ?_
        walk_at "wA"
        walk_at "wn"
        walk_at "wA"
        refine ⟨H, _, _, rfl, s1, hv0, es, fun F2 xs2 H4 hF2n s4 hF4 hp hl4 => ?_⟩
        obtain ⟨zs, rfl, z2, z3⟩ := parts_zs hp
        obtain ⟨us, rfl, u2, u3⟩ := zip_snd z3
        have hul : us.length ≤ 5000 := by rw [List.length_map, List.length_map] at hl4; exact hl4
        rw [List.map_map] at hF4
        have s14 := s1.trans s4
        refine lcL_map (zs := us) ((fun z : Addr × V × V => V.ref z.1) ∘ Prod.fst) (fun u => some (.bl (wholeM (decide (w = "row")) u.2))) (SqL.of hF4) (by omega) (fun u hu H5 s5 R hR => ?_) (fun L H5 hL s5 h5 => ?_)
        · have zu := s5 _ _ (z2 u.1 (List.mem_map.mpr ⟨u, hu, rfl⟩))
          intro X' d'
          dsimp only [L2.wipe, List.map, List.set, Function.comp]
          refine wg_tup d' (SqT.of zu) (by rfl) (by rfl) ?_
          repeat walk_at "wG"
          refine ⟨rfl, fun X2 d2 => wts_nil (ite_t fun X3 d3 => ?_)⟩
          walk_at "wx"
          refine we_call d3 FW (by decide) (by decide +kernel) (by rfl) (by rfl) ?_
          walk_at "wA"
          walk_at "wn"
          walk_at "wA"
          walk_at "wE"
          walk_at "wE"
          walk_at "wn"
          walk_at "wE"
          refine rx_tup d3 ((s14.trans s5).tup t1) (atI_nat (j := 0) rfl) ?_
          walk_at "wE"
          walk_at "wR"
          walk_at "wA"
          have hu2 : u.2 ∈ partsM (.tup (.str w :: ms2)) := by rw [u2]; exact List.mem_map.mpr ⟨u, hu, rfl⟩
          have z1 := size_mem hu2
          have zp := size_parts (.tup (.str w :: ms2))
          exact ⟨u.1.2.2, u.2, decide (w = "row"), rfl, At.same (s14.trans s5) _ _ (u3 u hu), by omega, fun H6 s6 => hR _ s6⟩
        · have e5 : us.filterMap (fun u => some (V.bl (wholeM (decide (w = "row")) u.2))) = (us.map fun u => wholeM (decide (w = "row")) u.2).map V.bl := by
            rw [List.filterMap_eq_map', List.map_map] <;> rfl
          rw [e5] at h5
          walk_at "wx"
          refine rc_all dd (SqL.of h5) ?_
          have k := k _ (s14.trans s5)
          rw [u2, List.all_map] at k
          rw [List.all_map]
          exact k
end K02

namespace K02
variable {G : Gb}
def inputM (m : M) : Bool := shapedM m && decide (wordM m = "input")
def someT : M → Bool
  | .tup ms => !ms.isEmpty
  | _ => false
def listT : M → List M
  | .tup ms => ms
  | _ => []
def sheetM : M → Bool
  | .tup [.str w, x, y] => decide (w = "sheet") && (someT x && (someT y && ((listT x).all inputM && (listT y).all cellM)))
  | _ => false
def spSheet (K : PySem.W.Frag) : Sp := fun vs H Q _ => ∃ (v : V) (m : M), vs = [v] ∧ At K H v m ∧ sizeM m ≤ 100000 ∧ ∀ H', Same H H' → Q (.bl (sheetM m)) H'
theorem three_of {K : PySem.W.Frag} {H : Hp} {v : V} {m : M} (h : At K H v m) (hl : lenM 3 m = true) : ∃ (a : Addr) (x y z : V) (p q r : M), v = .ref a ∧ m = .tup [p, q, r] ∧ SqT K H a [x, y, z] ∧ At K H x p ∧ At K H y q ∧ At K H z r := by
  cases h with
  | @tup a xs ms h1 hn h2 =>
    have e : ms.length = 3 := by
      have := of_decide_eq_true (show decide ((ms.length : Int) = 3) = true from hl)
      omega
    match ms, e with
    | [p, q, r], _ =>
      cases h2 with
      | @cons x vs _ _ g1 g2 =>
        cases g2 with
        | @cons y vs _ _ g2 g3 =>
          cases g3 with
          | @cons z vs _ _ g3 g4 =>
            cases g4
            exact ⟨a, x, y, z, p, q, r, rfl, rfl, h1, g1, g2, g3⟩
  | _ => cases hl
theorem sheet_len {m : M} (h : lenM 3 m = false) : sheetM m = false := by
  unfold sheetM
  split
  · cases h
  · rfl
theorem some_at {K : PySem.W.Frag} {H : Hp} {v : V} {m : M} (h : At K H v m) (e : someT m = true) : ∃ (a : Addr) (us : List (V × M)), v = .ref a ∧ m = .tup (us.map (·.2)) ∧ SqT K H a (us.map (·.1)) ∧ us.length ≤ 1000 ∧ ∀ u ∈ us, At K H u.1 u.2 := by
  cases h with
  | @tup a xs ms h1 hn h2 =>
    have key : ∀ {xs : List V} {ms : List M}, AtAll K H xs ms → ∃ us : List (V × M), xs = us.map (·.1) ∧ ms = us.map (·.2) ∧ ∀ u ∈ us, At K H u.1 u.2 := by
      intro xs
      induction xs with
      | nil =>
        intro ms h
        cases h
        exact ⟨[], rfl, rfl, (fun _ h => nomatch h)⟩
      | cons x xs ih =>
        intro ms h
        cases h with
        | @cons _ _ m _ g gs =>
          obtain ⟨us, u1, u2, u3⟩ := ih gs
          refine ⟨(x, m) :: us, by rw [u1]; rfl, by rw [u2]; rfl, fun u hu => ?_⟩
          rcases List.mem_cons.mp hu with rfl | hu
          · exact g
          · exact u3 u hu
    obtain ⟨us, rfl, rfl, u3⟩ := key h2
    exact ⟨a, us, rfl, rfl, h1, by rw [List.length_map] at hn; exact hn, u3⟩
  | _ => cases e
theorem fn_sheet (b : Bi G.mg) (FT : Fn G "is_tuple_of" 2 1 (spTup G.K)) (FS : Fn G "is_shaped" 1 5 (spShaped G.K)) (FC : Fn G "is_cell" 1 7 (spCell G.K)) (T : Top G "is_sheet" (top 23) ["thing"]) : Fn G "is_sheet" 1 8 (spSheet G.K) := by
  refine T.fn (N := ["thing", "things", "one"]) ⟨rfl, rfl, rfl, by decide +kernel, rfl, by decide +kernel, by decide +kernel⟩ (fun vs H Q E h => ?_) (fun X vs H Q E d h => ?_)
  · obtain ⟨_, _, rfl, _⟩ := h
    rfl
  · have dd := d.toDef
    obtain ⟨v, m, rfl, hv, hsz, k⟩ := h
    show WB X _ _ [some v, none, none] H
    refine wb_cons ?_
    walk_at "wx"
    refine we_call dd FT (by decide) (by decide +kernel) (by rfl) (by rfl) ?_
    walk_at "wA"
    walk_at "wn"
    walk_at "wA"
    walk_at "wE"
    walk_at "wA"
    refine ⟨v, m, 3, rfl, hv, ?_⟩
    walk_at "wx"
    cases el : lenM 3 m with
    | false =>
      refine ite_t (ite_t ?_)
      walk_at "wx"
      have k := k _ (Same.refl _)
      rw [sheet_len el] at k
      exact k
    | true =>
      obtain ⟨a, x, y, z, p, q, r, rfl, rfl, t1, g1, g2, g3⟩ := three_of hv el
      refine ite_f ?_
      walk_at "wx"
      refine rx_tup dd t1 (atI_nat (j := 0) rfl) ?_
      walk_at "wx"
      have ns : (∀ w, p ≠ .str w) → sheetM (.tup [p, q, r]) = false := fun h => by
        cases p with
        | str w => exact absurd rfl (h w)
        | _ => rfl
      cases g1 with
      | str w hw =>
        refine rc_isi dd (ClsV.ty _) (.base (.str _)) (kit_bt (r := true) (by decide +kernel)) ?_
        walk_at "wx"
        refine ite_f ?_
        walk_at "wx"
        refine rx_tup dd t1 (atI_nat (j := 0) rfl) ?_
        walk_at "wx"
        have k : ∀ H', Same H H' → Q (.bl (decide (w = "sheet") && (someT q && (someT r && ((listT q).all inputM && (listT r).all cellM))))) H' := k
        cases ew : decide (w = ("sheet" : Str)) with
        | false =>
          refine ite_t ?_
          walk_at "wx"
          have k := k _ (Same.refl _)
          rw [ew] at k
          exact k
        | true =>
          refine ite_f ?_
          rw [ew] at k
          walk_at "wS"
          walk_at "wS"
          refine ws_forT d (by intro _; rfl) ?_
          walk_at "wE"
          walk_at "wA"
          walk_at "wE"
          walk_at "wn"
          walk_at "wE"
          refine rx_tup dd t1 (atI_nat (j := 1) rfl) ?_
          walk_at "wA"
          walk_at "wE"
          walk_at "wn"
          walk_at "wE"
          refine rx_tup dd t1 (atI_nat (j := 2) rfl) ?_
          walk_at "wA"
          refine ⟨by show 2 ≤ sizeLine; decide, fun F hF => ?_⟩
          refine ⟨F, [y, z], rfl, SqT.of upd_same, fun i σ H' => ∃ v1 : Option V, Same H H' ∧ H' F = some (.tup [y, z]) ∧ (1 ≤ i → someT q = true) ∧ (2 ≤ i → someT r = true) ∧ σ = [some (.ref a), v1, none], ⟨_, same_new hF, upd_same, (fun h => by omega), (fun h => by omega), rfl⟩, fun i σ H' _ h => ?_, ?_, ?_⟩
          · obtain ⟨_, _, h, _⟩ := h
            exact SqT.of h
          · rintro i x2 σ H' hi ⟨v1, s1, hF1, c1, c2, rfl⟩
            obtain ⟨mu, gu, iu⟩ : ∃ mu, At G.K H x2 mu ∧ ((i = 0 ∧ mu = q) ∨ (i = 1 ∧ mu = r)) := by
              match i, hi with
              | 0, hi =>
                cases hi
                exact ⟨q, g2, .inl ⟨rfl, rfl⟩⟩
              | 1, hi =>
                cases hi
                exact ⟨r, g3, .inr ⟨rfl, rfl⟩⟩
              | i + 2, hi => simp at hi
            have bad : someT mu = false → ∀ H2, Same H H2 → Q (.bl false) H2 := fun e H2 s2 => by
              have k := k _ s2
              rcases iu with ⟨_, rfl⟩ | ⟨_, rfl⟩
              · rw [e] at k
                exact k
              · rw [e, Bool.false_and, Bool.and_false, Bool.true_and] at k
                exact k
            walk_at "wG"
            have gu' := At.same s1 _ _ gu
            cases gu' with
            | @tup a3 xs3 ms3 u1 ul u2 =>
              walk_at "wx"
              refine ite_f ?_
              walk_at "wx"
              refine ⟨_, .inr (.inl ⟨xs3, by rw [d.K]; exact u1, rfl⟩), ?_⟩
              walk_at "wx"
              cases u2 with
              | nil =>
                refine ite_t ?_
                walk_at "wx"
                exact bad rfl _ s1
              | cons w1 w2 =>
                refine ite_f ?_
                walk_at "wx"
                refine ⟨_, s1, hF1, fun h => ?_, fun h => ?_, rfl⟩
                · rcases iu with ⟨_, e⟩ | ⟨e, _⟩
                  · rw [← e]
                    rfl
                  · exact c1 (by omega)
                · rcases iu with ⟨e, _⟩ | ⟨_, e⟩
                  · omega
                  · rw [← e]
                    rfl
            | _ =>
              walk_at "wy"
              exact bad rfl _ s1
          · rintro σ H' ⟨v1, s1, hF1, c1, c2, rfl⟩
            have q1 := c1 (by show 1 ≤ 2; decide)
            have r1 := c2 (by show 2 ≤ 2; decide)
            rw [q1, r1] at k
            obtain ⟨aq, us, rfl, rfl, tq, lq, uq⟩ := some_at g2 q1
            obtain ⟨ar, ws, rfl, rfl, tr, lr, ur⟩ := some_at g3 r1
            have szq : ∀ u ∈ us, sizeM u.2 ≤ 100000 := fun u hu => by
              have := size_mem (List.mem_map.mpr ⟨u, hu, rfl⟩ : u.2 ∈ us.map (·.2))
              rw [sizeM, sizeL, sizeL, sizeM] at hsz
              omega
            have szr : ∀ u ∈ ws, sizeM u.2 ≤ 100000 := fun u hu => by
              have := size_mem (List.mem_map.mpr ⟨u, hu, rfl⟩ : u.2 ∈ ws.map (·.2))
              rw [sizeM, sizeL, sizeL, sizeL, sizeM, sizeM] at hsz
              omega
            walk_at "wx"
            refine we_lcT dd [("one", 2)] (by decide +kernel) (by intro _; rfl) ?_
            walk_at "wE"
            walk_at "wn"
            walk_at "wE"
            refine rx_tup dd (s1.tup t1) (atI_nat (j := 1) rfl) ?_
            refine lcT_map (zs := us) (fun u : V × M => u.1) (fun u => some (.bl (inputM u.2))) (s1.tup tq) (by omega) (fun u hu H2 s2 R hR => ?_) (fun L H2 hL s2 h2 => ?_)
            · have gu := At.same (s1.trans s2) _ _ (uq u hu)
              intro X' d'
              dsimp only [L2.wipe, List.map, List.set]
              walk_at "wg"
              refine ⟨rfl, fun X2 d2 => wts_nil (ite_t fun X3 d3 => ?_)⟩
              walk_at "wx"
              refine we_call d3 FS (by decide) (by decide +kernel) (by rfl) (by rfl) ?_
              walk_at "wA"
              walk_at "wn"
              walk_at "wA"
              refine ⟨u.1, u.2, rfl, gu, fun H3 s3 => ?_⟩
              walk_at "wx"
              have hz := hR H3 s3
              unfold inputM at hz
              cases es : shapedM u.2 with
              | false =>
                refine ite_f ?_
                rw [es] at hz
                exact hz
              | true =>
                refine ite_t ?_
                rw [es] at hz
                obtain ⟨w3, ms3, e3, ew3⟩ := shaped_word es
                rw [ew3] at hz
                rw [e3] at gu
                obtain ⟨uv, um⟩ := u
                cases gu with
                | @tup a3 xs3 _ b1 bl b2 =>
                cases b2 with
                | cons c1 c2 =>
                cases c1
                walk_at "wx"
                refine rx_tup d3 (s3.tup b1) (atI_nat (j := 0) rfl) ?_
                walk_at "wx"
                exact hz
            · have e5 : us.filterMap (fun u => some (V.bl (inputM u.2))) = (us.map fun u => inputM u.2).map V.bl := by
                rw [List.filterMap_eq_map', List.map_map] <;> rfl
              rw [e5] at h2
              walk_at "wx"
              refine rc_all dd (SqL.of h2) ?_
              walk_at "wx"
              have ei : (us.map fun u => inputM u.2).all id = (listT (.tup (us.map (·.2)))).all inputM := by
                show _ = (us.map (·.2)).all inputM
                rw [List.all_map, List.all_map]
                rfl
              rw [ei]
              cases ein : (listT (.tup (us.map (·.2)))).all inputM with
              | false =>
                refine ite_t ?_
                walk_at "wx"
                have k := k _ (s1.trans s2)
                rw [ein] at k
                exact k
              | true =>
                refine ite_f ?_
                rw [ein] at k
                walk_at "wx"
                refine we_lcT dd [("one", 2)] (by decide +kernel) (by intro _; rfl) ?_
                walk_at "wE"
                walk_at "wn"
                walk_at "wE"
                refine rx_tup dd ((s1.trans s2).tup t1) (atI_nat (j := 2) rfl) ?_
                refine lcT_map (zs := ws) (fun u : V × M => u.1) (fun u => some (.bl (cellM u.2))) ((s1.trans s2).tup tr) (by omega) (fun u hu H3 s3 R hR => ?_) (fun L3 H3 hL3 s3 h3 => ?_)
                · have gu := At.same ((s1.trans s2).trans s3) _ _ (ur u hu)
                  intro X' d'
                  dsimp only [L2.wipe, List.map, List.set]
                  walk_at "wg"
                  refine ⟨rfl, fun X2 d2 => wts_nil (ite_t fun X3 d3 => ?_)⟩
                  walk_at "wx"
                  refine we_call d3 FC (by decide) (by decide +kernel) (by rfl) (by rfl) ?_
                  walk_at "wA"
                  walk_at "wn"
                  walk_at "wA"
                  exact ⟨u.1, u.2, rfl, gu, szr u hu, fun H4 s4 => hR _ s4⟩
                · have e6 : ws.filterMap (fun u => some (V.bl (cellM u.2))) = (ws.map fun u => cellM u.2).map V.bl := by
                    rw [List.filterMap_eq_map', List.map_map] <;> rfl
                  rw [e6] at h3
                  walk_at "wx"
                  refine rc_all dd (SqL.of h3) ?_
                  have k := k _ ((s1.trans s2).trans s3)
                  have ec : (ws.map fun u => cellM u.2).all id = (listT (.tup (ws.map (·.2)))).all cellM := by
                    show _ = (ws.map (·.2)).all cellM
                    rw [List.all_map, List.all_map]
                    rfl
                  rw [ec]
                  exact k
      | _ =>
        refine rc_isi dd (ClsV.ty _) (by walk_at "wTy") (kit_bt (r := false) (by decide +kernel)) ?_
        walk_at "wy"
        exact k _ (Same.refl _)
end K02

namespace K02
variable {G : Gb}
/-! ### lists of texts as data -/
theorem dp_strs {K : PySem.W.Frag} {H : Hp} {a : Addr} {ss : List Str} (h : SqL K H a (ss.map V.str)) : Dp K H (.ref a) (.list (ss.map PyData.str)) := by
  refine .lst h ?_
  clear h
  induction ss with
  | nil => exact .nil
  | cons n ns ih => exact .cons (.str n) ih
theorem lay_strs : ∀ (ns : List Str), (∀ z ∈ ns, PyData.strOk z = true) → PyData.canLayAll0 (ns.map PyData.str) = true ∧ PyData.depthAll (ns.map PyData.str) = 0
  | [], _ => ⟨rfl, rfl⟩
  | n :: ns, h => by
    obtain ⟨h1, h2⟩ := lay_strs ns fun z hz => h z (List.mem_cons_of_mem _ hz)
    refine ⟨?_, ?_⟩
    · show (PyData.strOk n && PyData.canLayAll0 (ns.map PyData.str)) = true
      rw [h1, h n List.mem_cons_self] <;> rfl
    · show max 0 (PyData.depthAll (ns.map PyData.str)) = 0
      rw [h2] <;> rfl
theorem shaped_strs (ns : List Str) (h : ∀ z ∈ ns, PyData.strOk z = true) : SeqAt.shaped (.list (ns.map PyData.str)) = true := by
  obtain ⟨h1, h2⟩ := lay_strs ns h
  show (PyData.canLayAll0 (ns.map PyData.str) && decide (PyData.depthAll (ns.map PyData.str) + 1 ≤ 64)) = true
  rw [h1, h2] <;> rfl
theorem eqv_nilS {ns : List Str} : PyData.eqv (.list (ns.map PyData.str)) (.list []) = ns.isEmpty := by
  cases ns <;> rfl
theorem ro_eqNil {X : Cx} {N : List Str} {sc : Scope} {k : Nat} {H : Hp} {Q : VK} {a p : Addr} {ss : List Str} (d : Def X G N sc k) (h : H a = some (.lst (ss.map V.str))) (h2 : H p = some (.lst [])) (hk : ∀ z ∈ ss, PyData.strOk z = true) (q : Q (.bl ss.isEmpty) H) : RO X (compareOp .Eq) (.ref a) (.ref p) H Q :=
  ro_eqD d (dp_strs (SqL.of h)) (.lst (SqL.of h2) .nil) (shaped_strs ss hk) rfl (by rw [eqv_nilS]; exact q)
def keptL : List Str := ["and", "cases", "cell", "else", "fewest", "from", "greatest", "if", "input", "least", "most", "not", "of", "or", "place", "row", "settle", "start", "sum", "then", "to"]
/-- _law_kept() -/
def spKept : Sp := fun vs H Q _ => vs = [] ∧ ∀ (p : Addr) (H' : Hp), H p = none → Same H H' → H' p = some (.lst (keptL.map V.str)) → Q (.ref p) H'
theorem fn_kept (T : Top G "_law_kept" (top 33) []) : Fn G "_law_kept" 0 1 spKept := by
  refine T.fn (N := ["_law_found"]) ⟨rfl, rfl, rfl, by decide +kernel, rfl, by decide +kernel, by decide +kernel⟩ (fun vs H Q E h => ?_) (fun X vs H Q E d h => ?_)
  · obtain ⟨rfl, _⟩ := h
    rfl
  · have dd := d.toDef
    obtain ⟨rfl, k⟩ := h
    show WB X _ _ [none] H
    refine wb_cons ?_
    walk_at "wx"
    refine ⟨by show 13 ≤ sizeLine; decide, fun p hp => ?_⟩
    walk_at "wx"
    refine ⟨by show 8 ≤ sizeLine; decide, fun q hq => ?_⟩
    refine ro_cat (by rw [upd_ne (ne_of_none upd_same hq), upd_same]) upd_same (by show 21 ≤ sizeLine; decide) fun r hr => ?_
    have h0 : H r = none := (same_new hp).free ((same_new hq).free hr)
    exact k r _ h0 (((same_new hp).trans (same_new hq)).trans (same_new hr)) upd_same
def okL (l : List Nat) : Prop := ∀ c ∈ l, c < 1114112
theorem strOk_tx {l : List Nat} (h : okL l) : PyData.strOk (tx l) = true := by
  unfold PyData.strOk
  rw [Array.all_eq_true_iff_forall_mem]
  intro c hc
  have hm : c ∈ (tx l).cps.toList := Array.mem_toList_iff.mpr hc
  rw [tx_list] at hm
  exact decide_eq_true (h c hm)
theorem strOk_signs {l : List Nat} (h : okL l) (p : Nat → Bool) : ∀ z ∈ (l.filter p).map fun c => tx [c], PyData.strOk z = true := fun z hz => by
  obtain ⟨c, hc, rfl⟩ := List.mem_map.mp hz
  exact strOk_tx fun e he => by
    rw [List.mem_singleton.mp he]
    exact h c (List.mem_filter.mp hc).1
/-- _law_is_small(word) -/
def spLSmall : Sp := fun vs H Q _ => ∃ l, vs = [.str (tx l)] ∧ l.length ≤ 10000 ∧ okL l ∧ ∀ H', Same H H' → Q (.bl (!decide (l = []) && l.all isSmall)) H'
theorem fm_not (p : Nat → Bool) (l : List Nat) : l.filterMap (fun c => if p c then none else some (V.str (tx [c]))) = ((l.filter (fun c => !p c)).map fun c => tx [c]).map V.str := by
  induction l with
  | nil => rfl
  | cons c l ih =>
    rw [List.filterMap_cons, List.filter_cons]
    cases p c with
    | true => exact ih
    | false =>
      show V.str (tx [c]) :: _ = V.str (tx [c]) :: _
      rw [ih]
theorem empty_all (p : Nat → Bool) (l : List Nat) : ((l.filter (fun c => !p c)).map fun c => tx [c]).isEmpty = l.all p := by
  rw [List.isEmpty_map]
  induction l with
  | nil => rfl
  | cons c l ih =>
    rw [List.filter_cons, List.all_cons]
    cases p c with
    | true => exact ih
    | false => rfl
theorem fn_lsmall (b : Bi G.mg) (T : Top G "_law_is_small" (top 34) ["_law_word"]) : Fn G "_law_is_small" 1 1 spLSmall := by
  refine T.fn (N := ["_law_word", "_law_letter"]) ⟨rfl, rfl, rfl, by decide +kernel, rfl, by decide +kernel, by decide +kernel⟩ (fun vs H Q E h => ?_) (fun X vs H Q E d h => ?_)
  · obtain ⟨_, rfl, _⟩ := h
    rfl
  · have dd := d.toDef
    obtain ⟨l, rfl, hl, ho, k⟩ := h
    show WB X _ _ [some (.str (tx l)), none] H
    refine wb_one ?_
    walk_at "wx"
    have e0 : decide (tx l = ("" : Str)) = decide (l = []) := by rw [t_em, decide_eq_decide, tx_inj]
    rw [e0]
    cases el : decide (l = []) with
    | true =>
      have k := k H (Same.refl _)
      rw [el] at k
      exact ite_f k
    | false =>
      rw [el] at k
      refine ite_t ?_
      walk_at "wx"
      refine we_lcS dd [("_law_letter", 1)] (by decide +kernel) (by intro _; rfl) ?_
      walk_at "wx"
      have hl3 : l.length < 100000 := by omega
      refine lcS_map (fun c => if isSmall c then none else some (.str (tx [c]))) hl3 (fun c _ H1 s1 R hR => ?_) (fun L H1 hL s1 h1 => ?_)
      · intro X' d'
        dsimp only [L2.wipe, List.map, List.set]
        walk_at "wg"
        refine ⟨rfl, fun X2 d2 => wts_one (wt_not (wt_btw 97 122 ch_a ch_z (by rfl) ?_))⟩
        walk_at "wx"
        refine ⟨Nat.le_refl _, ?_⟩
        have hR := hR H1 (Same.refl _)
        show if (!isSmall c) = true then _ else _
        cases ec : isSmall c with
        | true =>
          rw [ec] at hR
          exact ite_f hR
        | false =>
          rw [ec] at hR
          refine ite_t fun X3 d3 => ?_
          walk_at "wx"
          exact hR
      · rw [fm_not] at h1
        walk_at "wx"
        refine ⟨Nat.zero_le _, fun q hq => ?_⟩
        refine ro_eqNil dd (by rw [upd_ne (ne_of_none h1 hq)]; exact h1) upd_same (strOk_signs ho _) ?_
        rw [empty_all]
        exact k _ (s1.trans (same_new hq))
def unwS : List Str := ["fork", "leaf"]
def lnameW (l : List Nat) : Bool := decide (l.length < 9) && ((!decide (l = []) && l.all isSmall) && !decide (tx l ∈ keptL ++ unwS))
theorem kept_perm (z : Str) : z ∈ keptS ↔ z ∈ keptL ++ unwS := by
  unfold keptS keptL unwS
  simp only [List.mem_cons, List.cons_append, List.nil_append, List.not_mem_nil, or_false]
  constructor <;> (intro h; rcases h with h | h | h | h | h | h | h | h | h | h | h | h | h | h | h | h | h | h | h | h | h | h | h <;> simp [h])
theorem name_eq (l : List Nat) : lnameW l = isNameW l := by
  unfold lnameW isNameW
  have e1 : decide (tx l ∈ keptS) = decide (tx l ∈ keptL ++ unwS) := by rw [decide_eq_decide]; exact kept_perm _
  rw [e1]
  have e2 : decide (l.length < 9) = decide (l.length ≤ 8) := by rw [decide_eq_decide]; omega
  have e3 : decide (1 ≤ l.length) = !decide (l = []) := by
    cases l with
    | nil => rfl
    | cons c r => simp
  rw [e2, e3]
  cases decide (l = []) <;> cases decide (l.length ≤ 8) <;> cases l.all isSmall <;> cases decide (tx l ∈ keptL ++ unwS) <;> rfl
def spLName : Sp := fun vs H Q _ => ∃ l, vs = [.str (tx l)] ∧ l.length ≤ 10000 ∧ okL l ∧ ∀ H', Same H H' → Q (.bl (isNameW l)) H'
theorem fn_lname (b : Bi G.mg) (FK : Fn G "_law_kept" 0 1 spKept) (FS : Fn G "_law_is_small" 1 1 spLSmall) (T : Top G "_law_is_name" (top 35) ["_law_matter"]) : Fn G "_law_is_name" 1 2 spLName := by
  refine T.fn (N := ["_law_matter"]) ⟨rfl, rfl, rfl, by decide +kernel, rfl, by decide +kernel, by decide +kernel⟩ (fun vs H Q E h => ?_) (fun X vs H Q E d h => ?_)
  · obtain ⟨_, rfl, _⟩ := h
    rfl
  · have dd := d.toDef
    obtain ⟨l, rfl, hl, ho, k⟩ := h
    show WB X _ _ [some (.str (tx l))] H
    refine wb_one ?_
    rw [← name_eq] at k
    unfold lnameW at k
    walk_at "wx"
    refine ite_t ?_
    walk_at "wx"
    refine rc_lenS (by rw [tx_len]; exact len_le (by omega)) ?_
    rw [tx_len]
    walk_at "wx"
    have h9 : decide ((l.length : Int) < 9) = decide (l.length < 9) := by rw [decide_eq_decide]; omega
    rw [h9]
    cases e9 : decide (l.length < 9) with
    | false =>
      have k := k H (Same.refl _)
      rw [e9] at k
      exact ite_f k
    | true =>
      rw [e9] at k
      refine ite_t ?_
      walk_at "wx"
      refine we_call dd FS (by decide) (by decide +kernel) (by rfl) (by rfl) ?_
      walk_at "wx"
      refine ⟨hl, ho, fun H1 s1 => ⟨_, rfl, ?_⟩⟩
      cases es : (!decide (l = []) && l.all isSmall) with
      | false =>
        have k := k H1 s1
        rw [es] at k
        exact ite_f k
      | true =>
        rw [es] at k
        refine ite_t ?_
        walk_at "wx"
        refine we_call0 dd FK (by decide) (by decide +kernel) ⟨rfl, fun p H2 hp s2 h2 => ?_⟩
        walk_at "wx"
        refine ⟨by show 2 ≤ sizeLine; decide, fun q hq => ?_⟩
        refine ro_cat (by rw [upd_ne (ne_of_none h2 hq)]; exact h2) upd_same (by show 23 ≤ sizeLine; decide) fun r hr => ?_
        refine ro_notInG (ss := keptL ++ unwS) dd (.inr (SqL.of upd_same)) ?_
        exact k _ (((s1.trans s2).trans (same_new hq)).trans (same_new hr))
/-- .. of any value -/
def spLNameM (K : PySem.W.Frag) : Sp := fun vs H Q _ => ∃ v m, vs = [v] ∧ At K H v m ∧ ∀ H', Same H H' → Q (.bl (nameM m)) H'
theorem fn_lnameM (b : Bi G.mg) (FK : Fn G "_law_kept" 0 1 spKept) (FS : Fn G "_law_is_small" 1 1 spLSmall) (T : Top G "_law_is_name" (top 35) ["_law_matter"]) : Fn G "_law_is_name" 1 2 (spLNameM G.K) := by
  refine T.fn (N := ["_law_matter"]) ⟨rfl, rfl, rfl, by decide +kernel, rfl, by decide +kernel, by decide +kernel⟩ (fun vs H Q E h => ?_) (fun X vs H Q E d h => ?_)
  · obtain ⟨_, _, rfl, _⟩ := h
    rfl
  · have dd := d.toDef
    obtain ⟨v, m, rfl, hv, k⟩ := h
    show WB X _ _ [some v] H
    refine wb_one ?_
    cases hv with
    | str z hz =>
      obtain ⟨l, rfl⟩ : ∃ l, z = tx l := ⟨z.cps.toList, (tx_of z).symm⟩
      rw [tx_list] at hz
      obtain ⟨hl, ho⟩ := hz
      have hl : l.length ≤ 10000 := by omega
      have k : ∀ H', Same H H' → Q (.bl (isNameW (tx l).cps.toList)) H' := k
      rw [tx_list] at k
      rw [← name_eq] at k
      unfold lnameW at k
      walk_at "wx"
      refine ite_t ?_
      walk_at "wx"
      refine rc_lenS (by rw [tx_len]; exact len_le (by omega)) ?_
      rw [tx_len]
      walk_at "wx"
      have h9 : decide ((l.length : Int) < 9) = decide (l.length < 9) := by rw [decide_eq_decide]; omega
      rw [h9]
      cases e9 : decide (l.length < 9) with
      | false =>
        have k := k H (Same.refl _)
        rw [e9] at k
        exact ite_f k
      | true =>
        rw [e9] at k
        refine ite_t ?_
        walk_at "wx"
        refine we_call dd FS (by decide) (by decide +kernel) (by rfl) (by rfl) ?_
        walk_at "wx"
        refine ⟨hl, ho, fun H1 s1 => ⟨_, rfl, ?_⟩⟩
        cases es : (!decide (l = []) && l.all isSmall) with
        | false =>
          have k := k H1 s1
          rw [es] at k
          exact ite_f k
        | true =>
          rw [es] at k
          refine ite_t ?_
          walk_at "wx"
          refine we_call0 dd FK (by decide) (by decide +kernel) ⟨rfl, fun p H2 hp s2 h2 => ?_⟩
          walk_at "wx"
          refine ⟨by show 2 ≤ sizeLine; decide, fun q hq => ?_⟩
          refine ro_cat (by rw [upd_ne (ne_of_none h2 hq)]; exact h2) upd_same (by show 23 ≤ sizeLine; decide) fun r hr => ?_
          refine ro_notInG (ss := keptL ++ unwS) dd (.inr (SqL.of upd_same)) ?_
          exact k _ (((s1.trans s2).trans (same_new hq)).trans (same_new hr))
    | _ =>
      walk_at "wx"
      exact ite_f (k _ (Same.refl _))
end K02

namespace K02
variable {G : Gb}
theorem rm_popI {X : Cx} {H : Hp} {Q : VK} {l : Addr} {xs : List V} {i : Nat} {y : V} (h : H l = some (.lst xs)) (hy : xs[i]? = some y) (hl : xs.length ≤ 1000) (q : Q y (upd H l (.lst (xs.eraseIdx i)))) : RM X "list.pop" (.ref l) [.int i] H Q := by
  have hi : i < xs.length := (List.getElem?_eq_some_iff.mp hy).1
  have e63 : (2 : Int) ^ 63 = 9223372036854775808 := by decide
  refine ⟨_, mt_popAt, l, xs, (i : Int), i, y, rfl, rfl, h, by omega, by omega, ?_, hy, q⟩
  unfold seqIndex?
  have n0 : ¬ ((i : Int) < 0) := by omega
  have c1 : decide ((0 : Int) ≤ (i : Int)) = true := decide_eq_true (by omega)
  have c2 : decide ((i : Int) < (xs.length : Int)) = true := decide_eq_true (by omega)
  simp only [if_neg n0, c1, c2, Bool.and_self, if_true, Int.toNat_natCast]
theorem erase_map {α β : Type} (g : α → β) : ∀ (l : List α) (i : Nat), (l.map g).eraseIdx i = (l.eraseIdx i).map g
  | [], _ => rfl
  | _ :: _, 0 => rfl
  | a :: l, i + 1 => by
    rw [List.map_cons, List.eraseIdx_cons_succ, List.eraseIdx_cons_succ, List.map_cons, erase_map g l i]
theorem erase_perm {α : Type} : ∀ {l : List α} {i : Nat} {a : α}, l[i]? = some a → (a :: l.eraseIdx i).Perm l
  | [], _, _, h => by simp at h
  | b :: l, 0, a, h => by
    cases h
    exact .refl _
  | b :: l, i + 1, a, h => by
    have ih := erase_perm (l := l) (i := i) (a := a) h
    rw [List.eraseIdx_cons_succ]
    exact (List.Perm.swap b a _).trans (ih.cons b)
/-- _law_shuffled(draw, some), some a list of texts: the same texts, in some order -/
def spShuffled (K : PySem.W.Frag) : Sp := fun vs H Q _ => ∃ (H0 : Hp) (p q : Addr) (B : Nat) (ss : List Str), vs = [.ref p, .ref q] ∧ DrawAt H0 H p B ∧ B < 800000000000 ∧ SqL K H0 q (ss.map V.str) ∧ ss.length ≤ 500 ∧ (∀ z ∈ ss, PyData.strOk z = true) ∧
  ∀ (ys : List Str) (L : Addr) (H0' H' : Hp), ys.Perm ss → Same H0 H0' → H0 L = none → H0' L = some (.lst (ys.map V.str)) → DrawAt H0' H' p (B + ss.length) → Q (.ref L) H'
theorem fn_shuffled (b : Bi G.mg) (FT : Fn G "_law_take" 2 2 spTake) (T : Top G "_law_shuffled" (top 30) ["_law_draw", "_law_some"]) : Fn G "_law_shuffled" 2 3 (spShuffled G.K) := by
  refine T.fn (N := ["_law_draw", "_law_some", "_law_left", "_law_found"]) ⟨rfl, rfl, rfl, by decide +kernel, rfl, by decide +kernel, by decide +kernel⟩ (fun vs H Q E h => ?_) (fun X vs H Q E d h => ?_)
  · obtain ⟨_, _, _, _, _, rfl, _⟩ := h
    rfl
  · have dd := d.toDef
    obtain ⟨H0, p, q, B, ss, rfl, A, hB, hq, hl, hok, k⟩ := h
    show WB X _ _ [some (.ref p), some (.ref q), none, none] H
    refine wb_cons ?_
    refine ws_par2 d 2 3 rfl rfl (by decide) (by decide +kernel) (by decide +kernel) (by intro _; rfl) (by rfl) ?_ (by rfl) (by rfl)
    walk_at "wx"
    refine rc_listOf dd (.inl (A.same.seq hq)) fun l1 f1 => ?_
    walk_at "wx"
    refine ⟨by decide, fun l2 f2 => ?_⟩
    have A1 := (A.laid (o := .lst (ss.map V.str)) f1).laid (o := .lst []) f2
    have n1 : H0 l1 = none := A.same.free f1
    have n2 : (upd H0 l1 (.lst (ss.map V.str))) l2 = none := (A.laid (o := .lst (ss.map V.str)) f1).same.free f2
    have n12 : l1 ≠ l2 := fun e => by rw [e, upd_same] at n2; cases n2
    have n2' : H0 l2 = none := by rw [upd_ne (fun e => n12 e.symm)] at n2; exact n2
    refine wb_cons ?_
    refine ws_whileN d (fun n σ H' => ∃ (Hb : Hp) (ls fs : List Str), Same H0 Hb ∧ DrawAt Hb H' p (B + fs.length) ∧ Hb l1 = some (.lst (ls.map V.str)) ∧ Hb l2 = some (.lst (fs.map V.str)) ∧ (fs ++ ls).Perm ss ∧ ls.length = n ∧ σ = [some (.ref p), some (.ref q), some (.ref l1), some (.ref l2)]) (m := ss.length) ⟨_, ss, [], (same_new n1).trans (same_new n2), A1, by rw [upd_ne n12]; exact upd_same, upd_same, .refl _, rfl, rfl⟩ ?_
    rintro n σ H' ⟨Hb, ls, fs, sb, A2, g1, g2, hp, hn, rfl⟩
    have hle : fs.length + ls.length = ss.length := by
      have := hp.length_eq
      rw [List.length_append] at this
      exact this
    walk_at "wx"
    refine ⟨by decide, fun l3 f3 => ?_⟩
    have A3 := A2.keep (same_new (o := .lst []) f3)
    have h1 := A2.same _ _ g1
    have hoks : ∀ z ∈ ls, PyData.strOk z = true := fun z hz => hok z (hp.mem_iff.mp (List.mem_append_right _ hz))
    refine ro_neD dd (dp_strs (SqL.of (by rw [upd_ne (ne_of_none h1 f3)]; exact h1))) (.lst (SqL.of upd_same) .nil) (shaped_strs ls hoks) rfl ?_
    rw [eqv_nilS]
    generalize upd H' l3 (.lst []) = H2 at A3 ⊢
    refine ⟨_, rfl, ?_⟩
    cases ls with
    | nil =>
      refine ite_f ?_
      walk_at "wx"
      rw [List.append_nil] at hp
      exact k fs l2 Hb H2 hp sb n2' g2 (A3.mono (by rw [hp.length_eq]; exact Nat.le_refl _))
    | cons s0 ls =>
      refine ite_t ?_
      generalize hls : s0 :: ls = ms at *
      walk_at "wx"
      refine we_bm dd PySem.F.plainAttrs_list PySem.F.slot_list_append PySem.F.type_list_append (by rfl) (by rfl) (by rfl) (by rfl) (by rfl) ?_
      walk_at "wx"
      refine ⟨ty_list (A3.same _ _ g2), ?_⟩
      walk_at "wA"
      refine we_bm dd PySem.F.plainAttrs_list PySem.F.slot_list_pop PySem.F.type_list_pop (by rfl) (by rfl) (by rfl) (by rfl) (by rfl) ?_
      walk_at "wx"
      refine ⟨ty_list (A3.same _ _ g1), ?_⟩
      walk_at "wA"
      refine we_call dd FT (by decide) (by decide +kernel) (by rfl) (by rfl) ?_
      walk_at "wx"
      refine rc_lenL dd (SqL.of (A3.same _ _ g1)) ?_
      walk_at "wA"
      have lpos : 0 < ms.length := by rw [← hls]; exact Nat.succ_pos _
      refine ⟨Hb, p, B + fs.length, _, rfl, A3, by omega, by rw [List.length_map]; omega, by rw [List.length_map]; omega, fun i H3 c0 c1 A4 => ?_⟩
      rw [List.length_map] at c1
      obtain ⟨j, rfl⟩ : ∃ j : Nat, i = (j : Int) := ⟨i.toNat, by omega⟩
      have hj : j < ms.length := by omega
      obtain ⟨z, hz⟩ : ∃ z, ms[j]? = some z := ⟨_, List.getElem?_eq_getElem hj⟩
      walk_at "wA"
      refine rm_popI (A4.same _ _ g1) (by rw [List.getElem?_map, hz]; rfl) (by rw [List.length_map]; omega) ?_
      have A5 := A4.put (o' := .lst ((ms.map V.str).eraseIdx j)) g1
      have g2' : (upd Hb l1 (.lst ((ms.map V.str).eraseIdx j))) l2 = some (.lst (fs.map V.str)) := by rw [upd_ne (fun e => n12 e.symm)]; exact g2
      walk_at "wA"
      refine rm_append (A5.same _ _ g2') (by rw [List.length_map]; exact len_lt (by omega)) ?_
      have A6 := A5.put (o' := .lst (fs.map V.str ++ [.str z])) g2'
      walk_at "wx"
      have pe := erase_perm hz
      have el : (ms.eraseIdx j).length < n := by
        have := pe.length_eq
        rw [List.length_cons] at this
        omega
      refine ⟨(ms.eraseIdx j).length, el, _, ms.eraseIdx j, fs ++ [z], same_upd (same_upd sb n1) n2', A6.mono (by rw [List.length_append, List.length_singleton]; omega), ?_, ?_, ?_, rfl, rfl⟩
      · rw [upd_ne n12, upd_same, erase_map]
      · rw [upd_same, List.map_append]
        rfl
      · rw [List.append_assoc]
        exact (List.Perm.append_left fs pe).trans hp
end K02

namespace K02
variable {G : Gb}
theorem op_mul0 {X : Cx} : OpR X (binaryOp .Mult) (fun x y H Q => ∃ (z : Str) (k : Int), x = .str z ∧ y = .int k ∧ k < 1 ∧ -(2 ^ 63) ≤ k ∧ Q (.str "") H) := by
  intro pins s σ H x y v u Q I rx ry h
  obtain ⟨z, k, rfl, rfl, h1, h2, q⟩ := h
  obtain ⟨t, rfl⟩ := rx
  obtain ⟨t', rfl⟩ := ry
  exact PySem.P.mul_str_none h1 (by omega) ⟨.str "", H, I.tok _, ⟨_, rfl⟩, q⟩
theorem ro_mul0 {X : Cx} {H : Hp} {Q : VK} {z : Str} {k : Int} (h1 : k < 1) (h2 : -(2 ^ 63) ≤ k) (q : Q (.str "") H) : RO X (binaryOp .Mult) (.str z) (.int k) H Q := ⟨_, op_mul0, z, k, rfl, rfl, h1, h2, q⟩
abbrev abc : Str := "abcdefghijklmnopqrstuvwxyz"
theorem abc_at (n : Nat) (h : n < 26) : abc.cps.toList[n]? = some (97 + n) := by
  have key : ∀ n ∈ List.range 26, abc.cps.toList[n]? = some (97 + n) := by decide +kernel
  exact key n (List.mem_range.mpr h)
abbrev tails : List Str := ["", "", "q", "zz"]
/-- the n-th name -/
def NameAt (n : Nat) (z : Str) : Prop := ∃ e ∈ tails, z = tx [97 + n] ++ e
theorem name_ok {n : Nat} {z : Str} (hn : n < 26) (h : NameAt n z) : nameS z = true ∧ z.cps.toList.length ≤ 3 ∧ PyData.strOk z = true := by
  obtain ⟨e, he, rfl⟩ := h
  have key : ∀ n ∈ List.range 26, ∀ e ∈ tails, (nameS (tx [97 + n] ++ e) && (decide ((tx [97 + n] ++ e).cps.toList.length ≤ 3) && PyData.strOk (tx [97 + n] ++ e))) = true := by decide +kernel
  have := key n (List.mem_range.mpr hn) e he
  simp only [Bool.and_eq_true, decide_eq_true_eq] at this
  exact this
theorem name_head {n : Nat} {z : Str} (h : NameAt n z) : z.cps.toList.head? = some (97 + n) := by
  obtain ⟨e, _, rfl⟩ := h
  have : (tx [97 + n] ++ e).cps.toList = (97 + n) :: e.cps.toList := by
    show ((tx [97 + n]).cps ++ e.cps).toList = _
    rw [Array.toList_append, tx_list]
    rfl
  rw [this]
  rfl
theorem names_nodup {ls : List Str} (h : ∀ (j : Nat) (z : Str), ls[j]? = some z → NameAt j z) : ls.Nodup := by
  refine List.pairwise_iff_getElem.mpr fun i j hi hj hij e => ?_
  have h1 := name_head (h i ls[i] (List.getElem?_eq_getElem hi))
  have h2 := name_head (h j ls[j] (List.getElem?_eq_getElem hj))
  rw [e, h2] at h1
  have := Option.some.inj h1
  omega
theorem str_end (z : Str) : z ++ ("" : Str) = z := by
  have h : (z ++ ("" : Str)).cps = z.cps := by
    show z.cps ++ ("" : Str).cps = z.cps
    have : ("" : Str).cps = #[] := by decide +kernel
    rw [this, Array.append_empty]
  cases z
  exact congrArg Str.mk h
def spNames : Sp := fun vs H Q _ => ∃ (H0 : Hp) (p : Addr) (B n : Nat), vs = [.ref p, .int (n : Nat)] ∧ DrawAt H0 H p B ∧ B < 700000000000 ∧ n ≤ 26 ∧ ∀ (ys : List Str) (L : Addr) (H0' H' : Hp), ys.length = n → ys.Nodup → (∀ z ∈ ys, nameS z = true ∧ z.cps.toList.length ≤ 3 ∧ PyData.strOk z = true) →
  Same H0 H0' → H0 L = none → H0' L = some (.lst (ys.map V.str)) → DrawAt H0' H' p (B + 2 * n) → Q (.ref L) H'
theorem fn_names (b : Bi G.mg) (FT : Fn G "_law_take" 2 2 spTake) (FP : Fn G "_law_pick" 2 3 (spPick G.K)) (FS : Fn G "_law_shuffled" 2 3 (spShuffled G.K)) (T : Top G "_law_names" (top 31) ["_law_draw", "_law_many"]) : Fn G "_law_names" 2 4 spNames := by
  refine T.fn (N := ["_law_draw", "_law_many", "_law_letters", "_law_found", "_law_k"]) ⟨rfl, rfl, rfl, by decide +kernel, rfl, by decide +kernel, by decide +kernel⟩ (fun vs H Q E h => ?_) (fun X vs H Q E d h => ?_)
  · obtain ⟨_, _, _, _, rfl, _⟩ := h
    rfl
  · have dd := d.toDef
    obtain ⟨H0, p, B, n, rfl, A, hB, hn, k⟩ := h
    show WB X _ _ [some (.ref p), some (.int (n : Nat)), none, none, none] H
    refine wb_cons ?_
    walk_at "wx"
    refine ws_lcR d 3 [("_law_k", 4)] (by rfl) (by decide +kernel) (by decide +kernel) (by decide +kernel) b.b_range (by intro _; rfl) (by rfl) (by rfl) (by decide +kernel) ?_
    walk_at "wx"
    refine ⟨by omega, by omega, fun L hL => ⟨fun i H' => ∃ (Hb : Hp) (ls : List Str), Same H0 Hb ∧ DrawAt Hb H' p (B + i) ∧ ls.length = i ∧ Hb L = some (.lst (ls.map V.str)) ∧ ∀ (j : Nat) (z : Str), ls[j]? = some z → NameAt j z, ?_, ?_, ?_⟩⟩
    · exact ⟨upd H0 L (.lst []), [], same_new (A.same.free hL), A.laid hL, rfl, upd_same, fun j z h => by simp at h⟩
    · rintro i H2 hi ⟨Hb, ls, sb, A2, el, hL2, hz⟩ X' d'
      have hi2 : i < 26 := by omega
      dsimp only [L2.wipe, List.map, List.set]
      walk_at "wg"
      refine ⟨rfl, fun X2 d2 => wts_nil (ite_t fun X3 d3 => ?_)⟩
      walk_at "wx"
      refine ro_mod (by decide) ?_
      walk_at "wx"
      refine rx_str (by decide +kernel) (c := 97 + i) (by rw [show ((i : Int) % 26) = (i : Int) from by omega]; exact atI_nat (abc_at i hi2)) ?_
      walk_at "wx"
      refine we_call d3 FP (by decide) (by decide +kernel) (by rfl) (by rfl) ?_
      walk_at "wx"
      refine ⟨by show 4 ≤ sizeLine; decide, fun q1 f1 => ?_⟩
      walk_at "wA"
      have A3 := A2.laid (o := .lst (tails.map V.str)) f1
      have n1 : Hb q1 = none := A2.same.free f1
      refine ⟨_, p, q1, B + i, _, rfl, A3, by omega, SqL.of upd_same, by show 0 < 4; decide, by show 4 < 1073741824; decide, fun j x H3 hx A4 => ?_⟩
      obtain ⟨e, he, rfl⟩ := map_at hx
      have hem := List.mem_of_getElem? he
      have hel : e.length ≤ 2 := by
        have key : ∀ e ∈ tails, e.length ≤ 2 := by decide +kernel
        exact key e hem
      refine ro_adds (len_le (by show 1 + e.length ≤ _; omega)) ?_
      walk_at "wx"
      refine ro_fdiv (by decide) ?_
      refine ro_mul0 (by omega) (by omega) ?_
      have l2 : ((⟨#[97 + i]⟩ : Str) ++ e).length ≤ 3 := by
        show ((#[97 + i] : Array Nat) ++ e.cps).size ≤ 3
        rw [Array.size_append]
        show 1 + e.length ≤ 3
        omega
      refine ro_adds (len_le (by show ((⟨#[97 + i]⟩ : Str) ++ e).length + 0 ≤ _; omega)) ?_
      rw [str_end]
      have A5 := A4.less (same_new n1)
      refine ⟨ls.map V.str, A5.same _ _ hL2, by rw [List.length_map]; exact len_lt (by omega), upd Hb L (.lst (ls.map V.str ++ [.str (tx [97 + i] ++ e)])), ls ++ [tx [97 + i] ++ e], same_upd sb (A.same.free hL), (A5.put hL2).mono (by omega), by rw [List.length_append, el]; rfl, by rw [upd_same, List.map_append]; rfl, fun j z h => ?_⟩
      by_cases hj : j < ls.length
      · rw [List.getElem?_append_left hj] at h
        exact hz j z h
      · rw [List.getElem?_append_right (by omega)] at h
        have e0 : j - ls.length = 0 := by
          have := (List.getElem?_eq_some_iff.mp h).1
          rw [List.length_singleton] at this
          omega
        rw [e0] at h
        have hjj : j = i := by omega
        cases h
        rw [hjj]
        exact ⟨e, hem, rfl⟩
    · rintro H2 ⟨Hb, ls, sb, A2, el, hL2, hz⟩
      have eln : ls.length = n := by rw [el]; exact Int.toNat_natCast n
      have hok : ∀ z ∈ ls, nameS z = true ∧ z.cps.toList.length ≤ 3 ∧ PyData.strOk z = true := fun z hm => by
        obtain ⟨j, hj⟩ := List.mem_iff_getElem?.mp hm
        have := (List.getElem?_eq_some_iff.mp hj).1
        exact name_ok (by omega) (hz j z hj)
      walk_at "wx"
      refine we_call dd FS (by decide) (by decide +kernel) (by rfl) (by rfl) ?_
      walk_at "wx"
      refine ⟨Hb, p, L, _, ls, rfl, A2, by omega, SqL.of hL2, by omega, fun z hm => (hok z hm).2.2, fun ys L2 H0' H3 py s3 hL3 h3 A3 => ?_⟩
      refine k ys L2 H0' H3 (by rw [py.length_eq, eln]) (py.nodup_iff.mpr (names_nodup hz)) (fun z hm => hok z (py.mem_iff.mp hm)) (sb.trans s3) (sb.free hL3) h3 (A3.mono ?_)
      omega
end K02

namespace K02
variable {G : Gb}
/-- _law_any_number(draw) -/
def spAnyNum : Sp := fun vs H Q _ => ∃ (H0 : Hp) (p : Addr) (B : Nat), vs = [.ref p] ∧ DrawAt H0 H p B ∧ B < 700000000000 ∧ ∀ (i : Int) (H' : Hp), -999 ≤ i → i ≤ 999 → DrawAt H0 H' p (B + 2) → Q (.int i) H'
theorem fn_anynum (FT : Fn G "_law_take" 2 2 spTake) (FP : Fn G "_law_pick" 2 3 (spPick G.K)) (T : Top G "_law_any_number" (top 36) ["_law_draw"]) : Fn G "_law_any_number" 1 4 spAnyNum := by
  refine T.fn (N := ["_law_draw"]) ⟨rfl, rfl, rfl, by decide +kernel, rfl, by decide +kernel, by decide +kernel⟩ (fun vs H Q E h => ?_) (fun X vs H Q E d h => ?_)
  · obtain ⟨_, _, _, rfl, _⟩ := h
    rfl
  · have dd := d.toDef
    obtain ⟨H0, p, B, rfl, A, hB, k⟩ := h
    show WB X _ _ [some (.ref p)] H
    refine wb_one ?_
    walk_at "wx"
    refine we_call dd FP (by decide) (by decide +kernel) (by rfl) (by rfl) ?_
    walk_at "wx"
    refine we_call dd FT (by decide) (by decide +kernel) (by rfl) (by rfl) ?_
    walk_at "wx"
    refine ⟨H0, p, B, 400, rfl, A, by omega, by decide, by decide, fun n H1 c0 c1 A1 => ?_⟩
    walk_at "wx"
    refine ⟨by show 14 ≤ sizeLine; decide, fun q hq => ?_⟩
    walk_at "wA"
    have A2 := A1.laid (o := .lst (([0, 0, 1, 1, -1, 2, 5, 9, 10, -72, 100, 999, -999, n - 200] : List Int).map V.int)) hq
    have nq := A1.same.free hq
    refine ⟨_, p, q, _, _, rfl, A2, by omega, SqL.of upd_same, by show 0 < 14; decide, by show 14 < 1073741824; decide, fun i x H2 hx A3 => ?_⟩
    obtain ⟨z, hz, rfl⟩ := map_at hx
    have hm := List.mem_of_getElem? hz
    have hb : -999 ≤ z ∧ z ≤ 999 := by
      simp only [List.mem_cons, List.not_mem_nil, or_false] at hm
      omega
    exact k z H2 hb.1 hb.2 ((A3.less (same_new nq)).mono (by omega))
/-! ### drawn matters: how deep, how large -/
mutual
def depthM : M → Nat
  | .tup ms => 1 + depthL ms
  | .non => 0
  | .bl _ => 0
  | .int _ => 0
  | .str _ => 0
  | .lst => 0
  | .dic => 0
def depthL : List M → Nat
  | [] => 0
  | m :: ms => max (depthM m) (depthL ms)
end
/-- a value that is the matter m at H0 -/
def spDrawn (bd bs : Nat) (K : PySem.W.Frag) (H0 : Hp) (B : Nat) (p : Addr) (Q : VK) : Prop := ∀ (v : V) (m : M) (H0' H' : Hp), Same H0 H0' → At K H0' v m → depthM m ≤ bd → sizeM m ≤ bs → DrawAt H0' H' p B → Q v H'
end K02

namespace K02
variable {G : Gb}
theorem rising_none : ∀ ns : List Int, risingI ns = ((List.range (ns.length - 1)).filterMap fun i => if ns.getD (i + 1) 0 ≤ ns.getD i 0 then some (((1 : Int) + i)) else none).isEmpty := by
  intro ns
  rw [rising_iff]
  generalize ns.length - 1 = n
  have key : ∀ l : List Nat, (l.map fun k => decide (ns.getD k 0 < ns.getD (k + 1) 0)).all id = (l.filterMap fun i => if ns.getD (i + 1) 0 ≤ ns.getD i 0 then some (((1 : Int) + i)) else none).isEmpty := by
    intro l
    induction l with
    | nil => rfl
    | cons i l ih =>
      rw [List.map_cons, List.all_cons, ih, List.filterMap_cons]
      by_cases h : ns.getD (i + 1) 0 ≤ ns.getD i 0
      · rw [if_pos h, decide_eq_false (by omega)]
        rfl
      · rw [if_neg h, decide_eq_true (by omega)]
        rfl
  exact key _
def spRises (K : PySem.W.Frag) : Sp := fun vs H Q _ => ∃ (a : Addr) (zs : List (Addr × V × Int)), vs = [.ref a] ∧ SqT K H a (zs.map fun z => V.ref z.1) ∧ (∀ z ∈ zs, SqT K H z.1 [.int z.2.2, z.2.1]) ∧ zs.length ≤ 1000 ∧ ∀ H', Same H H' → Q (.bl (risingI (zs.map (·.2.2)))) H'
theorem fn_rises (b : Bi G.mg) (T : Top G "_law_rises" (top 43) ["_law_matter"]) : Fn G "_law_rises" 1 1 (spRises G.K) := by
  refine T.fn (N := ["_law_matter", "_law_k"]) ⟨rfl, rfl, rfl, by decide +kernel, rfl, by decide +kernel, by decide +kernel⟩ (fun vs H Q E h => ?_) (fun X vs H Q E d h => ?_)
  · obtain ⟨_, _, rfl, _⟩ := h
    rfl
  · have dd := d.toDef
    obtain ⟨a, zs, rfl, hq, hz, hl, k⟩ := h
    show WB X _ _ [some (.ref a), none] H
    refine wb_one ?_
    walk_at "wx"
    refine we_lcR2 dd [("_law_k", 1)] (by decide +kernel) (by decide +kernel) b.b_range (by intro _; rfl) (by rfl) (by rfl) ?_
    walk_at "wA"
    walk_at "wE"
    walk_at "wA"
    walk_at "wx"
    refine rc_lenT dd hq ?_
    walk_at "wA"
    rw [List.length_map]
    refine lcR2_map (n := zs.length - 1) (fun i => if (zs.map (·.2.2)).getD (i + 1) 0 ≤ (zs.map (·.2.2)).getD i 0 then some (.int ((1 : Int) + i)) else none) (by omega) (by omega) (by omega) (fun i hi H1 s1 R hR => ?_) (fun L H1 hL s1 h1 => ?_)
    · obtain ⟨u, hu⟩ : ∃ u, zs[i]? = some u := ⟨_, List.getElem?_eq_getElem (by omega)⟩
      obtain ⟨w, hw⟩ : ∃ w, zs[i + 1]? = some w := ⟨_, List.getElem?_eq_getElem (by omega)⟩
      have e1 : (zs.map (·.2.2)).getD i 0 = u.2.2 := by rw [List.getD_eq_getElem?_getD, List.getElem?_map, hu]; rfl
      have e2 : (zs.map (·.2.2)).getD (i + 1) 0 = w.2.2 := by rw [List.getD_eq_getElem?_getD, List.getElem?_map, hw]; rfl
      have hR := hR H1 (Same.refl _)
      rw [e1, e2] at hR
      intro X' d'
      dsimp only [L2.wipe, List.map, List.set]
      walk_at "wg"
      refine ⟨rfl, fun X2 d2 => wts_one ?_⟩
      walk_at "wx"
      have q1 := s1.tup hq
      refine rx_tup d2 q1 (show atI (zs.map fun z => V.ref z.1) ((1 : Int) + i) = some (.ref w.1) from by rw [show (1 : Int) + i = ((i + 1 : Nat) : Int) from by omega]; exact atI_nat (by rw [List.getElem?_map, hw]; rfl)) ?_
      walk_at "wx"
      refine rx_tup d2 (s1.tup (hz w (List.mem_of_getElem? hw))) (atI_nat (j := 0) rfl) ?_
      walk_at "wx"
      refine rx_tup d2 q1 (show atI (zs.map fun z => V.ref z.1) ((1 : Int) + i - 1) = some (.ref u.1) from by rw [show (1 : Int) + i - 1 = (i : Int) from by omega]; exact atI_nat (by rw [List.getElem?_map, hu]; rfl)) ?_
      walk_at "wx"
      refine rx_tup d2 (s1.tup (hz u (List.mem_of_getElem? hu))) (atI_nat (j := 0) rfl) ?_
      walk_at "wx"
      by_cases hle : w.2.2 ≤ u.2.2
      · rw [decide_eq_true hle]
        rw [if_pos hle] at hR
        refine ite_t fun X3 d3 => ?_
        walk_at "wn"
        exact hR
      · rw [decide_eq_false hle]
        rw [if_neg hle] at hR
        exact ite_f hR
    · have ef : ∀ l : List Nat, l.filterMap (fun i => if (zs.map (·.2.2)).getD (i + 1) 0 ≤ (zs.map (·.2.2)).getD i 0 then some (V.int ((1 : Int) + i)) else none) = (l.filterMap fun i => if (zs.map (·.2.2)).getD (i + 1) 0 ≤ (zs.map (·.2.2)).getD i 0 then some ((1 : Int) + i) else none).map V.int := by
        intro l
        induction l with
        | nil => rfl
        | cons i l ih =>
          rw [List.filterMap_cons, List.filterMap_cons]
          by_cases h : (zs.map (·.2.2)).getD (i + 1) 0 ≤ (zs.map (·.2.2)).getD i 0
          · rw [if_pos h, if_pos h, ih]
            rfl
          · rw [if_neg h, if_neg h, ih]
      rw [ef] at h1
      walk_at "wx"
      refine ⟨Nat.zero_le _, fun q hq2 => ?_⟩
      refine ro_eqD dd (dp_ints (SqL.of (by rw [upd_ne (ne_of_none h1 hq2)]; exact h1))) (.lst (SqL.of upd_same) .nil) (shaped_ints _) rfl ?_
      rw [eqv_nil]
      have k := k _ (s1.trans (same_new (o := .lst []) hq2))
      rw [rising_none, List.length_map] at k
      exact k
end K02

namespace K02
/-! ### matters without lists and dicts, as data -/
mutual
def plainM : M → Bool
  | .tup ms => plainL ms
  | .lst => false
  | .dic => false
  | .non => true
  | .bl _ => true
  | .int _ => true
  | .str _ => true
def plainL : List M → Bool
  | [] => true
  | m :: ms => plainM m && plainL ms
end
mutual
def dataM : M → PyData
  | .tup ms => .tuple (dataL ms)
  | .lst => .list []
  | .dic => .none
  | .non => .none
  | .bl b => .bool b
  | .int i => .int i
  | .str z => .str z
def dataL : List M → List PyData
  | [] => []
  | m :: ms => dataM m :: dataL ms
end
mutual
theorem at_dp {K : PySem.W.Frag} {H : Hp} : ∀ (m : M) (v : V), At K H v m → plainM m = true → Dp K H v (dataM m)
  | .non, _, h, _ => by cases h; unfold dataM; exact .non
  | .bl b, _, h, _ => by cases h; unfold dataM; exact .bl b
  | .int i, _, h, _ => by cases h; unfold dataM; exact .int i
  | .str z, _, h, _ => by cases h; unfold dataM; exact .str z
  | .lst, _, _, p => by unfold plainM at p; cases p
  | .dic, _, _, p => by unfold plainM at p; cases p
  | .tup ms, _, h, p => by
    cases h with
    | tup h1 hl h2 =>
      unfold dataM
      unfold plainM at p
      exact .tup h1 (at_dpL ms _ h2 p)
theorem at_dpL {K : PySem.W.Frag} {H : Hp} : ∀ (ms : List M) (vs : List V), AtAll K H vs ms → plainL ms = true → DpAll K H vs (dataL ms)
  | [], _, h, _ => by cases h; unfold dataL; exact .nil
  | m :: ms, _, h, p => by
    cases h with
    | cons h1 h2 =>
      unfold plainL at p
      obtain ⟨p1, p2⟩ := Bool.and_eq_true_iff.mp p
      unfold dataL
      exact .cons (at_dp m _ h1 p1) (at_dpL ms _ h2 p2)
end
/-! what is free of places -/
mutual
def freeM : M → Bool
  | .tup ms => (match ms with
    | .str w :: _ => !(decide (w = "place") || decide (w = "at"))
    | _ => true) && freeL ms
  | .lst => true
  | .dic => true
  | .non => true
  | .bl _ => true
  | .int _ => true
  | .str _ => true
def freeL : List M → Bool
  | [] => true
  | m :: ms => freeM m && freeL ms
end
end K02

namespace K02
/-! ### the law's own table, over matters -/
inductive Srt where
  | small | nine | name | E | free | pair | I | C | S | pairs | inps | cells
def fstM : M → Int
  | .tup (.int i :: _) => i
  | _ => 0
def pairG : M → Bool
  | .tup [a, b] => fromM (-999) 999 a && wholeM true b
  | _ => false
def fitM : Srt → M → Bool
  | .small, m => fromM (-999) 999 m
  | .nine, m => fromM 1 9 m
  | .name, m => nameM m
  | .E, m => wholeM true m
  | .free, m => wholeM true m && freeM m
  | .pair, m => pairG m
  | .I, m => inputM m
  | .C, m => cellM m
  | .S, m => sheetM m
  | .pairs, m => someT m && ((listT m).all pairG && risingI ((listT m).map fstM))
  | .inps, m => someT m && (listT m).all inputM
  | .cells, m => someT m && (listT m).all cellM
def allM : List Srt → List M → Bool
  | [], [] => true
  | s :: ss, m :: ms => fitM s m && allM ss ms
  | _, _ => false
def srtC : Srt → Nat
  | .small => 110 | .nine => 107 | .name => 120 | .E => 101 | .free => 101 | .pairs => 112 | _ => 0
def okS (r : Bool) : Srt → Bool
  | .small => true | .nine => true | .name => true | .E => r | .pairs => r | .free => !r | _ => false
def ordM (w : Str) (ms : List M) : Bool := !(decide (w = "input") || decide (w = "settle")) || leM (ms.getD 1 .non) (ms.getD 2 .non)
def twos : List Str := ["plus", "minus", "times", "least", "greatest", "less", "atmost", "same", "and", "or"]
def rowE1 : List (Str × List Srt) := [("number", [.small]), ("name", [.name]), ("item", [.name, .nine]), ("place", []), ("at", [.name, .small, .E]), ("not", [.E])]
def rowE2 : List (Str × List Srt) := twos.map fun w => (w, [.E, .E])
def rowE3 : List (Str × List Srt) := [("sum", [.name]), ("fewest", [.name]), ("most", [.name]), ("choose", [.E, .E, .E]), ("cases", [.E, .pairs, .E])]
def rowE : List (Str × List Srt) := rowE1 ++ (rowE2 ++ rowE3)
def rowI : List (Str × List Srt) := [("input", [.name, .small, .small])]
def rowC : List (Str × List Srt) := [("cell", [.name, .free]), ("row", [.name, .nine, .E]), ("settle", [.name, .small, .small, .free, .free])]
def rowS2 : List (Str × List Srt) := [("sheet", [.inps, .cells])]
def byRow (row : List (Str × List Srt)) (w : Str) (ms : List M) : Bool := match row.lookup w with
  | some ss => allM ss ms && ordM w ms
  | none => false
theorem pairM_some {q : M} {i : Int} (h : pairM q = some i) : ∃ y, q = .tup [.int i, y] ∧ -999 ≤ i ∧ i ≤ 999 := by
  unfold pairM at h
  split at h
  · rename_i j y
    by_cases c : -999 ≤ j ∧ j ≤ 999
    · rw [if_pos c] at h
      cases h
      exact ⟨y, rfl, c⟩
    · rw [if_neg c] at h
      cases h
  · cases h
theorem pairM_of {i : Int} {y : M} : (pairM (.tup [.int i, y])).isSome = fromM (-999) 999 (.int i) := by
  show (if -999 ≤ i ∧ i ≤ 999 then some i else none).isSome = (decide (-999 ≤ i) && decide (i ≤ 999))
  by_cases c : -999 ≤ i ∧ i ≤ 999
  · rw [if_pos c, decide_eq_true c.1, decide_eq_true c.2]
    rfl
  · rw [if_neg c]
    by_cases c1 : -999 ≤ i
    · rw [decide_eq_false (fun h => c ⟨c1, h⟩), Bool.and_false]
      rfl
    · rw [decide_eq_false c1]
      rfl
theorem pairG_eq (q : M) : pairG q = ((pairM q).isSome && wholeM true (sndM q)) := by
  cases hq : pairM q with
  | some i =>
    obtain ⟨y, rfl, h1, h2⟩ := pairM_some hq
    show ((decide (-999 ≤ i) && decide (i ≤ 999)) && wholeM true y) = (true && wholeM true y)
    rw [decide_eq_true h1, decide_eq_true h2]
    rfl
  | none =>
    show pairG q = false
    unfold pairG
    split
    · rename_i a b
      have key : fromM (-999) 999 a = false := by
        cases a with
        | int i =>
          rw [← pairM_of (y := b), hq]
          rfl
        | _ => rfl
      rw [key]
      rfl
    · rfl
theorem firsts : ∀ {l : List M}, (l.all fun q => (pairM q).isSome) = true → l.filterMap pairM = l.map fstM
  | [], _ => rfl
  | q :: l, h => by
    rw [List.all_cons, Bool.and_eq_true] at h
    obtain ⟨i, hi⟩ := Option.isSome_iff_exists.mp h.1
    rw [List.filterMap_cons, hi, List.map_cons, firsts h.2]
    obtain ⟨y, rfl, _⟩ := pairM_some hi
    rfl
theorem all_and {α : Type} (f g : α → Bool) : ∀ l : List α, (l.all fun x => f x && g x) = (l.all f && l.all g)
  | [] => rfl
  | x :: l => by
    rw [List.all_cons, List.all_cons, List.all_cons, all_and f g l]
    cases f x <;> cases g x <;> cases l.all f <;> cases l.all g <;> rfl
theorem all_map' {α β : Type} (f : α → β) (g : β → Bool) (l : List α) : (l.map f).all g = l.all fun x => g (f x) := by rw [List.all_map]; rfl
theorem pairs_eq (m : M) : (pairsM m && (partS 112 m).all (wholeM true)) = fitM .pairs m := by
  have no : ∀ m, someT m = false → pairsM m = false := by
    intro m h
    cases m with
    | tup ms =>
      cases ms with
      | nil => rfl
      | cons p ps => cases h
    | _ => rfl
  cases hm : someT m with
  | false =>
    rw [no m hm]
    show false = (someT m && _)
    rw [hm]
    rfl
  | true =>
    show _ = (someT m && ((listT m).all pairG && risingI ((listT m).map fstM)))
    rw [hm, Bool.true_and]
    cases m with
    | tup ms =>
      cases ms with
      | nil => cases hm
      | cons p ps =>
        generalize e : p :: ps = l
        have e1 : pairsM (.tup l) = ((l.all fun q => (pairM q).isSome) && risingI (l.filterMap pairM)) := by rw [← e]; rfl
        have e2 : partS 112 (.tup l) = l.map sndM := rfl
        rw [e1, e2, all_map']
        show _ = (l.all pairG && risingI (l.map fstM))
        rw [show l.all pairG = l.all fun q => ((pairM q).isSome && wholeM true (sndM q)) from by congr 1; funext q; exact pairG_eq q, all_and]
        cases ha : l.all fun q => (pairM q).isSome with
        | false => rfl
        | true =>
          rw [firsts ha, Bool.true_and, Bool.true_and, Bool.and_comm]
    | _ => cases hm
theorem free_pair {i : Int} {y : M} : freeM (.tup [.int i, y]) = freeM y := by
  conv => lhs; unfold freeM
  show (true && freeL [.int i, y]) = freeM y
  rw [freeL, freeL, freeL, freeM, Bool.and_true, Bool.true_and, Bool.true_and]
theorem free_tt {x : List M} {ps : List M} : freeM (.tup (.tup x :: ps)) = freeL (.tup x :: ps) := by
  unfold freeM
  show (true && freeL (.tup x :: ps)) = freeL (.tup x :: ps)
  rw [Bool.true_and]
theorem free_pairs : ∀ {l : List M}, (l.all fun q => (pairM q).isSome) = true → freeL l = (l.map sndM).all freeM
  | [], _ => by unfold freeL; rfl
  | q :: l, h => by
    rw [List.all_cons, Bool.and_eq_true] at h
    obtain ⟨i, hi⟩ := Option.isSome_iff_exists.mp h.1
    obtain ⟨y, rfl, _⟩ := pairM_some hi
    rw [freeL, free_pairs h.2]
    show (freeM (.tup [.int i, y]) && _) = (freeM y && (l.map sndM).all freeM)
    rw [free_pair]
abbrev codes : List Nat := [120, 110, 107, 101, 112]
theorem free_slot {c : Nat} {m : M} (hc : c ∈ codes) (h : slotM c m = true) : freeM m = (partS c m).all freeM := by
  unfold slotM at h
  unfold partS
  by_cases h1 : c = 120
  · rw [if_pos h1] at h
    rw [if_neg (by omega), if_neg (by omega)]
    cases m with
    | str z => unfold freeM; rfl
    | _ => cases h
  · rw [if_neg h1] at h
    by_cases h2 : c = 110
    · rw [if_pos h2] at h
      rw [if_neg (by omega), if_neg (by omega)]
      cases m with
      | int z => unfold freeM; rfl
      | _ => cases h
    · rw [if_neg h2] at h
      by_cases h3 : c = 107
      · rw [if_pos h3] at h
        rw [if_neg (by omega), if_neg (by omega)]
        cases m with
        | int z => unfold freeM; rfl
        | _ => cases h
      · rw [if_neg h3] at h
        by_cases h4 : c = 101
        · rw [if_pos h4]
          show freeM m = (freeM m && true)
          rw [Bool.and_true]
        · rw [if_neg h4] at h
          rw [if_neg h4]
          cases m with
          | tup ms =>
            cases ms with
            | nil => cases h
            | cons p ps =>
              have h' : (((p :: ps).all fun q => (pairM q).isSome) && risingI ((p :: ps).filterMap pairM)) = true := h
              rw [Bool.and_eq_true] at h'
              have hp := h'.1
              rw [List.all_cons, Bool.and_eq_true] at hp
              obtain ⟨i, hi⟩ := Option.isSome_iff_exists.mp hp.1
              obtain ⟨y, rfl, _⟩ := pairM_some hi
              have e5 : c = 112 := by
                simp only [List.mem_cons, List.not_mem_nil, or_false] at hc
                omega
              rw [free_tt, if_pos e5]
              exact free_pairs h'.1
          | _ => cases h
theorem free_slots : ∀ {cs : List Nat} {ms : List M}, (∀ c ∈ cs, c ∈ codes) → slotsM cs ms = true → freeL ms = (partsL cs ms).all freeM
  | [], [], _, _ => by unfold freeL; rfl
  | [], _ :: _, _, h => by cases h
  | _ :: _, [], _, h => by cases h
  | c :: cs, m :: ms, hc, h => by
    have h' : (slotM c m && slotsM cs ms) = true := h
    rw [Bool.and_eq_true] at h'
    show freeL (m :: ms) = ((partS c m ++ partsL cs ms).all freeM)
    rw [freeL, List.all_append, free_slot (hc c List.mem_cons_self) h'.1, free_slots (fun c hm => hc c (List.mem_cons_of_mem _ hm)) h'.2]
theorem lookup_mem {α : Type} : ∀ {l : List (Str × α)} {w : Str} {x : α}, l.lookup w = some x → (w, x) ∈ l
  | [], _, _, h => by cases h
  | (a, b) :: l, w, x, h => by
    rw [List.lookup_cons] at h
    cases e : w == a with
    | true =>
      rw [e] at h
      cases h
      rw [eq_of_beq e]
      exact List.mem_cons_self
    | false =>
      rw [e] at h
      exact List.mem_cons_of_mem _ (lookup_mem h)
theorem lookup_none {α : Type} : ∀ {l : List (Str × α)} {w : Str}, (∀ p ∈ l, p.1 ≠ w) → l.lookup w = none
  | [], _, _ => rfl
  | (a, b) :: l, w, h => by
    rw [List.lookup_cons]
    have : (w == a) = false := by
      cases e : w == a with
      | true => exact absurd (eq_of_beq e).symm (h (a, b) List.mem_cons_self)
      | false => rfl
    rw [this]
    exact lookup_none fun p hp => h p (List.mem_cons_of_mem _ hp)
theorem forms_codes : ∀ p ∈ forms, ∀ c ∈ p.2.cps.toList, c ∈ codes := by decide +kernel
theorem shaped_head {m : M} (h : shapedM m = true) : ∃ w ms f, m = .tup (.str w :: ms) ∧ forms.lookup w = some f ∧ slotsM f.cps.toList ms = true ∧ ordM w ms = true := by
  unfold shapedM at h
  split at h
  · rename_i w ms
    split at h
    · rename_i f hf
      rw [Bool.and_eq_true] at h
      exact ⟨w, ms, f, rfl, hf, h.1, h.2⟩
    · cases h
  · cases h
theorem shaped_of {w : Str} {ms : List M} {f : Str} (hf : forms.lookup w = some f) : shapedM (.tup (.str w :: ms)) = (slotsM f.cps.toList ms && ordM w ms) := by
  show (match forms.lookup w with
    | some f => slotsM f.cps.toList ms && ordM w ms
    | none => false) = _
  rw [hf]
theorem shaped_no {w : Str} {ms : List M} (hf : forms.lookup w = none) : shapedM (.tup (.str w :: ms)) = false := by
  show (match forms.lookup w with
    | some f => slotsM f.cps.toList ms && ordM w ms
    | none => false) = _
  rw [hf]
theorem parts_of' {w : Str} {ms : List M} {f : Str} (hf : forms.lookup w = some f) : partsM (.tup (.str w :: ms)) = partsL f.cps.toList ms := by
  show (match forms.lookup w with
    | some f => partsL f.cps.toList ms
    | none => []) = _
  rw [hf]
theorem free_shaped {m : M} (h : shapedM m = true) : freeM m = (!decide (wordM m ∈ rowS) && (partsM m).all freeM) := by
  obtain ⟨w, ms, f, rfl, hf, hs, _⟩ := shaped_head h
  rw [parts_of' hf, ← free_slots (forms_codes _ (lookup_mem hf)) hs]
  have e1 : freeM (.tup (.str w :: ms)) = (!(decide (w = "place") || decide (w = "at")) && (freeM (.str w) && freeL ms)) := by
    conv => lhs; unfold freeM
    show (_ && freeL (.str w :: ms)) = _
    rw [freeL]
  have e2 : freeM (.str w) = true := by unfold freeM; rfl
  rw [e1, e2, Bool.true_and]
  show _ = (!decide (w ∈ rowS) && _)
  congr 2
  rw [Bool.eq_iff_iff]
  simp [rowS]
theorem free_eq (m : M) : wholeM false m = (wholeM true m && freeM m) := by
  have key : ∀ n m, sizeM m < n → wholeM false m = (wholeM true m && freeM m) := by
    intro n
    induction n with
    | zero => intro m h; omega
    | succ n ih =>
      intro m hm
      rw [whole_eq false m, whole_eq true m]
      have e : (partsM m).all (wholeM false) = ((partsM m).all (wholeM true) && (partsM m).all freeM) := by
        rw [← all_and, Bool.eq_iff_iff, List.all_eq_true, List.all_eq_true]
        have hp : ∀ p ∈ partsM m, wholeM false p = (wholeM true p && freeM p) := fun p hp => ih p (by
          have := size_mem hp
          have := size_parts m
          omega)
        exact ⟨fun h p hq => by rw [← hp p hq]; exact h p hq, fun h p hq => by rw [hp p hq]; exact h p hq⟩
      rw [e]
      unfold nodeM
      cases hs : shapedM m with
      | false => rfl
      | true =>
        rw [free_shaped hs]
        cases decide (wordM m ∈ cellS) <;> cases decide (wordM m = "input") <;> cases decide (wordM m ∈ rowS) <;> cases (partsM m).all (wholeM true) <;> cases (partsM m).all freeM <;> rfl
  exact key _ m (Nat.lt_succ_self _)
theorem slot_fit {r : Bool} {s : Srt} (m : M) (h : okS r s = true) : (slotM (srtC s) m && (partS (srtC s) m).all (wholeM r)) = fitM s m := by
  cases s with
  | small => exact Bool.and_true _
  | nine => exact Bool.and_true _
  | name => exact Bool.and_true _
  | E =>
    cases r with
    | true => exact (Bool.true_and _).trans (Bool.and_true _)
    | false => cases h
  | free =>
    cases r with
    | true => cases h
    | false => exact ((Bool.true_and _).trans (Bool.and_true _)).trans (free_eq m)
  | pairs =>
    cases r with
    | true => exact pairs_eq m
    | false => cases h
  | _ => cases h
theorem slots_fit {r : Bool} : ∀ {ss : List Srt} {ms : List M}, ss.all (okS r) = true → (slotsM (ss.map srtC) ms && (partsL (ss.map srtC) ms).all (wholeM r)) = allM ss ms
  | [], [], _ => rfl
  | [], _ :: _, _ => rfl
  | _ :: _, [], _ => rfl
  | s :: ss, m :: ms, h => by
    rw [List.all_cons, Bool.and_eq_true] at h
    have e1 := slot_fit m h.1
    have e2 := slots_fit (ms := ms) h.2
    show ((slotM (srtC s) m && slotsM (ss.map srtC) ms) && (partS (srtC s) m ++ partsL (ss.map srtC) ms).all (wholeM r)) = (fitM s m && allM ss ms)
    rw [← e1, ← e2, List.all_append]
    cases slotM (srtC s) m <;> cases slotsM (ss.map srtC) ms <;> cases (partS (srtC s) m).all (wholeM r) <;> cases (partsL (ss.map srtC) ms).all (wholeM r) <;> rfl
theorem all_word {r : Bool} {w : Str} {ms : List M} {f : Str} {ss : List Srt} (hf : forms.lookup w = some f) (hs : ss.map srtC = f.cps.toList) (ho : ss.all (okS r) = true) :
    (shapedM (.tup (.str w :: ms)) && (partsM (.tup (.str w :: ms))).all (wholeM r)) = (allM ss ms && ordM w ms) := by
  rw [shaped_of hf, parts_of' hf, ← hs, ← slots_fit ho]
  cases slotsM (ss.map srtC) ms <;> cases ordM w ms <;> cases (partsL (ss.map srtC) ms).all (wholeM r) <;> rfl
/-- what the table says of a word, beside the program's forms -/
def goodRow (r : Bool) (row : List (Str × List Srt)) (p : Str × Str) : Bool := match row.lookup p.1 with
  | some ss => decide (ss.map srtC = p.2.cps.toList) && ss.all (okS r)
  | none => true
theorem tableE : ∀ p ∈ forms, goodRow true rowE p = true ∧ ((rowE.lookup p.1).isNone = (decide (p.1 ∈ cellS) || decide (p.1 = "input"))) := by decide +kernel
theorem keysE : ∀ p ∈ rowE, (forms.lookup p.1).isSome = true := by decide +kernel
theorem E_eq (w : Str) (ms : List M) : wholeM true (.tup (.str w :: ms)) = byRow rowE w ms := by
  rw [whole_eq]
  unfold nodeM byRow
  cases hf : forms.lookup w with
  | none =>
    rw [shaped_no hf]
    cases hr : rowE.lookup w with
    | none => rfl
    | some ss =>
      have := keysE _ (lookup_mem hr)
      rw [show (w, ss).1 = w from rfl, hf] at this
      cases this
  | some f =>
    have hw : wordM (.tup (.str w :: ms)) = w := rfl
    obtain ⟨t1, t2⟩ := tableE _ (lookup_mem hf)
    rw [hw]
    cases hr : rowE.lookup w with
    | none =>
      have t2 : (rowE.lookup w).isNone = (decide (w ∈ cellS) || decide (w = "input")) := t2
      rw [hr] at t2
      rw [← t2]
      show (_ && false && _ && _) = false
      simp
    | some ss =>
      have t2 : (rowE.lookup w).isNone = (decide (w ∈ cellS) || decide (w = "input")) := t2
      rw [hr] at t2
      rw [← t2]
      unfold goodRow at t1
      rw [show (w, f).1 = w from rfl, hr] at t1
      have t1 : (decide (ss.map srtC = f.cps.toList) && ss.all (okS true)) = true := t1
      rw [Bool.and_eq_true, decide_eq_true_eq] at t1
      show (shapedM _ && true && (!decide (w ∈ rowS) || true) && _) = (allM ss ms && ordM w ms)
      rw [← all_word hf t1.1 t1.2, Bool.and_true, Bool.or_true, Bool.and_true]
theorem C_eq (w : Str) (ms : List M) : cellM (.tup (.str w :: ms)) = byRow rowC w ms := by
  unfold cellM byRow
  have hw : wordM (.tup (.str w :: ms)) = w := rfl
  rw [hw]
  by_cases h1 : w = "cell"
  · subst h1
    rw [show rowC.lookup ("cell" : Str) = some [.name, .free] from by rfl]
    have := all_word (r := false) (w := "cell") (ms := ms) (f := "xe") (ss := [.name, .free]) (by rfl) (by rfl) (by rfl)
    show _ = (allM [.name, .free] ms && ordM "cell" ms)
    rw [← this, show decide (("cell" : Str) ∈ cellS) = true from by decide +kernel, show decide (("cell" : Str) = "row") = false from by decide +kernel, Bool.true_and]
  · by_cases h2 : w = "row"
    · subst h2
      have := all_word (r := true) (w := "row") (ms := ms) (f := "xke") (ss := [.name, .nine, .E]) (by rfl) (by rfl) (by rfl)
      rw [show rowC.lookup ("row" : Str) = some [.name, .nine, .E] from by rfl]
      show _ = (allM [.name, .nine, .E] ms && ordM "row" ms)
      rw [← this, show decide (("row" : Str) ∈ cellS) = true from by decide +kernel, show decide (("row" : Str) = "row") = true from by decide +kernel, Bool.true_and]
    · by_cases h3 : w = "settle"
      · subst h3
        have := all_word (r := false) (w := "settle") (ms := ms) (f := "xnnee") (ss := [.name, .small, .small, .free, .free]) (by rfl) (by rfl) (by rfl)
        rw [show rowC.lookup ("settle" : Str) = some [.name, .small, .small, .free, .free] from by rfl]
        show _ = (allM [.name, .small, .small, .free, .free] ms && ordM "settle" ms)
        rw [← this, show decide (("settle" : Str) ∈ cellS) = true from by decide +kernel, show decide (("settle" : Str) = "row") = false from by decide +kernel, Bool.true_and]
      · have e1 : decide (w ∈ cellS) = false := decide_eq_false (by simp [cellS, h1, h2, h3])
        have e2 : rowC.lookup w = none := lookup_none (by
          intro p hp e
          simp only [rowC, List.mem_cons, List.not_mem_nil, or_false] at hp
          rcases hp with rfl | rfl | rfl
          · exact h1 e.symm
          · exact h2 e.symm
          · exact h3 e.symm)
        rw [e1, e2, Bool.false_and, Bool.and_false]
theorem I_eq (w : Str) (ms : List M) : inputM (.tup (.str w :: ms)) = byRow rowI w ms := by
  unfold inputM byRow
  have hw : wordM (.tup (.str w :: ms)) = w := rfl
  rw [hw]
  by_cases h1 : w = "input"
  · subst h1
    rw [show rowI.lookup ("input" : Str) = some [.name, .small, .small] from by rfl]
    have := all_word (r := true) (w := "input") (ms := ms) (f := "xnn") (ss := [.name, .small, .small]) (by rfl) (by rfl) (by rfl)
    show _ = (allM [.name, .small, .small] ms && ordM "input" ms)
    rw [← this, decide_eq_true rfl, parts_of' (show forms.lookup ("input" : Str) = some "xnn" from by rfl)]
    congr 1
    match ms with
    | [] => rfl
    | [_] => rfl
    | [_, _] => rfl
    | _ :: _ :: _ :: _ => rfl
  · have e2 : rowI.lookup w = none := lookup_none (by
      intro p hp e
      simp only [rowI, List.mem_cons, List.not_mem_nil, or_false] at hp
      subst hp
      exact h1 e.symm)
    rw [decide_eq_false h1, e2, Bool.and_false]
theorem S_eq (w : Str) (ms : List M) : sheetM (.tup (.str w :: ms)) = byRow rowS2 w ms := by
  unfold byRow
  by_cases h1 : w = "sheet"
  · subst h1
    rw [show rowS2.lookup ("sheet" : Str) = some [.inps, .cells] from by rfl]
    show _ = (allM [.inps, .cells] ms && ordM "sheet" ms)
    have eo : ordM "sheet" ms = true := by
      show (!(decide (("sheet" : Str) = "input") || decide (("sheet" : Str) = "settle")) || _) = true
      rw [show decide (("sheet" : Str) = "input") = false from by decide +kernel, show decide (("sheet" : Str) = "settle") = false from by decide +kernel]
      rfl
    rw [eo, Bool.and_true]
    match ms with
    | [] => rfl
    | [_] => exact (Bool.and_false _).symm
    | [x, y] =>
      show (decide (("sheet" : Str) = "sheet") && (someT x && (someT y && ((listT x).all inputM && (listT y).all cellM)))) = ((someT x && (listT x).all inputM) && ((someT y && (listT y).all cellM) && true))
      rw [decide_eq_true rfl]
      cases someT x <;> cases someT y <;> cases (listT x).all inputM <;> cases (listT y).all cellM <;> rfl
    | x :: y :: z :: r =>
      show false = (_ && (_ && false))
      rw [Bool.and_false, Bool.and_false]
  · have e2 : rowS2.lookup w = none := lookup_none (by
      intro p hp e
      simp only [rowS2, List.mem_cons, List.not_mem_nil, or_false] at hp
      subst hp
      exact h1 e.symm)
    rw [e2]
    match ms with
    | [] => rfl
    | [_] => rfl
    | [x, y] =>
      show (decide (w = "sheet") && _) = false
      rw [decide_eq_false h1]
      rfl
    | x :: y :: z :: r => rfl
/-- no text at its head: not one of the four -/
theorem no_head {m : M} (h : ∀ w ms, m ≠ .tup (.str w :: ms)) : wholeM true m = false ∧ cellM m = false ∧ inputM m = false ∧ sheetM m = false := by
  have hs : shapedM m = false := by
    cases e : shapedM m with
    | false => rfl
    | true =>
      obtain ⟨w, ms, _, e, _⟩ := shaped_head e
      exact absurd e (h w ms)
  refine ⟨by rw [whole_eq]; unfold nodeM; rw [hs]; rfl, by unfold cellM; rw [hs]; rfl, by unfold inputM; rw [hs]; rfl, ?_⟩
  unfold sheetM
  split
  · rename_i w x y
    exact absurd rfl (h w [x, y])
  · rfl
end K02

namespace K02
variable {G : Gb}
/-! ### what fits is plain -/
theorem plain_snds {l : List M} (h : (l.all fun q => (pairM q).isSome) = true) (hp : (l.map sndM).all plainM = true) : plainL l = true := by
  induction l with
  | nil => unfold plainL; rfl
  | cons q l ih =>
    rw [List.all_cons, Bool.and_eq_true] at h
    rw [List.map_cons, List.all_cons, Bool.and_eq_true] at hp
    obtain ⟨i, hi⟩ := Option.isSome_iff_exists.mp h.1
    obtain ⟨y, rfl, _⟩ := pairM_some hi
    rw [plainL, ih h.2 hp.2, Bool.and_true]
    have hy : plainM y = true := hp.1
    rw [plainM, plainL, plainL, plainL, hy, plainM]
    rfl
theorem plain_slot {c : Nat} {m : M} (hc : c ∈ codes) (h : slotM c m = true) (hp : (partS c m).all plainM = true) : plainM m = true := by
  unfold slotM at h
  unfold partS at hp
  by_cases h1 : c = 120
  · rw [if_pos h1] at h
    cases m with
    | str z => unfold plainM; rfl
    | _ => cases h
  · rw [if_neg h1] at h
    by_cases h2 : c = 110
    · rw [if_pos h2] at h
      cases m with
      | int z => unfold plainM; rfl
      | _ => cases h
    · rw [if_neg h2] at h
      by_cases h3 : c = 107
      · rw [if_pos h3] at h
        cases m with
        | int z => unfold plainM; rfl
        | _ => cases h
      · rw [if_neg h3] at h
        by_cases h4 : c = 101
        · rw [if_pos h4, List.all_cons, Bool.and_eq_true] at hp
          exact hp.1
        · rw [if_neg h4] at h
          rw [if_neg h4] at hp
          cases m with
          | tup ms =>
            cases ms with
            | nil => cases h
            | cons p ps =>
              have h' : (((p :: ps).all fun q => (pairM q).isSome) && risingI ((p :: ps).filterMap pairM)) = true := h
              rw [Bool.and_eq_true] at h'
              have e5 : c = 112 := by
                simp only [List.mem_cons, List.not_mem_nil, or_false] at hc
                omega
              rw [if_pos e5] at hp
              unfold plainM
              exact plain_snds h'.1 hp
          | _ => cases h
theorem plain_slots : ∀ {cs : List Nat} {ms : List M}, (∀ c ∈ cs, c ∈ codes) → slotsM cs ms = true → (partsL cs ms).all plainM = true → plainL ms = true
  | [], [], _, _, _ => by unfold plainL; rfl
  | [], _ :: _, _, h, _ => by cases h
  | _ :: _, [], _, h, _ => by cases h
  | c :: cs, m :: ms, hc, h, hp => by
    have h' : (slotM c m && slotsM cs ms) = true := h
    have hp' : (partS c m ++ partsL cs ms).all plainM = true := hp
    rw [Bool.and_eq_true] at h'
    rw [List.all_append, Bool.and_eq_true] at hp'
    rw [plainL, plain_slot (hc c List.mem_cons_self) h'.1 hp'.1, plain_slots (fun c hm => hc c (List.mem_cons_of_mem _ hm)) h'.2 hp'.2]
    rfl
theorem plain_whole (m : M) : wholeM true m = true → plainM m = true := by
  have key : ∀ n m, sizeM m < n → wholeM true m = true → plainM m = true := by
    intro n
    induction n with
    | zero => intro m h; omega
    | succ n ih =>
      intro m hm hw
      rw [whole_eq, Bool.and_eq_true] at hw
      obtain ⟨hn, hp⟩ := hw
      unfold nodeM at hn
      rw [Bool.and_eq_true, Bool.and_eq_true] at hn
      obtain ⟨w, ms, f, rfl, hf, hs, _⟩ := shaped_head hn.1.1
      have hpa : (partsM (.tup (.str w :: ms))).all plainM = true := List.all_eq_true.mpr fun p hq => ih p (by
        have := size_mem hq
        have := size_parts (.tup (.str w :: ms))
        omega) (List.all_eq_true.mp hp p hq)
      rw [parts_of' hf] at hpa
      unfold plainM
      rw [plainL, plain_slots (forms_codes _ (lookup_mem hf)) hs hpa]
      unfold plainM
      rfl
  exact key _ m (Nat.lt_succ_self _)
/-! ### plain matters, laid out -/
mutual
theorem lay_at {K : PySem.W.Frag} {H : Hp} : ∀ (m : M) (v : V), At K H v m → plainM m = true → (dataM m).canLay0 = true ∧ (dataM m).depth ≤ depthM m
  | .non, _, h, _ => by unfold dataM; exact ⟨rfl, Nat.zero_le _⟩
  | .bl b, _, h, _ => by unfold dataM; exact ⟨rfl, Nat.zero_le _⟩
  | .int i, _, h, _ => by unfold dataM; exact ⟨rfl, Nat.zero_le _⟩
  | .lst, _, h, p => by unfold plainM at p; cases p
  | .dic, _, h, p => by unfold plainM at p; cases p
  | .str z, _, h, _ => by
    cases h with
    | str _ h1 =>
      unfold dataM
      refine ⟨?_, Nat.zero_le _⟩
      have := strOk_tx (l := z.cps.toList) h1.2
      rw [tx_of] at this
      exact this
  | .tup ms, _, h, p => by
    cases h with
    | tup h1 hl h2 =>
      unfold plainM at p
      obtain ⟨g1, g2⟩ := lay_atL ms _ h2 p
      unfold dataM
      refine ⟨g1, ?_⟩
      rw [depthM]
      show (PyData.tuple (dataL ms)).depth ≤ _
      rw [PyData.depth]
      omega
theorem lay_atL {K : PySem.W.Frag} {H : Hp} : ∀ (ms : List M) (vs : List V), AtAll K H vs ms → plainL ms = true → PyData.canLayAll0 (dataL ms) = true ∧ PyData.depthAll (dataL ms) ≤ depthL ms
  | [], _, h, _ => by unfold dataL; exact ⟨rfl, Nat.zero_le _⟩
  | m :: ms, _, h, p => by
    cases h with
    | cons h1 h2 =>
      unfold plainL at p
      obtain ⟨p1, p2⟩ := Bool.and_eq_true_iff.mp p
      obtain ⟨a1, a2⟩ := lay_at m _ h1 p1
      obtain ⟨b1, b2⟩ := lay_atL ms _ h2 p2
      rw [dataL]
      refine ⟨?_, ?_⟩
      · rw [PyData.canLayAll0, a1, b1]
        rfl
      · rw [PyData.depthAll, depthL]
        omega
end
theorem depth_mem : ∀ {ms : List M} {m : M}, m ∈ ms → depthM m ≤ depthL ms
  | x :: ms, m, h => by
    rw [depthL]
    rcases List.mem_cons.mp h with rfl | h
    · omega
    · have := depth_mem h
      omega
theorem plain_mem : ∀ {ms : List M} {m : M}, plainL ms = true → m ∈ ms → plainM m = true
  | x :: ms, m, p, h => by
    unfold plainL at p
    obtain ⟨p1, p2⟩ := Bool.and_eq_true_iff.mp p
    rcases List.mem_cons.mp h with rfl | h
    · exact p1
    · exact plain_mem p2 h
def isTupM : M → Bool
  | .tup _ => true
  | _ => false
theorem kit_tup (m : M) : kitB (tyM m) "tuple" = some (isTupM m) := by
  have key : kitB "NoneType" "tuple" = some false ∧ kitB "bool" "tuple" = some false ∧ kitB "int" "tuple" = some false ∧ kitB "str" "tuple" = some false ∧ kitB "list" "tuple" = some false ∧ kitB "dict" "tuple" = some false ∧ kitB "tuple" "tuple" = some true := by decide +kernel
  obtain ⟨h1, h2, h3, h4, h5, h6, h7⟩ := key
  cases m
  · exact h1
  · exact h2
  · exact h3
  · exact h4
  · exact h5
  · exact h6
  · exact h7
def isStrM : M → Bool
  | .str _ => true
  | _ => false
theorem kit_str (m : M) : kitB (tyM m) "str" = some (isStrM m) := by
  have key : kitB "NoneType" "str" = some false ∧ kitB "bool" "str" = some false ∧ kitB "int" "str" = some false ∧ kitB "str" "str" = some true ∧ kitB "list" "str" = some false ∧ kitB "dict" "str" = some false ∧ kitB "tuple" "str" = some false := by decide +kernel
  obtain ⟨h1, h2, h3, h4, h5, h6, h7⟩ := key
  cases m
  · exact h1
  · exact h2
  · exact h3
  · exact h4
  · exact h5
  · exact h6
  · exact h7
theorem at_zip {K : PySem.W.Frag} {H : Hp} : ∀ {xs : List V} {ms : List M}, AtAll K H xs ms → ∃ us : List (V × M), xs = us.map (·.1) ∧ ms = us.map (·.2) ∧ ∀ u ∈ us, At K H u.1 u.2
  | [], _, h => by
    cases h
    exact ⟨[], rfl, rfl, (fun _ h => nomatch h)⟩
  | x :: xs, _, h => by
    cases h with
    | @cons _ _ m _ g gs =>
      obtain ⟨us, u1, u2, u3⟩ := at_zip gs
      refine ⟨(x, m) :: us, by rw [u1]; rfl, by rw [u2]; rfl, fun u hu => ?_⟩
      rcases List.mem_cons.mp hu with rfl | hu
      · exact g
      · exact u3 u hu
/-! ### _law_is_free -/
theorem free_head {m : M} {ms : List M} (p : plainM m = true) : freeM (.tup (m :: ms)) = ((!(([.tuple [.str "place"], .tuple [.str "at"]] : List PyData).any fun z => PyData.eqv z (.tuple [dataM m]))) && freeL (m :: ms)) := by
  conv => lhs; unfold freeM
  congr 1
  cases m with
  | str w =>
    show (!(decide (w = "place") || decide (w = "at"))) = !(((("place" : Str) == w) && true) || (((("at" : Str) == w) && true) || false))
    rw [Bool.and_true, Bool.and_true, Bool.or_false]
    congr 2
    · rw [Bool.eq_iff_iff, decide_eq_true_eq, beq_iff_eq]
      exact ⟨fun h => h.symm, fun h => h.symm⟩
    · rw [Bool.eq_iff_iff, decide_eq_true_eq, beq_iff_eq]
      exact ⟨fun h => h.symm, fun h => h.symm⟩
  | lst => unfold plainM at p; cases p
  | dic => unfold plainM at p; cases p
  | tup ms => unfold dataM; rfl
  | _ => rfl
theorem free_none {us : List (V × M)} : (us.filterMap fun u => if freeM u.2 = true then none else some u.1).isEmpty = freeL (us.map (·.2)) := by
  induction us with
  | nil => unfold freeL; rfl
  | cons u us ih =>
    rw [List.filterMap_cons, List.map_cons, freeL, ← ih]
    cases freeM u.2 with
    | true => rw [if_pos rfl, Bool.true_and]
    | false => rw [if_neg (by decide)]; rfl
abbrev placeD : List PyData := [.tuple [.str "place"], .tuple [.str "at"]]
theorem free_us {us : List (V × M)} (p : plainL (us.map (·.2)) = true) : freeM (.tup (us.map (·.2))) = ((!(placeD.any fun z => PyData.eqv z (.tuple ((us.take 1).map fun u => dataM u.2)))) && freeL (us.map (·.2))) := by
  cases us with
  | nil => unfold freeM; rfl
  | cons u us => exact free_head (plain_mem p List.mem_cons_self)
theorem free_shape {K : PySem.W.Frag} {H : Hp} {us : List (V × M)} (hu : ∀ u ∈ us, At K H u.1 u.2) (p : plainL (us.map (·.2)) = true) (h60 : depthM (.tup (us.map (·.2))) ≤ 60) : SeqAt.shaped (.tuple ((us.take 1).map fun u => dataM u.2)) = true := by
  cases us with
  | nil => rfl
  | cons u us =>
    obtain ⟨c1, c2⟩ := lay_at _ _ (hu u List.mem_cons_self) (plain_mem p List.mem_cons_self)
    have c3 : depthM u.2 ≤ depthL ((u :: us).map (·.2)) := depth_mem List.mem_cons_self
    rw [depthM] at h60
    show (PyData.canLayAll0 [dataM u.2] && decide ((PyData.tuple [dataM u.2]).depth ≤ 64)) = true
    rw [PyData.canLayAll0, c1, PyData.canLayAll0, PyData.depth, PyData.depthAll, PyData.depthAll, decide_eq_true (by omega)]
    rfl
def spFree (n : Nat) (K : PySem.W.Frag) : Sp := fun vs H Q _ => ∃ (v : V) (m : M), vs = [v] ∧ At K H v m ∧ plainM m = true ∧ depthM m < n ∧ depthM m ≤ 60 ∧ ∀ H', Same H H' → Q (.bl (freeM m)) H'
theorem fn_free (b : Bi G.mg) (T : Top G "_law_is_free" (top 42) ["_law_tree"]) : ∀ n, Fn G "_law_is_free" 1 (n + 1) (spFree n G.K)
  | 0 => by
    refine T.fn (N := ["_law_tree", "_law_part"]) ⟨rfl, rfl, rfl, by decide +kernel, rfl, by decide +kernel, by decide +kernel⟩ (fun vs H Q E h => ?_) (fun X vs H Q E d h => ?_)
    · obtain ⟨_, _, rfl, _⟩ := h
      rfl
    · obtain ⟨_, _, _, _, _, h, _⟩ := h
      omega
  | n + 1 => by
    have ih := fn_free b T n
    refine T.fn (N := ["_law_tree", "_law_part"]) ⟨rfl, rfl, rfl, by decide +kernel, rfl, by decide +kernel, by decide +kernel⟩ (fun vs H Q E h => ?_) (fun X vs H Q E d h => ?_)
    · obtain ⟨_, _, rfl, _⟩ := h
      rfl
    · have dd := d.toDef
      obtain ⟨v, m, rfl, hv, hp, hd, h60, k⟩ := h
      show WB X _ _ [some v, none] H
      refine wb_cons ?_
      walk_at "wx"
      refine rc_isi dd (ClsV.ty _) (at_ty hv) (kit_bt (kit_tup m)) ?_
      walk_at "wx"
      cases et : isTupM m with
      | false =>
        refine ite_t ?_
        walk_at "wx"
        have e : freeM m = true := by
          cases m with
          | tup ms => cases et
          | _ => unfold freeM; rfl
        rw [← e]
        exact k _ (Same.refl _)
      | true =>
        refine ite_f ?_
        cases hv with
        | @tup a xs ms h1 hl h2 =>
          obtain ⟨us, rfl, rfl, hu⟩ := at_zip h2
          walk_at "wx"
          refine rsl_tupF dd frm_same (Same.refl _) h1 fun p H0' H' s0 A0 hp0 => ?_
          rw [show (some (1 : Int)) = some ((1 : Nat) : Int) from rfl, cut_to] at hp0
          refine we_lit (G := G) frm_same (by walk_at "lits") A0 fun v1 H1' H2 s1 A1 hv1 => ?_
          have hL : Dp G.K H2 (.ref p) (.tuple ((us.take 1).map fun u => dataM u.2)) := by
            refine .tup (A1.tup (s1.tup hp0)) ?_
            cases us with
            | nil => exact .nil
            | cons u us =>
              have hpu : plainM u.2 = true := plain_mem (by unfold plainM at hp; exact hp) (List.mem_map.mpr ⟨u, List.mem_cons_self, rfl⟩)
              exact .cons ((((s0.trans s1).trans A1)).dp _ _ (at_dp _ _ (hu u List.mem_cons_self) hpu)) .nil
          have s2 : Same H H2 := (s0.trans s1).trans A1
          have hpl : plainL (us.map (·.2)) = true := by unfold plainM at hp; exact hp
          refine ro_notInD dd hL (A1.dp _ _ hv1) (free_shape hu hpl h60) (by decide +kernel) ?_
          refine ⟨_, rfl, ?_⟩
          rw [free_us hpl] at k
          cases ef : !(placeD.any fun z => PyData.eqv z (.tuple ((us.take 1).map fun u => dataM u.2))) with
          | false =>
            rw [ef] at k
            exact ite_f (k _ s2)
          | true =>
            rw [ef] at k
            refine ite_t ?_
            walk_at "wE"
            walk_at "wE"
            refine we_lcT dd [("_law_part", 1)] (by decide +kernel) (by intro _; rfl) ?_
            walk_at "wn"
            rw [List.length_map] at hl
            refine lcT_map (zs := us) (fun u : V × M => u.1) (fun u => if freeM u.2 = true then none else some u.1) (s2.tup h1) (by omega) (fun u hu2 H3 s3 R hR => ?_) (fun L H3 hL2 s3 h3 => ?_)
            · intro X' d'
              dsimp only [L2.wipe, List.map, List.set]
              walk_at "wg"
              refine ⟨rfl, fun X2 d2 => wts_one ?_⟩
              walk_at "wT"
              walk_at "wT"
              refine we_call d2 ih (by omega) (by decide +kernel) (by rfl) (by rfl) ?_
              walk_at "wA"
              walk_at "wn"
              walk_at "wA"
              have hm2 : u.2 ∈ us.map (·.2) := List.mem_map.mpr ⟨u, hu2, rfl⟩
              have dm := depth_mem hm2
              rw [depthM] at hd h60
              refine ⟨u.1, u.2, rfl, At.same (s2.trans s3) _ _ (hu u hu2), plain_mem hpl hm2, by omega, by omega, fun H4 s4 => ?_⟩
              walk_at "wx"
              have hR := hR H4 s4
              cases e2 : freeM u.2 with
              | true =>
                rw [e2] at hR
                exact ite_f hR
              | false =>
                rw [e2] at hR
                refine ite_t fun X3 d3 => ?_
                walk_at "wn"
                exact hR
            · walk_at "wE"
              walk_at "wA"
              refine ⟨Nat.zero_le _, fun q hq2 => ?_⟩
              refine ro_eqEmpty dd (SqL.of (by rw [upd_ne (ne_of_none h3 hq2)]; exact h3)) (SqL.of upd_same) ?_
              rw [free_none]
              exact k _ ((s2.trans s3).trans (same_new hq2))
        | _ => cases et
end K02

namespace K02
variable {G : Gb}
/-! ### the law's table in the heap -/
def srtS : Srt → Str
  | .small => "small" | .nine => "nine" | .name => "name" | .E => "E" | .free => "free" | .pair => "pair" | .I => "I" | .C => "C" | .S => "S" | _ => ""
def atomS : Srt → Bool
  | .pairs => false | .inps => false | .cells => false | _ => true
def headS : Srt → Srt
  | .pairs => .pair | .inps => .I | .cells => .C | s => s
def srtD (s : Srt) : PyData := if atomS s = true then .str (srtS s) else .list [.str (srtS (headS s)), .int 1, .int 9999]
def rowD (ss : List Srt) : PyData := .list (ss.map srtD)
inductive RowIs (K : PySem.W.Frag) (H : Hp) : List (Key × V) → List (Str × List Srt) → Prop
  | nil : RowIs K H [] []
  | cons {z : Str} {v : V} {ss : List Srt} {kvs : List (Key × V)} {row : List (Str × List Srt)} : Dp K H v (rowD ss) → RowIs K H kvs row → RowIs K H ((Sum.inr z, v) :: kvs) ((z, ss) :: row)
section
variable {K : PySem.W.Frag} {H H' : Hp}
theorem RowIs.same (e : Same H H') : ∀ {kvs : List (Key × V)} {row : List (Str × List Srt)}, RowIs K H kvs row → RowIs K H' kvs row
  | _, _, .nil => .nil
  | _, _, .cons h r => .cons (e.dp _ _ h) (r.same e)
theorem RowIs.app {z : Str} {v : V} {ss : List Srt} (h : Dp K H v (rowD ss)) : ∀ {kvs : List (Key × V)} {row : List (Str × List Srt)}, RowIs K H kvs row → RowIs K H (kvs ++ [(Sum.inr z, v)]) (row ++ [(z, ss)])
  | _, _, .nil => .cons h .nil
  | _, _, .cons g r => .cons g (r.app h)
theorem RowIs.len : ∀ {kvs : List (Key × V)} {row : List (Str × List Srt)}, RowIs K H kvs row → kvs.length = row.length
  | _, _, .nil => rfl
  | _, _, .cons _ r => congrArg Nat.succ r.len
theorem RowIs.none {w : Str} : ∀ {kvs : List (Key × V)} {row : List (Str × List Srt)}, RowIs K H kvs row → row.lookup w = none → valV kvs (Sum.inr w) = none
  | _, _, .nil, _ => rfl
  | _, _, .cons (z := z) g r, h => by
    rw [List.lookup_cons] at h
    cases e : w == z with
    | true =>
      rw [e] at h
      cases h
    | false =>
      rw [e] at h
      rw [valV_neg (fun q => by cases q; rw [beq_self_eq_true] at e; cases e)]
      exact r.none h
theorem RowIs.some {w : Str} {ss : List Srt} : ∀ {kvs : List (Key × V)} {row : List (Str × List Srt)}, RowIs K H kvs row → row.lookup w = some ss → ∃ v, valV kvs (Sum.inr w) = some v ∧ Dp K H v (rowD ss)
  | _, _, .nil, h => by cases h
  | _, _, .cons (z := z) g r, h => by
    rw [List.lookup_cons] at h
    cases e : w == z with
    | true =>
      rw [e] at h
      cases h
      rw [eq_of_beq e]
      exact ⟨_, valV_pos rfl, g⟩
    | false =>
      rw [e] at h
      rw [valV_neg (fun q => by cases q; rw [beq_self_eq_true] at e; cases e)]
      exact r.some h
end
structure TabAt (K : PySem.W.Frag) (H : Hp) (t : Addr) : Prop where
  is : ∃ e i c s ke ki kc ks, H t = some (.dK [(Sum.inr "E", .ref e), (Sum.inr "I", .ref i), (Sum.inr "C", .ref c), (Sum.inr "S", .ref s)]) ∧ H e = some (.dK ke) ∧ RowIs K H ke rowE ∧ H i = some (.dK ki) ∧ RowIs K H ki rowI ∧
    H c = some (.dK kc) ∧ RowIs K H kc rowC ∧ H s = some (.dK ks) ∧ RowIs K H ks rowS2
theorem TabAt.same {K : PySem.W.Frag} {H H' : Hp} {t : Addr} (T : TabAt K H t) (e : Same H H') : TabAt K H' t := by
  obtain ⟨a, i, c, s, ke, ki, kc, ks, h1, h2, h3, h4, h5, h6, h7, h8, h9⟩ := T.is
  exact ⟨a, i, c, s, ke, ki, kc, ks, e _ _ h1, e _ _ h2, h3.same e, e _ _ h4, h5.same e, e _ _ h6, h7.same e, e _ _ h8, h9.same e⟩
def rowOf : Srt → List (Str × List Srt)
  | .E => rowE | .I => rowI | .C => rowC | .S => rowS2 | _ => []
def tabS : Srt → Bool
  | .E => true | .I => true | .C => true | .S => true | _ => false
theorem TabAt.row {K : PySem.W.Frag} {H : Hp} {t : Addr} (T : TabAt K H t) {x : Srt} (hx : tabS x = true) : ∃ a kvs, DGet H t (.str (srtS x)) (some (.ref a)) ∧ H a = some (.dK kvs) ∧ RowIs K H kvs (rowOf x) := by
  obtain ⟨a, i, c, s, ke, ki, kc, ks, h1, h2, h3, h4, h5, h6, h7, h8, h9⟩ := T.is
  cases x with
  | E => exact ⟨a, ke, dgk h1 (by rfl), h2, h3⟩
  | I => exact ⟨i, ki, dgk h1 (by rfl), h4, h5⟩
  | C => exact ⟨c, kc, dgk h1 (by rfl), h6, h7⟩
  | S => exact ⟨s, ks, dgk h1 (by rfl), h8, h9⟩
  | _ => cases hx
theorem strs_of {K : PySem.W.Frag} {H : Hp} : ∀ {ss : List Str} {xs : List V}, DpAll K H xs (ss.map PyData.str) → xs = ss.map V.str
  | [], _, h => by
    cases h
    rfl
  | z :: ss, _, h => by
    cases h with
    | cons h1 h2 =>
      cases h1
      rw [strs_of h2]
      rfl
abbrev threes : List Str := ["sum", "fewest", "most"]
def rowE3a : List (Str × List Srt) := threes.map fun w => (w, [.name])
theorem fresh2 : ∀ p ∈ twos.zipIdx, ((rowE1 ++ rowE2.take p.2).lookup p.1).isNone = true := by decide +kernel
theorem fresh3 : ∀ p ∈ threes.zipIdx, (((rowE1 ++ rowE2) ++ rowE3a.take p.2).lookup p.1).isNone = true := by decide +kernel
theorem at2 {i : Nat} {z : Str} (h : twos[i]? = some z) : rowE2[i]? = some (z, [.E, .E]) ∧ (rowE1 ++ rowE2.take i).lookup z = none := by
  refine ⟨by unfold rowE2; rw [List.getElem?_map, h]; rfl, ?_⟩
  exact Option.isNone_iff_eq_none.mp (fresh2 (z, i) (List.mem_zipIdx_iff_getElem?.mpr h))
theorem at3 {i : Nat} {z : Str} (h : threes[i]? = some z) : rowE3a[i]? = some (z, [.name]) ∧ ((rowE1 ++ rowE2) ++ rowE3a.take i).lookup z = none := by
  refine ⟨by unfold rowE3a; rw [List.getElem?_map, h]; rfl, ?_⟩
  exact Option.isNone_iff_eq_none.mp (fresh3 (z, i) (List.mem_zipIdx_iff_getElem?.mpr h))
theorem few2 (i : Nat) : (rowE1 ++ rowE2.take i).length < 100 := by
  have h1 : rowE1.length = 6 := rfl
  have h2 : rowE2.length = 10 := rfl
  rw [List.length_append, List.length_take]
  omega
theorem few3 (i : Nat) : ((rowE1 ++ rowE2) ++ rowE3a.take i).length < 100 := by
  have h1 : (rowE1 ++ rowE2).length = 16 := rfl
  have h2 : rowE3a.length = 3 := rfl
  rw [List.length_append, List.length_take]
  omega
/-- _law_table() -/
def spTable (K : PySem.W.Frag) : Sp := fun vs H Q _ => vs = [] ∧ ∀ (t : Addr) (H' : Hp), Same H H' → TabAt K H' t → Q (.ref t) H'
abbrev twoD : PyData := .list [.str "E", .str "E"]
end K02

namespace K02
variable {G : Gb}
/-! ### _law_fits and _law_all_fit -/
def rkS : Srt → Nat
  | .free => 1
  | _ => 0
def spFits (n : Nat) (K : PySem.W.Frag) : Sp := fun vs H Q _ => ∃ (t : Addr) (sv v : V) (s : Srt) (m : M), vs = [.ref t, sv, v] ∧ TabAt K H t ∧ Dp K H sv (srtD s) ∧ At K H v m ∧ 2 * depthM m + rkS s < n ∧ depthM m ≤ 44 ∧ ∀ H', Same H H' → Q (.bl (fitM s m)) H'
def spAllFit (n : Nat) (K : PySem.W.Frag) : Sp := fun vs H Q _ => ∃ (t a : Addr) (lv : V) (ss : List Srt) (us : List (V × M)), vs = [.ref t, lv, .ref a] ∧ TabAt K H t ∧ Dp K H lv (rowD ss) ∧ ss.length ≤ 1000 ∧ SqL K H a (us.map (·.1)) ∧ us.length ≤ 1000 ∧ (∀ u ∈ us, At K H u.1 u.2 ∧ 2 * depthM u.2 + 1 < n ∧ depthM u.2 ≤ 44) ∧ ∀ H', Same H H' → Q (.bl (allM ss (us.map (·.2)))) H'
abbrev nFits : List Str := ["_law_table_here", "_law_sort", "_law_matter", "_law_is_int", "_law_part"]
theorem scFits : FnScope nFits ["_law_table_here", "_law_sort", "_law_matter"] (defScope (top 44)) := ⟨rfl, rfl, rfl, by decide +kernel, rfl, by decide +kernel, by decide +kernel⟩
theorem fit_ty (s : Srt) : kitB (tyD (srtD s)) "list" = some (!atomS s) := by cases s <;> decide +kernel
theorem many_at {K : PySem.W.Frag} {H : Hp} {sv : V} {s : Srt} (h : Dp K H sv (srtD s)) (ha : atomS s = false) : ∃ b, sv = .ref b ∧ SqL K H b [.str (srtS (headS s)), .int 1, .int 9999] := by
  unfold srtD at h
  rw [ha, if_neg (by decide)] at h
  cases h with
  | @lst a xs _ h1 h2 =>
    cases h2 with
    | cons g1 h2 =>
    cases h2 with
    | cons g2 h2 =>
    cases h2 with
    | cons g3 h2 =>
    cases h2
    cases g1
    cases g2
    cases g3
    exact ⟨a, rfl, h1⟩
theorem atom_at {K : PySem.W.Frag} {H : Hp} {sv : V} {s : Srt} (h : Dp K H sv (srtD s)) (ha : atomS s = true) : sv = .str (srtS s) := by
  unfold srtD at h
  rw [if_pos ha] at h
  cases h
  rfl
theorem fits_none {s : Srt} {us : List (V × M)} : (us.filterMap fun u => if fitM s u.2 = true then none else some u.1).isEmpty = (us.map (·.2)).all (fitM s) := by
  induction us with
  | nil => rfl
  | cons u us ih =>
    rw [List.filterMap_cons, List.map_cons, List.all_cons, ← ih]
    cases fitM s u.2 with
    | true => rw [if_pos rfl, Bool.true_and]
    | false => rw [if_neg (by decide)]; rfl
theorem many_eq {s : Srt} (ha : atomS s = false) (m : M) : fitM s m = (someT m && ((listT m).all (fitM (headS s)) && (!decide (srtS (headS s) = "pair") || risingI ((listT m).map fstM)))) := by
  cases s with
  | pairs =>
    show (someT m && ((listT m).all pairG && risingI ((listT m).map fstM))) = (someT m && ((listT m).all pairG && (!decide (("pair" : Str) = "pair") || _)))
    rw [decide_eq_true rfl]
    rfl
  | inps =>
    show (someT m && (listT m).all inputM) = (someT m && ((listT m).all inputM && (!decide (("I" : Str) = "pair") || _)))
    rw [show decide (("I" : Str) = "pair") = false from by decide +kernel, Bool.not_false, Bool.true_or, Bool.and_true]
  | cells =>
    show (someT m && (listT m).all cellM) = (someT m && ((listT m).all cellM && (!decide (("C" : Str) = "pair") || _)))
    rw [show decide (("C" : Str) = "pair") = false from by decide +kernel, Bool.not_false, Bool.true_or, Bool.and_true]
  | _ => cases ha
/-- pairs as the law's rising wants them -/
theorem rise_zs {K : PySem.W.Frag} {H : Hp} : ∀ {us : List (V × M)}, (∀ u ∈ us, At K H u.1 u.2) → (us.map (·.2)).all pairG = true → ∃ zs : List (Addr × V × Int), us.map (·.1) = zs.map (fun z => V.ref z.1) ∧ (∀ z ∈ zs, SqT K H z.1 [.int z.2.2, z.2.1]) ∧ (us.map (·.2)).map fstM = zs.map (·.2.2)
  | [], _, _ => ⟨[], rfl, (fun _ h => nomatch h), rfl⟩
  | (v, m) :: us, hu, hp => by
    rw [List.map_cons, List.all_cons, Bool.and_eq_true] at hp
    obtain ⟨zs, z1, z2, z3⟩ := rise_zs (fun u h => hu u (List.mem_cons_of_mem _ h)) hp.2
    have hm := hp.1
    have hv : At K H v m := hu (v, m) List.mem_cons_self
    have hm : pairG m = true := hm
    rw [pairG_eq, Bool.and_eq_true] at hm
    obtain ⟨i, hi⟩ := Option.isSome_iff_exists.mp hm.1
    obtain ⟨y, rfl, _⟩ := pairM_some hi
    cases hv with
    | @tup ad xs _ t1 tl t2 =>
    cases t2 with
    | @cons x1 _ _ _ g1 t2 =>
    cases t2 with
    | @cons x2 _ _ _ g2 t2 =>
    cases t2
    cases g1
    refine ⟨(ad, x2, i) :: zs, by rw [List.map_cons, z1]; rfl, fun z hz => ?_, by rw [List.map_cons, List.map_cons, z3]; rfl⟩
    rcases List.mem_cons.mp hz with rfl | hz
    · exact t1
    · exact z2 z hz
section
variable {X : Cx} {H : Hp} {Q : VK} {W : WX} {k n : Nat} {t : Addr} {sv v : V} {s : Srt} {m : M}
theorem fits_many (b : Bi G.mg) (d : Fr X G nFits (defScope (top 44)) k W) (FR : Fn G "_law_rises" 1 1 (spRises G.K)) {j : Nat} (hj : j ≤ k) (h1k : 1 ≤ k) (IH : Fn G "_law_fits" 3 j (spFits n G.K)) (T : TabAt G.K H t) (hs : Dp G.K H sv (srtD s)) (hv : At G.K H v m) (hd : 2 * depthM m + rkS s < n + 1) (h60 : depthM m ≤ 44)
    (q : ∀ H', Same H H' → Q (.bl (fitM s m)) H') (ha : atomS s = false) : WB X (defBody (top 44)) { nx := fun _ H' => Q .non H', rt := Q } [some (.ref t), some sv, some v, none, none] H := by
  have dd := d.toDef
  obtain ⟨bl, rfl, hb⟩ := many_at hs ha
  show WB X (_ :: _) _ _ _
  refine wb_cons ?_
  walk_at "wx"
  refine ite_t ?_
  walk_at "wx"
  refine rc_isi dd (ClsV.ty _) (at_ty hv) (kit_bt (kit_tup m)) ?_
  walk_at "wx"
  rw [many_eq ha] at q
  cases et : isTupM m with
  | false =>
    refine ite_t (ite_t ?_)
    walk_at "wx"
    have e : someT m = false := by
      cases m with
      | tup ms => cases et
      | _ => rfl
    rw [e] at q
    exact q _ (Same.refl _)
  | true =>
    refine ite_f ?_
    cases hv with
    | @tup a xs ms h1 hl h2 =>
      obtain ⟨us, rfl, rfl, hu⟩ := at_zip h2
      rw [List.length_map] at hl
      walk_at "wx"
      refine rx_list dd hb (atI_nat (j := 1) rfl) ?_
      walk_at "wx"
      refine rc_lenT dd h1 ?_
      rw [List.length_map]
      walk_at "wx"
      have pos : ∀ b, decide ((1 : Int) ≤ (us.length : Int)) = b → someT (.tup (us.map (·.2))) = b := fun b e => by
        rw [← e]
        cases us with
        | nil => rfl
        | cons u us =>
          rw [decide_eq_true (by rw [List.length_cons]; omega)]
          rfl
      cases ep : decide ((1 : Int) ≤ (us.length : Int)) with
      | false =>
        refine ite_f ?_
        walk_at "wy"
        rw [pos _ ep] at q
        exact q _ (Same.refl _)
      | true =>
        refine ite_t ?_
        walk_at "wx"
        refine rx_list dd hb (atI_nat (j := 2) rfl) ?_
        walk_at "wx"
        rw [decide_eq_true (by omega)]
        refine ite_f ?_
        rw [pos _ ep] at q
        have q : ∀ H', Same H H' → Q (.bl ((us.map (·.2)).all (fitM (headS s)) && (!decide (srtS (headS s) = "pair") || risingI ((us.map (·.2)).map fstM)))) H' := q
        walk_at "wS"
        walk_at "wS"
        walk_at "wS"
        walk_at "wE"
        walk_at "wE"
        refine we_lcT dd [("_law_part", 4)] (by decide +kernel) (by intro _; rfl) ?_
        walk_at "wn"
        refine lcT_map (zs := us) (fun u : V × M => u.1) (fun u => if fitM (headS s) u.2 = true then none else some u.1) h1 (by omega) (fun u hu2 H3 s3 R hR => ?_) (fun L H3 hL2 s3 h3 => ?_)
        · intro X' d'
          dsimp only [L2.wipe, List.map, List.set]
          walk_at "wg"
          refine ⟨rfl, fun X2 d2 => wts_one ?_⟩
          walk_at "wT"
          walk_at "wT"
          refine we_call d2 IH hj (by decide +kernel) (by rfl) (by rfl) ?_
          walk_at "wA"
          walk_at "wn"
          walk_at "wA"
          walk_at "wE"
          walk_at "wn"
          walk_at "wE"
          refine rx_list d2 (s3.seq hb) (atI_nat (j := 0) rfl) ?_
          walk_at "wA"
          walk_at "wn"
          walk_at "wA"
          have dm := depth_mem (List.mem_map.mpr ⟨u, hu2, rfl⟩ : u.2 ∈ us.map (·.2))
          have r0 : rkS (headS s) = 0 := by
            cases s with
            | pairs => rfl
            | inps => rfl
            | cells => rfl
            | _ => cases ha
          have d0 : srtD (headS s) = .str (srtS (headS s)) := by
            cases s with
            | pairs => rfl
            | inps => rfl
            | cells => rfl
            | _ => cases ha
          rw [depthM] at hd h60
          refine ⟨t, .str (srtS (headS s)), u.1, headS s, u.2, rfl, T.same s3, by rw [d0]; exact .str _, At.same s3 _ _ (hu u hu2), by omega, by omega, fun H4 s4 => ?_⟩
          walk_at "wx"
          have hR := hR H4 s4
          cases e2 : fitM (headS s) u.2 with
          | true =>
            rw [e2] at hR
            exact ite_f hR
          | false =>
            rw [e2] at hR
            refine ite_t fun X3 d3 => ?_
            walk_at "wn"
            exact hR
        · walk_at "wE"
          walk_at "wA"
          refine ⟨Nat.zero_le _, fun p hp => ?_⟩
          have s4 := s3.trans (same_new (o := .lst []) hp)
          refine ro_eqEmpty dd (SqL.of (by rw [upd_ne (ne_of_none h3 hp)]; exact h3)) (SqL.of upd_same) ?_
          rw [fits_none]
          generalize upd H3 p (.lst []) = H4 at s4 ⊢
          refine ⟨_, rfl, ?_⟩
          cases ea : (us.map (·.2)).all (fitM (headS s)) with
          | false =>
            rw [ea] at q
            exact ite_f (q _ s4)
          | true =>
            rw [ea] at q
            refine ite_t ?_
            walk_at "wx"
            refine rx_list dd (s4.seq hb) (atI_nat (j := 0) rfl) ?_
            walk_at "wx"
            cases ew : decide (srtS (headS s) = ("pair" : Str)) with
            | false =>
              rw [ew] at q
              exact ite_t (q _ s4)
            | true =>
              rw [ew] at q
              refine ite_f ?_
              walk_at "wE"
              refine we_call dd FR h1k (by decide +kernel) (by rfl) (by rfl) ?_
              walk_at "wA"
              walk_at "wn"
              walk_at "wA"
              have hp2 : (us.map (·.2)).all pairG = true := by
                cases s with
                | pairs => exact ea
                | inps => exact absurd ew (by decide +kernel)
                | cells => exact absurd ew (by decide +kernel)
                | _ => cases ha
              obtain ⟨zs, z1, z2, z3⟩ := rise_zs hu hp2
              rw [z3] at q
              refine ⟨a, zs, rfl, by rw [← z1]; exact s4.tup h1, fun z hz => s4.tup (z2 z hz), ?_, fun H5 s5 => q _ (s4.trans s5)⟩
              have := congrArg List.length z1
              rw [List.length_map, List.length_map] at this
              omega
    | _ => cases et
end
end K02

namespace K02
variable {G : Gb}
section
variable {X : Cx} {H : Hp} {Q : VK} {W : WX} {k n : Nat} {t : Addr} {sv v : V} {s : Srt} {m : M}
abbrev numsV : List V := [.str "small", .str "nine"]
def isNumS : Srt → Bool
  | .small => true | .nine => true | _ => false
theorem in_nums (s : Srt) : inV (.str (srtS s)) numsV = isNumS s := by cases s <;> decide +kernel
theorem fits_num (b : Bi G.mg) (d : Fr X G nFits (defScope (top 44)) k W) (hs : Dp G.K H sv (srtD s)) (hv : At G.K H v m)
    (q : ∀ H', Same H H' → Q (.bl (fitM s m)) H') (ha : isNumS s = true) : WB X (defBody (top 44)) { nx := fun _ H' => Q .non H', rt := Q } [some (.ref t), some sv, some v, none, none] H := by
  have dd := d.toDef
  obtain rfl := atom_at hs (by cases s <;> first | rfl | cases ha)
  show WB X (_ :: _) _ _ _
  refine wb_cons ?_
  walk_at "wx"
  refine ite_f ?_
  walk_at "wx"
  refine ⟨by show 2 ≤ sizeLine; decide, fun p hp => ?_⟩
  have s1 : Same H (upd H p (.lst numsV)) := same_new hp
  refine ro_in dd (.inl (SqL.of upd_same)) rfl (by decide +kernel) ?_
  rw [in_nums, ha]
  generalize upd H p (.lst numsV) = H1 at s1 ⊢
  have q := q H1 s1
  have hv := At.same s1 _ _ hv
  walk_at "wx"
  refine ite_t ?_
  cases hv with
  | int i =>
    walk_at "wx"
    refine ite_t ?_
    walk_at "wx"
    refine ite_t ?_
    walk_at "wx"
    cases s with
    | small =>
      refine ite_t ?_
      walk_at "wx"
      have q : Q (.bl (decide (-999 ≤ i) && decide (i ≤ 999))) H1 := q
      cases e : decide (-999 ≤ i) with
      | true =>
        rw [e] at q
        refine ite_t ?_
        walk_at "wx"
        exact q
      | false =>
        rw [e] at q
        exact ite_f q
    | nine =>
      refine ite_f ?_
      walk_at "wx"
      have q : Q (.bl (decide (1 ≤ i) && decide (i ≤ 9))) H1 := q
      cases e : decide (1 ≤ i) with
      | true =>
        rw [e] at q
        refine ite_t ?_
        walk_at "wx"
        exact q
      | false =>
        rw [e] at q
        exact ite_f q
    | _ => cases ha
  | bl x =>
    walk_at "wx"
    refine ite_t ?_
    walk_at "wx"
    refine ite_f ?_
    cases s with
    | small => exact q
    | nine => exact q
    | _ => cases ha
  | _ =>
    walk_at "wx"
    refine ite_f ?_
    walk_at "wx"
    refine ite_f ?_
    cases s with
    | small => exact q
    | nine => exact q
    | _ => cases ha
theorem fits_name (b : Bi G.mg) (d : Fr X G nFits (defScope (top 44)) k W) (FN : Fn G "_law_is_name" 1 2 (spLNameM G.K)) (h2k : 2 ≤ k) (hs : Dp G.K H sv (srtD .name)) (hv : At G.K H v m)
    (q : ∀ H', Same H H' → Q (.bl (nameM m)) H') : WB X (defBody (top 44)) { nx := fun _ H' => Q .non H', rt := Q } [some (.ref t), some sv, some v, none, none] H := by
  have dd := d.toDef
  obtain rfl := atom_at hs rfl
  show WB X (_ :: _) _ [some (.ref t), some (.str "name"), some v, none, none] _
  refine wb_cons ?_
  walk_at "wx"
  refine ite_f ?_
  walk_at "wx"
  refine ⟨by show 2 ≤ sizeLine; decide, fun p hp => ?_⟩
  have s1 : Same H (upd H p (.lst numsV)) := same_new hp
  refine ro_in dd (.inl (SqL.of upd_same)) rfl (by decide +kernel) ?_
  rw [show inV (.str "name") numsV = false from by decide +kernel]
  generalize upd H p (.lst numsV) = H1 at s1 ⊢
  walk_at "wx"
  refine ite_f ?_
  walk_at "wx"
  refine ite_t ?_
  walk_at "wx"
  refine we_call dd FN h2k (by decide +kernel) (by rfl) (by rfl) ?_
  walk_at "wx"
  exact ⟨v, m, rfl, At.same s1 _ _ hv, fun H' s2 => q H' (s1.trans s2)⟩
end
end K02

namespace K02
variable {G : Gb}
section
variable {X : Cx} {H : Hp} {Q : VK} {W : WX} {k n : Nat} {t : Addr} {sv v : V} {s : Srt} {m : M}
theorem fits_pre (b : Bi G.mg) (d : Fr X G nFits (defScope (top 44)) k W) (ha : atomS s = true) (hn : isNumS s = false) (hx : decide (srtS s = "name") = false)
    (next : ∀ rest, (defBody (top 44)).drop 3 = rest → ∀ H1, Same H H1 → WB X rest { nx := fun _ H' => Q .non H', rt := Q } [some (.ref t), some (.str (srtS s)), some v, none, none] H1) :
    WB X (defBody (top 44)) { nx := fun _ H' => Q .non H', rt := Q } [some (.ref t), some (.str (srtS s)), some v, none, none] H := by
  have dd := d.toDef
  show WB X (_ :: _) _ _ _
  refine wb_cons ?_
  walk_at "wx"
  refine ite_f ?_
  walk_at "wx"
  refine ⟨by show 2 ≤ sizeLine; decide, fun p hp => ?_⟩
  have s1 : Same H (upd H p (.lst numsV)) := same_new hp
  refine ro_in dd (.inl (SqL.of upd_same)) rfl (by decide +kernel) ?_
  rw [in_nums, hn]
  generalize upd H p (.lst numsV) = H1 at s1 ⊢
  walk_at "wx"
  refine ite_f ?_
  walk_at "wx"
  rw [hx]
  refine ite_f ?_
  walk_at "wS"
  exact next _ (by kernel_rfl) H1 s1
/-- .. and no tuple, or an empty one, fits nothing that is left -/
theorem fits_tup (b : Bi G.mg) (d : Fr X G nFits (defScope (top 44)) k W) (ha : atomS s = true) (hn : isNumS s = false) (hx : decide (srtS s = "name") = false) (hv : At G.K H v m)
    (q : ∀ H', Same H H' → Q (.bl (fitM s m)) H') (hf : someT m = false → fitM s m = false)
    (next : ∀ (a : Addr) (us : List (V × M)), v = .ref a → m = .tup (us.map (·.2)) → SqT G.K H a (us.map (·.1)) → us.length ≤ 1000 → us ≠ [] → (∀ u ∈ us, At G.K H u.1 u.2) → ∀ rest, (defBody (top 44)).drop 4 = rest → ∀ H1, Same H H1 → WB X rest { nx := fun _ H' => Q .non H', rt := Q } [some (.ref t), some (.str (srtS s)), some v, none, none] H1) :
    WB X (defBody (top 44)) { nx := fun _ H' => Q .non H', rt := Q } [some (.ref t), some (.str (srtS s)), some v, none, none] H := by
  have dd := d.toDef
  refine fits_pre b d ha hn hx fun rest hr H1 s1 => ?_
  subst hr
  show WB X (_ :: _) _ _ _
  refine wb_cons ?_
  walk_at "wx"
  have hv1 := At.same s1 _ _ hv
  refine rc_isi dd (ClsV.ty _) (at_ty hv1) (kit_bt (kit_tup m)) ?_
  walk_at "wx"
  cases et : isTupM m with
  | false =>
    have e : someT m = false := by
      cases m with
      | tup ms => cases et
      | _ => rfl
    rw [hf e] at q
    refine ite_t (ite_t ?_)
    walk_at "wx"
    exact q _ s1
  | true =>
    refine ite_f ?_
    cases hv with
    | @tup a xs ms h1 hl h2 =>
      obtain ⟨us, rfl, rfl, hu⟩ := at_zip h2
      rw [List.length_map] at hl
      walk_at "wx"
      refine rc_lenT dd (s1.tup h1) ?_
      rw [List.length_map]
      walk_at "wx"
      cases us with
      | nil =>
        refine ite_t ?_
        walk_at "wx"
        rw [hf rfl] at q
        exact q _ s1
      | cons u us =>
        rw [decide_eq_false (by rw [List.length_cons]; omega)]
        refine ite_f ?_
        walk_at "wS"
        exact next a (u :: us) rfl rfl h1 hl (List.cons_ne_nil _ _) hu _ (by kernel_rfl) H1 s1
    | _ => cases et
theorem pair_eq (ms : List M) : pairG (.tup ms) = allM [.small, .E] ms := by
  match ms with
  | [] => rfl
  | [_] => exact (Bool.and_false _).symm
  | [a, c] =>
    show (fromM (-999) 999 a && wholeM true c) = (fromM (-999) 999 a && (wholeM true c && true))
    rw [Bool.and_true]
  | a :: c :: e :: r =>
    show false = (_ && (_ && false))
    rw [Bool.and_false, Bool.and_false]
theorem fits_pair (b : Bi G.mg) (d : Fr X G nFits (defScope (top 44)) k W) {j : Nat} (hj : j ≤ k) (AF : Fn G "_law_all_fit" 3 j (spAllFit n G.K)) (T : TabAt G.K H t) (hs : Dp G.K H sv (srtD .pair)) (hv : At G.K H v m) (hd : 2 * depthM m < n + 1) (h60 : depthM m ≤ 44)
    (q : ∀ H', Same H H' → Q (.bl (pairG m)) H') : WB X (defBody (top 44)) { nx := fun _ H' => Q .non H', rt := Q } [some (.ref t), some sv, some v, none, none] H := by
  have dd := d.toDef
  obtain rfl := atom_at hs rfl
  refine fits_tup b d rfl rfl (by decide +kernel) hv q (fun e => ?_) fun a us e1 e2 h1 hl hne hu rest hr H1 s1 => ?_
  · cases m with
    | tup ms =>
      cases ms with
      | nil => rfl
      | cons x xs => cases e
    | _ => rfl
  subst e1 e2 hr
  rw [pair_eq] at q
  show WB X (_ :: _) _ _ _
  refine wb_cons ?_
  walk_at "wx"
  refine ite_t ?_
  walk_at "wx"
  refine we_call dd AF hj (by decide +kernel) (by rfl) (by rfl) ?_
  walk_at "wA"
  walk_at "wn"
  walk_at "wA"
  refine we_lit (G := G) frm_same (by walk_at "lits") (Same.refl _) fun lv H2 H3 s2 A2 d2 => ?_
  walk_at "wA"
  walk_at "wE"
  walk_at "wA"
  walk_at "wn"
  walk_at "wA"
  have s3 : Same H H3 := (s1.trans s2).trans A2
  refine rc_listOf dd (.inr (s3.tup h1)) fun l hl2 => ?_
  walk_at "wA"
  have s4 : Same H (upd H3 l (.lst (us.map (·.1)))) := s3.trans (same_new hl2)
  refine ⟨t, l, lv, [.small, .E], us, rfl, T.same s4, (A2.trans (same_new hl2)).dp _ _ d2, by decide, SqL.of upd_same, hl, fun u hu2 => ⟨At.same s4 _ _ (hu u hu2), ?_⟩, fun H' s5 => q H' (s4.trans s5)⟩
  have dm := depth_mem (List.mem_map.mpr ⟨u, hu2, rfl⟩ : u.2 ∈ us.map (·.2))
  rw [depthM] at hd h60
  omega
theorem fits_free (b : Bi G.mg) (d : Fr X G nFits (defScope (top 44)) k W) {j : Nat} (hj : j ≤ k) (IH : Fn G "_law_fits" 3 j (spFits n G.K)) (FF : Fn G "_law_is_free" 1 46 (spFree 45 G.K)) (h62 : 46 ≤ k) (T : TabAt G.K H t) (hs : Dp G.K H sv (srtD .free)) (hv : At G.K H v m) (hd : 2 * depthM m + 1 < n + 1) (h60 : depthM m ≤ 44)
    (q : ∀ H', Same H H' → Q (.bl (wholeM true m && freeM m)) H') : WB X (defBody (top 44)) { nx := fun _ H' => Q .non H', rt := Q } [some (.ref t), some sv, some v, none, none] H := by
  have dd := d.toDef
  obtain rfl := atom_at hs rfl
  refine fits_tup b d rfl rfl (by decide +kernel) hv q (fun e => ?_) fun a us e1 e2 h1 hl hne hu rest hr H1 s1 => ?_
  · have : wholeM true m = false := (no_head (fun w ms z => by rw [z] at e; cases e)).1
    show (wholeM true m && freeM m) = false
    rw [this]
    rfl
  subst e1 e2 hr
  show WB X (_ :: _) _ _ _
  refine wb_cons ?_
  walk_at "wx"
  rw [show decide (srtS .free = "pair") = false from by decide +kernel]
  refine ite_f ?_
  walk_at "wx"
  rw [show decide (srtS .free = "free") = true from by decide +kernel]
  refine ite_t ?_
  walk_at "wx"
  refine we_call dd IH hj (by decide +kernel) (by rfl) (by rfl) ?_
  walk_at "wA"
  walk_at "wn"
  walk_at "wA"
  walk_at "wE"
  walk_at "wA"
  walk_at "wn"
  walk_at "wA"
  refine ⟨t, .str "E", .ref a, .E, _, rfl, T.same s1, .str _, At.same s1 _ _ hv, by show 2 * _ + 0 < n; omega, h60, fun H2 s2 => ?_⟩
  have s3 := s1.trans s2
  refine ⟨_, rfl, ?_⟩
  show if wholeM true _ = true then _ else _
  cases ew : wholeM true (.tup (us.map (·.2))) with
  | false =>
    rw [ew] at q
    exact ite_f (q _ s3)
  | true =>
    rw [ew] at q
    refine ite_t ?_
    walk_at "wE"
    refine we_call dd FF h62 (by decide +kernel) (by rfl) (by rfl) ?_
    walk_at "wA"
    walk_at "wn"
    walk_at "wA"
    exact ⟨.ref a, _, rfl, At.same s3 _ _ hv, plain_whole _ ew, by omega, by omega, fun H' s5 => q H' (s3.trans s5)⟩
end
end K02

namespace K02
variable {G : Gb}
section
variable {X : Cx} {H : Hp} {Q : VK} {W : WX} {k n : Nat} {t : Addr} {sv v : V} {s : Srt} {m : M}
/-- what the table's four sorts ask, word by word -/
theorem tab_eq (hs : tabS s = true) (w : Str) (ms : List M) : fitM s (.tup (.str w :: ms)) = byRow (rowOf s) w ms := by
  cases s with
  | E => exact E_eq w ms
  | I => exact I_eq w ms
  | C => exact C_eq w ms
  | S => exact S_eq w ms
  | _ => cases hs
theorem tab_no (hs : tabS s = true) {m : M} (h : ∀ w ms, m ≠ .tup (.str w :: ms)) : fitM s m = false := by
  obtain ⟨h1, h2, h3, h4⟩ := no_head h
  cases s with
  | E => exact h1
  | I => exact h3
  | C => exact h2
  | S => exact h4
  | _ => cases hs
theorem rows_few (hs : tabS s = true) {w : Str} {ss : List Srt} (h : (rowOf s).lookup w = some ss) : ss.length ≤ 10 := by
  have key : ∀ p ∈ rowE ++ (rowI ++ (rowC ++ rowS2)), p.2.length ≤ 10 := by decide +kernel
  have hm := lookup_mem h
  refine key (w, ss) ?_
  cases s with
  | E => exact List.mem_append_left _ hm
  | I => exact List.mem_append_right _ (List.mem_append_left _ hm)
  | C => exact List.mem_append_right _ (List.mem_append_right _ (List.mem_append_left _ hm))
  | S => exact List.mem_append_right _ (List.mem_append_right _ (List.mem_append_right _ hm))
  | _ => cases hs
/-- input and settle ask for two numbers at the second and the third place -/
theorem rows_ord (hs : tabS s = true) {w : Str} {ss : List Srt} (h : (rowOf s).lookup w = some ss) (ho : (decide (w = "input") || decide (w = "settle")) = true) : ∃ r, ss = .name :: .small :: .small :: r := by
  have key : ∀ p ∈ rowE ++ (rowI ++ (rowC ++ rowS2)), (decide (p.1 = "input") || decide (p.1 = "settle")) = true → (match p.2 with
      | .name :: .small :: .small :: _ => true
      | _ => false) = true := by decide +kernel
  have hm := lookup_mem h
  have hm2 : (w, ss) ∈ rowE ++ (rowI ++ (rowC ++ rowS2)) := by
    cases s with
    | E => exact List.mem_append_left _ hm
    | I => exact List.mem_append_right _ (List.mem_append_left _ hm)
    | C => exact List.mem_append_right _ (List.mem_append_right _ (List.mem_append_left _ hm))
    | S => exact List.mem_append_right _ (List.mem_append_right _ (List.mem_append_right _ hm))
    | _ => cases hs
  have k := key _ hm2 ho
  match ss, k with
  | .name :: .small :: .small :: r, _ => exact ⟨r, rfl⟩
theorem from_int {lo hi : Int} {m : M} (h : fromM lo hi m = true) : ∃ i, m = .int i := by
  cases m with
  | int i => exact ⟨i, rfl⟩
  | _ => cases h
abbrev ordS : List Str := ["input", "settle"]
theorem in_ord (w : Str) : decide (w ∈ ordS) = (decide (w = "input") || decide (w = "settle")) := by
  rw [Bool.eq_iff_iff]
  simp [ordS]
theorem int_at {K : PySem.W.Frag} {H : Hp} {v : V} {i : Int} (h : At K H v (.int i)) : v = .int i := by
  cases h
  rfl
theorem all3 {r : List Srt} {us : List (V × M)} (h : allM (.name :: .small :: .small :: r) (us.map (·.2)) = true) : ∃ (u1 u2 u3 : V × M) (us' : List (V × M)) (i j : Int), us = u1 :: u2 :: u3 :: us' ∧ u2.2 = .int i ∧ u3.2 = .int j := by
  match us, h with
  | [], h => cases h
  | [u1], h =>
    have h : (fitM .name u1.2 && false) = true := h
    rw [Bool.and_false] at h
    cases h
  | [u1, u2], h =>
    have h : (fitM .name u1.2 && (fitM .small u2.2 && false)) = true := h
    rw [Bool.and_false, Bool.and_false] at h
    cases h
  | u1 :: u2 :: u3 :: us, h =>
    have h : (fitM .name u1.2 && (fitM .small u2.2 && (fitM .small u3.2 && allM r (us.map (·.2))))) = true := h
    simp only [Bool.and_eq_true] at h
    obtain ⟨i, hi⟩ := from_int (lo := -999) (hi := 999) h.2.1
    obtain ⟨j, hj⟩ := from_int (lo := -999) (hi := 999) h.2.2.1
    exact ⟨u1, u2, u3, us, i, j, rfl, hi, hj⟩
theorem fits_tab (b : Bi G.mg) (d : Fr X G nFits (defScope (top 44)) k W) {j : Nat} (hj : j ≤ k) (AF : Fn G "_law_all_fit" 3 j (spAllFit n G.K)) (T : TabAt G.K H t) (hx : tabS s = true) (hs : Dp G.K H sv (srtD s)) (hv : At G.K H v m) (hd : 2 * depthM m < n + 1) (h60 : depthM m ≤ 44)
    (q : ∀ H', Same H H' → Q (.bl (fitM s m)) H') : WB X (defBody (top 44)) { nx := fun _ H' => Q .non H', rt := Q } [some (.ref t), some sv, some v, none, none] H := by
  have dd := d.toDef
  have ha : atomS s = true := by cases s <;> first | rfl | cases hx
  obtain rfl := atom_at hs ha
  refine fits_tup b d ha (by cases s <;> first | rfl | cases hx) (by cases s <;> first | decide +kernel | cases hx) hv q (fun e => tab_no hx fun w ms z => by rw [z] at e; cases e) fun a us e1 e2 h1 hl hne hu rest hr H1 s1 => ?_
  subst e1 e2 hr
  show WB X (_ :: _) _ _ _
  refine wb_cons ?_
  walk_at "wx"
  rw [show decide (srtS s = "pair") = false from by cases s <;> first | decide +kernel | cases hx]
  refine ite_f ?_
  walk_at "wx"
  rw [show decide (srtS s = "free") = false from by cases s <;> first | decide +kernel | cases hx]
  refine ite_f ?_
  cases us with
  | nil => exact absurd rfl hne
  | cons u us =>
    have hu0 := hu u List.mem_cons_self
    walk_at "wx"
    refine rx_tup dd (s1.tup h1) (atI_nat (j := 0) rfl) ?_
    walk_at "wx"
    refine rc_isi dd (ClsV.ty _) (at_ty (At.same s1 _ _ hu0)) (kit_bt (kit_str u.2)) ?_
    walk_at "wx"
    cases es : isStrM u.2 with
    | false =>
      refine ite_t (ite_t ?_)
      walk_at "wx"
      rw [tab_no hx fun w ms z => by
        injection z with z
        injection z with z _
        have z : u.2 = .str w := z
        rw [z] at es
        cases es] at q
      exact q _ s1
    | true =>
      obtain ⟨uv, um⟩ := u
      cases um with
      | str w =>
        cases hu0
        rename_i hw
        refine ite_f ?_
        walk_at "wx"
        refine rx_tup dd (s1.tup h1) (atI_nat (j := 0) rfl) ?_
        walk_at "wx"
        obtain ⟨ra, kvs, g1, g2, g3⟩ := (T.same s1).row hx
        refine rx_dget dd g1 ?_
        refine ro_notInDict dd g2 ?_
        have eq0 := tab_eq hx w (us.map (·.2))
        have q : ∀ H', Same H H' → Q (.bl (fitM s (.tup (.str w :: us.map (·.2))))) H' := q
        rw [eq0] at q
        unfold byRow at q
        walk_at "wx"
        cases er : (rowOf s).lookup w with
        | none =>
          rw [g3.none er]
          rw [er] at q
          refine ite_t ?_
          walk_at "wx"
          exact q _ s1
        | some ss =>
          obtain ⟨lv, e1, dl⟩ := g3.some er
          rw [e1]
          rw [er] at q
          refine ite_f ?_
          walk_at "wS"
          walk_at "wS"
          walk_at "wS"
          walk_at "wT"
          walk_at "wT"
          refine we_call dd AF hj (by decide +kernel) (by rfl) (by rfl) ?_
          walk_at "wA"
          walk_at "wn"
          walk_at "wA"
          walk_at "wE"
          walk_at "wE"
          walk_at "wn"
          walk_at "wn"
          refine rx_dget dd g1 ?_
          walk_at "wE"
          walk_at "wn"
          walk_at "wE"
          refine rx_tup dd (s1.tup h1) (atI_nat (j := 0) rfl) ?_
          refine rx_dget dd (dgk g2 e1) ?_
          walk_at "wA"
          walk_at "wE"
          walk_at "wA"
          walk_at "wx"
          refine rsl_tupF dd frm_same (Same.refl _) (s1.tup h1) fun p H2 H3 s2 A2 hp => ?_
          rw [show (some (1 : Int)) = some ((1 : Nat) : Int) from rfl, cut_from] at hp
          have hp : SqT G.K H2 p (us.map (·.1)) := hp
          have s3 : Same H H3 := (s1.trans s2).trans A2
          walk_at "wA"
          refine rc_listOf dd (.inr (A2.tup hp)) fun l hl2 => ?_
          have s4 : Same H (upd H3 l (.lst (us.map (·.1)))) := s3.trans (same_new hl2)
          have s14 : Same H1 (upd H3 l (.lst (us.map (·.1)))) := (s2.trans A2).trans (same_new hl2)
          walk_at "wA"
          refine ⟨t, l, lv, ss, us, rfl, T.same s4, s14.dp _ _ dl, by have := rows_few hx er; omega, SqL.of upd_same, by rw [List.length_cons] at hl; omega, fun u hu2 => ⟨At.same s4 _ _ (hu u (List.mem_cons_of_mem _ hu2)), ?_⟩, fun H5 s5 => ?_⟩
          · have dm := depth_mem (List.mem_map.mpr ⟨u, List.mem_cons_of_mem _ hu2, rfl⟩ : u.2 ∈ ((V.str w, M.str w) :: us).map (·.2))
            rw [depthM] at hd h60
            omega
          have s6 : Same H H5 := s4.trans s5
          have q : ∀ H', Same H H' → Q (.bl (allM ss (us.map (·.2)) && ordM w (us.map (·.2)))) H' := q
          walk_at "wx"
          cases ea : allM ss (us.map (·.2)) with
          | false =>
            rw [ea] at q
            refine ite_t ?_
            walk_at "wx"
            exact q _ s6
          | true =>
            rw [ea] at q
            refine ite_f ?_
            walk_at "wx"
            refine rx_tup dd (s6.tup h1) (atI_nat (j := 0) rfl) ?_
            walk_at "wx"
            refine ⟨by show 2 ≤ sizeLine; decide, fun p2 hp2 => ?_⟩
            refine ro_notInG (ss := ordS) dd (.inr (SqL.of upd_same)) ?_
            have s7 := s6.trans (same_new (o := .lst (ordS.map V.str)) hp2)
            rw [in_ord]
            have q : ∀ H', Same H H' → Q (.bl (!(decide (w = "input") || decide (w = "settle")) || leM ((us.map (·.2)).getD 1 .non) ((us.map (·.2)).getD 2 .non))) H' := q
            refine ⟨_, rfl, ?_⟩
            cases eo : (decide (w = "input") || decide (w = "settle")) with
            | false =>
              rw [eo] at q
              exact ite_t (q _ s7)
            | true =>
              rw [eo] at q
              have qf := q
              clear q
              refine ite_f ?_
              obtain ⟨r, rfl⟩ := rows_ord hx er eo
              obtain ⟨u1, u2, u3, us', i, j2, rfl, hi, hj2⟩ := all3 ea
              have a2 := hu u2 (by simp)
              have a3 := hu u3 (by simp)
              rw [hi] at a2
              rw [hj2] at a3
              have v2 := int_at a2
              have v3 := int_at a3
              walk_at "wx"
              refine rx_tup dd (s7.tup h1) (atI_nat (j := 2) (show _ = some u2.1 from rfl)) ?_
              walk_at "wx"
              refine rx_tup dd (s7.tup h1) (atI_nat (j := 3) (show _ = some u3.1 from rfl)) ?_
              rw [v2, v3]
              walk_at "wx"
              have q : Q (.bl (!true || leM u2.2 u3.2)) _ := qf _ s7
              rw [hi, hj2] at q
              exact q
      | _ => cases es
end
end K02

namespace K02
variable {G : Gb}
theorem none_all {α β : Type} (p : α → Bool) (h : α → β) : ∀ l : List α, (l.filterMap fun i => if p i = true then none else some (h i)).isEmpty = l.all p
  | [] => rfl
  | i :: l => by
    rw [List.filterMap_cons, List.all_cons, ← none_all p h l]
    cases p i with
    | true => rw [if_pos rfl, Bool.true_and]
    | false => rw [if_neg (by decide)]; rfl
def fitAt (ss : List Srt) (ms : List M) (i : Nat) : Bool := match ss[i]?, ms[i]? with
  | some s, some m => fitM s m
  | _, _ => false
theorem allM_range : ∀ (ss : List Srt) (ms : List M), ss.length = ms.length → (List.range ss.length).all (fitAt ss ms) = allM ss ms
  | [], [], _ => rfl
  | [], _ :: _, h => by cases h
  | _ :: _, [], h => by cases h
  | s :: ss, m :: ms, h => by
    rw [List.length_cons, List.range_succ_eq_map, List.all_cons, all_map']
    show (fitM s m && _) = (fitM s m && allM ss ms)
    rw [← allM_range ss ms (by simpa using h)]
    rfl
theorem allM_len : ∀ (ss : List Srt) (ms : List M), ss.length ≠ ms.length → allM ss ms = false
  | [], [], h => absurd rfl h
  | [], _ :: _, _ => rfl
  | _ :: _, [], _ => rfl
  | s :: ss, m :: ms, h => by
    show (fitM s m && allM ss ms) = false
    rw [allM_len ss ms (fun e => h (by rw [List.length_cons, List.length_cons, e])), Bool.and_false]
theorem fn_all_fit (b : Bi G.mg) {n j : Nat} (IH : Fn G "_law_fits" 3 j (spFits n G.K)) (T : Top G "_law_all_fit" (top 41) ["_law_table_here", "_law_sorts", "_law_parts"]) : Fn G "_law_all_fit" 3 (j + 1) (spAllFit n G.K) := by
  refine T.fn (N := ["_law_table_here", "_law_sorts", "_law_parts", "_law_k"]) ⟨rfl, rfl, rfl, by decide +kernel, rfl, by decide +kernel, by decide +kernel⟩ (fun vs H Q E h => ?_) (fun X vs H Q E d h => ?_)
  · obtain ⟨_, _, _, _, _, rfl, _⟩ := h
    rfl
  · have dd := d.toDef
    obtain ⟨t, a, lv, ss, us, rfl, hT, hl, hss, ha, hus, hu, k⟩ := h
    obtain ⟨bl, xs, rfl, hb, hx⟩ : ∃ bl xs, lv = .ref bl ∧ SqL G.K H bl xs ∧ DpAll G.K H xs (ss.map srtD) := by
      unfold rowD at hl
      cases hl with
      | lst h1 h2 => exact ⟨_, _, rfl, h1, h2⟩
    have hxl : xs.length = ss.length := by rw [hx.len, List.length_map]
    show WB X _ _ [some (.ref t), some (.ref bl), some (.ref a), none] H
    refine wb_one ?_
    walk_at "wx"
    refine rc_lenL dd hb ?_
    walk_at "wx"
    refine rc_lenL dd ha ?_
    walk_at "wx"
    rw [hxl, List.length_map]
    have hdec : decide ((ss.length : Int) = (us.length : Int)) = decide (ss.length = us.length) := by
      rw [decide_eq_decide]
      omega
    rw [hdec]
    by_cases hlen : ss.length = us.length
    · rw [decide_eq_true hlen]
      refine ite_t ?_
      walk_at "wE"
      walk_at "wE"
      refine we_lcR dd [("_law_k", 3)] (by decide +kernel) (by decide +kernel) b.b_range (by intro _; rfl) (by rfl) ?_
      walk_at "wx"
      refine rc_lenL dd hb ?_
      refine lcR_map (n := ss.length) (fun i => if fitAt ss (us.map (·.2)) i = true then none else some (.int i)) (by rw [hxl]; omega) (by omega) (by omega) (fun i hi H1 s1 R hR => ?_) (fun L H1 hL s1 h1 => ?_)
      · obtain ⟨u, hui⟩ : ∃ u, us[i]? = some u := ⟨_, List.getElem?_eq_getElem (by omega)⟩
        obtain ⟨s, hsi⟩ : ∃ s, ss[i]? = some s := ⟨_, List.getElem?_eq_getElem hi⟩
        obtain ⟨sv, hsv⟩ : ∃ sv, xs[i]? = some sv := ⟨_, List.getElem?_eq_getElem (by omega)⟩
        obtain ⟨dsv, e1, e2⟩ := hx.get hsv
        rw [List.getElem?_map, hsi] at e1
        have e1 := Option.some.inj e1
        subst e1
        have ef : fitAt ss (us.map (·.2)) i = fitM s u.2 := by
          unfold fitAt
          rw [hsi, List.getElem?_map, hui]
          rfl
        rw [ef] at hR
        intro X' d'
        dsimp only [L2.wipe, List.map, List.set]
        walk_at "wg"
        refine ⟨rfl, fun X2 d2 => wts_one ?_⟩
        walk_at "wT"
        walk_at "wT"
        refine we_call d2 IH (by omega) (by decide +kernel) (by rfl) (by rfl) ?_
        walk_at "wA"
        walk_at "wn"
        walk_at "wA"
        walk_at "wE"
        walk_at "wn"
        walk_at "wn"
        refine rx_list d2 (s1.seq hb) (atI_nat hsv) ?_
        walk_at "wA"
        walk_at "wE"
        walk_at "wn"
        walk_at "wn"
        refine rx_list d2 (s1.seq ha) (atI_nat (by rw [List.getElem?_map, hui]; rfl)) ?_
        walk_at "wA"
        obtain ⟨u1, u2, u3⟩ := hu u (List.mem_of_getElem? hui)
        have hrk : rkS s ≤ 1 := by cases s <;> decide
        refine ⟨t, sv, u.1, s, u.2, rfl, hT.same s1, s1.dp _ _ e2, At.same s1 _ _ u1, by omega, u3, fun H4 s4 => ?_⟩
        walk_at "wx"
        have hR := hR H4 s4
        cases e3 : fitM s u.2 with
        | true =>
          rw [e3] at hR
          exact ite_f hR
        | false =>
          rw [e3] at hR
          refine ite_t fun X3 d3 => ?_
          walk_at "wn"
          exact hR
      · walk_at "wE"
        walk_at "wA"
        refine ⟨Nat.zero_le _, fun p hp => ?_⟩
        refine ro_eqEmpty dd (SqL.of (by rw [upd_ne (ne_of_none h1 hp)]; exact h1)) (SqL.of upd_same) ?_
        rw [none_all, allM_range _ _ (by rw [List.length_map]; exact hlen)]
        exact k _ (s1.trans (same_new hp))
    · rw [decide_eq_false hlen]
      refine ite_f ?_
      rw [allM_len _ _ (by rw [List.length_map]; exact hlen)] at k
      exact k _ (Same.refl _)
theorem fn_fits (b : Bi G.mg) (FN : Fn G "_law_is_name" 1 2 (spLNameM G.K)) (FR : Fn G "_law_rises" 1 1 (spRises G.K)) (FF : Fn G "_law_is_free" 1 46 (spFree 45 G.K)) (TA : Top G "_law_all_fit" (top 41) ["_law_table_here", "_law_sorts", "_law_parts"])
    (T : Top G "_law_fits" (top 44) ["_law_table_here", "_law_sort", "_law_matter"]) : ∀ n, Fn G "_law_fits" 3 (49 + 2 * n) (spFits n G.K)
  | 0 => by
    refine T.fn (N := nFits) scFits (fun vs H Q E h => ?_) (fun X vs H Q E d h => ?_)
    · obtain ⟨_, _, _, _, _, rfl, _⟩ := h
      rfl
    · obtain ⟨_, _, _, _, _, _, _, _, _, h, _⟩ := h
      omega
  | n + 1 => by
    have IH := fn_fits b FN FR FF TA T n
    have AF := fn_all_fit b IH TA
    refine T.fn (k := 49 + 2 * n + 1) (N := nFits) scFits (fun vs H Q E h => ?_) (fun X vs H Q E d h => ?_)
    · obtain ⟨_, _, _, _, _, rfl, _⟩ := h
      rfl
    · obtain ⟨t, sv, v, s, m, rfl, hT, hs, hv, hd, h60, k⟩ := h
      show WB X _ _ [some (.ref t), some sv, some v, none, none] H
      cases s with
      | small => exact fits_num b d hs hv k rfl
      | nine => exact fits_num b d hs hv k rfl
      | name => exact fits_name b d FN (by omega) hs hv k
      | pair => exact fits_pair b d (by omega) AF hT hs hv hd h60 k
      | free => exact fits_free b d (by omega) IH FF (by omega) hT hs hv hd h60 k
      | pairs => exact fits_many b d FR (by omega) (by omega) IH hT hs hv hd h60 k rfl
      | inps => exact fits_many b d FR (by omega) (by omega) IH hT hs hv hd h60 k rfl
      | cells => exact fits_many b d FR (by omega) (by omega) IH hT hs hv hd h60 k rfl
      | E => exact fits_tab b d (by omega) AF hT rfl hs hv hd h60 k
      | I => exact fits_tab b d (by omega) AF hT rfl hs hv hd h60 k
      | C => exact fits_tab b d (by omega) AF hT rfl hs hv hd h60 k
      | S => exact fits_tab b d (by omega) AF hT rfl hs hv hd h60 k
end K02

namespace K02
variable {G : Gb}
/-! ### drawn matters -/
mutual
def widM : M → Nat
  | .tup ms => max ms.length (widL ms)
  | .non => 0
  | .bl _ => 0
  | .int _ => 0
  | .str _ => 0
  | .lst => 0
  | .dic => 0
def widL : List M → Nat
  | [] => 0
  | m :: ms => max (widM m) (widL ms)
end
theorem At.keep {K : PySem.W.Frag} {H H' : Hp} (e : Keep H H') : ∀ (m : M) (v : V), At K H v m → At K H' v m := by
  have tupK : ∀ {a : Addr} {xs : List V}, SqT K H a xs → SqT K H' a xs := fun {a xs} h => by
    rcases h with (h | ⟨o, h⟩) | h
    · rcases e a _ h with h2 | ⟨_, _, h2, _⟩
      · exact .inl (.inl h2)
      · cases h2
    · rcases e a _ h with h2 | ⟨_, _, h2, _⟩
      · exact .inl (.inr ⟨o, h2⟩)
      · cases h2
    · exact .inr h
  have lstK : ∀ {a : Addr} {xs : List V}, SqL K H a xs → ∃ ys, SqL K H' a ys := fun {a xs} h => by
    rcases h with (h | ⟨o, h⟩) | h
    · rcases e a _ h with h2 | ⟨_, ys, _, h2⟩
      · exact ⟨xs, .inl (.inl h2)⟩
      · exact ⟨ys, .inl (.inl h2)⟩
    · rcases e a _ h with h2 | ⟨_, _, h2, _⟩
      · exact ⟨xs, .inl (.inr ⟨o, h2⟩)⟩
      · cases h2
    · exact ⟨xs, .inr h⟩
  have dicK : ∀ {a : Addr} {kvs : List (Key × V)}, H a = some (.dK kvs) → H' a = some (.dK kvs) := fun {a kvs} h => by
    rcases e a _ h with h2 | ⟨_, _, h2, _⟩
    · exact h2
    · cases h2
  have key : ∀ n m, sizeM m < n → ∀ v, At K H v m → At K H' v m := by
    intro n
    induction n with
    | zero => intro m h; omega
    | succ n ih =>
      intro m hm v h
      cases h with
      | non => exact .non
      | bl b => exact .bl b
      | int i => exact .int i
      | str z hz => exact .str z hz
      | lst h1 => obtain ⟨ys, h2⟩ := lstK h1; exact .lst h2
      | dic h1 => exact .dic (dicK h1)
      | @tup a xs ms h1 hl h2 =>
        refine .tup (tupK h1) hl ?_
        rw [sizeM] at hm
        have hall : ∀ (ms : List M) (xs : List V), sizeL ms < n → AtAll K H xs ms → AtAll K H' xs ms := by
          intro ms
          induction ms with
          | nil => intro xs _ h; cases h; exact .nil
          | cons m ms ih2 =>
            intro xs hs h
            rw [sizeL] at hs
            cases h with
            | cons g1 g2 => exact .cons (ih m (by omega) _ g1) (ih2 _ (by omega) g2)
        exact hall ms xs (by omega) h2
  exact fun m v h => key _ m (Nat.lt_succ_self _) v h
theorem AtAll.keep {K : PySem.W.Frag} {H H' : Hp} (e : Keep H H') : ∀ {ms : List M} {xs : List V}, AtAll K H xs ms → AtAll K H' xs ms
  | [], _, h => by cases h; exact .nil
  | m :: ms, _, h => by
    cases h with
    | cons g1 g2 => exact .cons (At.keep e _ _ g1) (AtAll.keep e g2)
theorem AtAll.snoc {K : PySem.W.Frag} {H : Hp} {v : V} {m : M} (h : At K H v m) : ∀ {xs : List V} {ms : List M}, AtAll K H xs ms → AtAll K H (xs ++ [v]) (ms ++ [m])
  | _, _, .nil => .cons h .nil
  | _, _, .cons g gs => .cons g (gs.snoc h)
theorem depthL_append : ∀ a b : List M, depthL (a ++ b) = max (depthL a) (depthL b)
  | [], b => by rw [List.nil_append, depthL]; omega
  | m :: a, b => by
    rw [List.cons_append, depthL, depthL, depthL_append a b]
    omega
theorem widL_append : ∀ a b : List M, widL (a ++ b) = max (widL a) (widL b)
  | [], b => by rw [List.nil_append, widL]; omega
  | m :: a, b => by
    rw [List.cons_append, widL, widL, widL_append a b]
    omega
theorem wid_mem : ∀ {ms : List M} {m : M}, m ∈ ms → widM m ≤ widL ms
  | x :: ms, m, h => by
    rw [widL]
    rcases List.mem_cons.mp h with rfl | h
    · omega
    · have := wid_mem h
      omega
/-- drawn expressions, as the taking away of places wants them -/
inductive Ex : M → Prop
  | place : Ex (.tup [.str "place"])
  | at {x i e : M} : Ex e → isTupM x = false → isTupM i = false → Ex (.tup [.str "at", x, i, e])
  | node {w : Str} {ms : List M} : w ≠ "place" → w ≠ "at" → w ≠ "cases" → (∀ m ∈ ms, isTupM m = true → Ex m) → Ex (.tup (.str w :: ms))
  | cases {a c : M} {zs : List (Int × M)} : Ex a → Ex c → (∀ z ∈ zs, Ex z.2) → Ex (.tup [.str "cases", a, .tup (zs.map fun z => .tup [.int z.1, z.2]), c])
theorem Ex.tup {m : M} (h : Ex m) : isTupM m = true := by cases h <;> rfl
def spPlaceless (n : Nat) (K : PySem.W.Frag) : Sp := fun vs H Q _ => ∃ (Fm : Hp → Hp → Prop) (H0 : Hp) (v : V) (m : M), vs = [v] ∧ FrmP Fm ∧ Fm H0 H ∧ At K H0 v m ∧ Ex m ∧ depthM m < n ∧ widM m ≤ 100 ∧
  ∀ (v' : V) (m' : M) (H0' H' : Hp), Same H0 H0' → Fm H0' H' → At K H0' v' m' → depthM m' ≤ depthM m → sizeM m' ≤ 2 * sizeM m → widM m' ≤ max (widM m) 3 → Q v' H'
abbrev nPlaceless : List Str := ["_law_tree", "_law_pairs", "_law_number", "_law_part"]
theorem scPlaceless : FnScope nPlaceless ["_law_tree"] (defScope (top 38)) := ⟨rfl, rfl, rfl, by decide +kernel, rfl, by decide +kernel, by decide +kernel⟩
section
variable {X : Cx} {H H0 : Hp} {Q : VK} {W : WX} {k n : Nat} {v : V} {m : M} {Fm : Hp → Hp → Prop}
abbrev PlQ (K : PySem.W.Frag) (Fm : Hp → Hp → Prop) (H0 : Hp) (m : M) (Q : VK) : Prop := ∀ (v' : V) (m' : M) (H0' H' : Hp), Same H0 H0' → Fm H0' H' → At K H0' v' m' → depthM m' ≤ depthM m → sizeM m' ≤ 2 * sizeM m → widM m' ≤ max (widM m) 3 → Q v' H'
theorem placeless_place (d : Fr X G nPlaceless (defScope (top 38)) k W) (F : FrmP Fm) (A : Fm H0 H) (hv : At G.K H0 v (.tup [.str "place"])) (q : PlQ G.K Fm H0 (.tup [.str "place"]) Q) :
    WB X (defBody (top 38)) { nx := fun _ H' => Q .non H', rt := Q } [some v, none, none, none] H := by
  have dd := d.toDef
  cases hv with
  | @tup a xs _ h1 hl h2 =>
  cases h2 with
  | cons g1 h2 =>
  cases h2
  cases g1
  show WB X (_ :: _) _ _ _
  refine wb_cons ?_
  walk_at "wx"
  refine rx_tup dd ((F.same A).tup h1) (atI_nat (j := 0) rfl) ?_
  walk_at "wx"
  rw [decide_eq_true rfl]
  refine ite_t ?_
  walk_at "wx"
  refine ⟨by show 2 ≤ sizeLine; decide, fun p hp => ?_⟩
  have np := (F.same A).free hp
  refine q _ (.tup [.str "number", .int 1]) _ _ (same_new np) (F.laid A hp) (.tup (SqT.of upd_same) (by show 2 ≤ 1000; decide) (.cons (.str _ (by decide +kernel)) (.cons (.int 1) .nil))) (by decide +kernel) (by decide +kernel) (by decide +kernel)
theorem placeless_at (d : Fr X G nPlaceless (defScope (top 38)) k W) (F : FrmP Fm) (A : Fm H0 H) {j : Nat} (hj : j ≤ k) (IH : Fn G "_law_placeless" 1 j (spPlaceless n G.K)) {x i e : M} (ex : Ex e) (hd : depthM (.tup [.str "at", x, i, e]) < n + 1) (hw : widM (.tup [.str "at", x, i, e]) ≤ 100)
    (hx : isTupM x = false) (hi : isTupM i = false) (hv : At G.K H0 v (.tup [.str "at", x, i, e])) (q : PlQ G.K Fm H0 (.tup [.str "at", x, i, e]) Q) :
    WB X (defBody (top 38)) { nx := fun _ H' => Q .non H', rt := Q } [some v, none, none, none] H := by
  have dd := d.toDef
  cases hv with
  | @tup a xs _ h1 hl h2 =>
  cases h2 with
  | cons g1 h2 =>
  cases h2 with
  | @cons vx _ _ _ g2 h2 =>
  cases h2 with
  | @cons vi _ _ _ g3 h2 =>
  cases h2 with
  | @cons ve _ _ _ g4 h2 =>
  cases h2
  cases g1
  have h1' := (F.same A).tup h1
  show WB X (_ :: _) _ _ _
  refine wb_cons ?_
  walk_at "wx"
  refine rx_tup dd h1' (atI_nat (j := 0) rfl) ?_
  walk_at "wx"
  rw [show decide (("at" : Str) = "place") = false from by decide +kernel]
  refine ite_f ?_
  walk_at "wx"
  refine rx_tup dd h1' (atI_nat (j := 0) rfl) ?_
  walk_at "wx"
  rw [decide_eq_true rfl]
  refine ite_t ?_
  walk_at "wx"
  refine rx_tup dd h1' (atI_nat (j := 1) rfl) ?_
  walk_at "wA"
  refine ⟨by show 2 ≤ sizeLine; decide, fun p hp => ?_⟩
  have np := (F.same A).free hp
  have A1 := F.laid (o := .tup [.str "name", vx]) A hp
  have s1 : Same H0 (upd H0 p (.tup [.str "name", vx])) := same_new np
  walk_at "wA"
  refine we_call dd IH hj (by decide +kernel) (by rfl) (by rfl) ?_
  walk_at "wA"
  walk_at "wE"
  walk_at "wn"
  walk_at "wE"
  refine rx_tup dd (((F.same A1)).tup (s1.tup h1)) (atI_nat (j := 3) rfl) ?_
  walk_at "wA"
  have dx : depthM x = 0 := by
    cases x with
    | tup _ => cases hx
    | _ => unfold depthM; rfl
  have sx : sizeM x = 1 := by
    cases x with
    | tup _ => cases hx
    | _ => unfold sizeM; rfl
  have wx : widM x = 0 := by
    cases x with
    | tup _ => cases hx
    | _ => unfold widM; rfl
  have di : depthM i = 0 := by
    cases i with
    | tup _ => cases hi
    | _ => unfold depthM; rfl
  have si : sizeM i = 1 := by
    cases i with
    | tup _ => cases hi
    | _ => unfold sizeM; rfl
  have wi : widM i = 0 := by
    cases i with
    | tup _ => cases hi
    | _ => unfold widM; rfl
  have e1 : depthM (.tup [.str "at", x, i, e]) = 1 + depthM e := by
    rw [depthM, depthL, depthL, depthL, depthL, depthL, depthM, dx, di]
    omega
  have e2 : sizeM (.tup [.str "at", x, i, e]) = 4 + sizeM e := by
    rw [sizeM, sizeL, sizeL, sizeL, sizeL, sizeL, sizeM, sx, si]
    omega
  have e3 : widM (.tup [.str "at", x, i, e]) = max 4 (widM e) := by
    rw [widM, widL, widL, widL, widL, widL, widM, wx, wi]
    show max 4 _ = _
    omega
  refine ⟨Fm, _, ve, e, rfl, F, A1, At.same s1 _ _ g4, ex, by omega, by omega, fun v' m' H0' H' s2 A2 b1 b2 b3 b4 => ?_⟩
  walk_at "wA"
  refine ⟨by show 3 ≤ sizeLine; decide, fun p2 hp2 => ?_⟩
  have np2 := (F.same A2).free hp2
  have s3 := same_new (o := .tup [.str "plus", .ref p, v']) np2
  refine q _ (.tup [.str "plus", .tup [.str "name", x], m']) _ _ ((s1.trans s2).trans s3) (F.laid A2 hp2) (.tup (SqT.of upd_same) (by show 3 ≤ 1000; decide) (.cons (.str _ (by decide +kernel)) (.cons (.tup ((s2.trans s3).tup (SqT.of upd_same)) (by show 2 ≤ 1000; decide) (.cons (.str _ (by decide +kernel)) (.cons (At.same ((s1.trans s2).trans s3) _ _ g2) .nil))) (.cons (At.same s3 _ _ b1) .nil)))) ?_ ?_ ?_
  · have : 1 ≤ depthM e := by
      cases ex <;> (rw [depthM]; omega)
    rw [e1, depthM, depthL, depthL, depthL, depthL, depthM, depthM, depthL, depthL, depthL, depthM, dx]
    omega
  · have := size_pos e
    rw [e2, sizeM, sizeL, sizeL, sizeL, sizeL, sizeM, sizeM, sizeL, sizeL, sizeL, sizeM, sx]
    omega
  · rw [e3, widM, widL, widL, widL, widL, widM, widM, widL, widL, widL, widM, wx]
    show max 3 (max 0 (max (max 2 _) _)) ≤ _
    omega
end
end K02

namespace K02
variable {G : Gb}
/-- part by part no deeper, at most twice as large -/
structure Sm (ms' ms : List M) : Prop where
  len : ms'.length = ms.length
  dep : depthL ms' ≤ depthL ms
  siz : sizeL ms' ≤ 2 * sizeL ms
  wid : widL ms' ≤ max (widL ms) 3
theorem sm_nil : Sm [] [] := ⟨rfl, Nat.le_refl _, by rw [sizeL]; omega, by rw [widL]; omega⟩
theorem Sm.snoc {ms' ms : List M} {m' m : M} (h : Sm ms' ms) (h1 : depthM m' ≤ depthM m) (h2 : sizeM m' ≤ 2 * sizeM m) (h3 : widM m' ≤ max (widM m) 3) : Sm (ms' ++ [m']) (ms ++ [m]) := by
  obtain ⟨a1, a2, a3, a4⟩ := h
  refine ⟨by rw [List.length_append, List.length_append, a1]; rfl, ?_, ?_, ?_⟩
  · rw [depthL_append, depthL_append, depthL, depthL, depthL]
    omega
  · rw [sizeL_append, sizeL_append, sizeL, sizeL, sizeL]
    omega
  · rw [widL_append, widL_append, widL, widL, widL]
    omega
section
variable {X : Cx} {H H0 : Hp} {Q : VK} {W : WX} {k n : Nat} {v : V} {m : M} {Fm : Hp → Hp → Prop}
theorem placeless_node (b : Bi G.mg) (d : Fr X G nPlaceless (defScope (top 38)) k W) (F : FrmP Fm) (A : Fm H0 H) {j : Nat} (hj : j ≤ k) (IH : Fn G "_law_placeless" 1 j (spPlaceless n G.K)) {w : Str} {ms : List M} (n1 : w ≠ "place") (n2 : w ≠ "at") (n3 : w ≠ "cases") (hms : ∀ m ∈ ms, isTupM m = true → Ex m)
    (hd : depthM (.tup (.str w :: ms)) < n + 1) (hw : widM (.tup (.str w :: ms)) ≤ 100) (hv : At G.K H0 v (.tup (.str w :: ms))) (q : PlQ G.K Fm H0 (.tup (.str w :: ms)) Q) :
    WB X (defBody (top 38)) { nx := fun _ H' => Q .non H', rt := Q } [some v, none, none, none] H := by
  have dd := d.toDef
  cases hv with
  | @tup a xs _ h1 hl h2 =>
  cases h2 with
  | @cons _ xs _ _ g1 h2 =>
  cases g1
  rename_i hwz
  obtain ⟨us, rfl, rfl, hu⟩ := at_zip h2
  have h1' := (F.same A).tup h1
  show WB X (_ :: _) _ _ _
  refine wb_cons ?_
  walk_at "wx"
  refine rx_tup dd h1' (atI_nat (j := 0) rfl) ?_
  walk_at "wx"
  rw [decide_eq_false n1]
  refine ite_f ?_
  walk_at "wx"
  refine rx_tup dd h1' (atI_nat (j := 0) rfl) ?_
  walk_at "wx"
  rw [decide_eq_false n2]
  refine ite_f ?_
  walk_at "wx"
  refine rx_tup dd h1' (atI_nat (j := 0) rfl) ?_
  walk_at "wx"
  rw [decide_eq_false n3]
  refine ite_f ?_
  walk_at "wx"
  refine rsl_tupF dd F.toFrm A h1 fun p1 Ha Hc s1 A1 hp1 => ?_
  rw [show (some (1 : Int)) = some ((1 : Nat) : Int) from rfl, cut_to] at hp1
  have hp1 : SqT G.K Ha p1 [.str w] := hp1
  walk_at "wE"
  walk_at "wA"
  refine we_lcT dd [("_law_part", 3)] (by decide +kernel) (by intro _; rfl) ?_
  walk_at "wx"
  refine rsl_tupF dd F.toFrm A1 (s1.tup h1) fun p2 Ha2 Hc2 s2 A2 hp2 => ?_
  rw [show (some (1 : Int)) = some ((1 : Nat) : Int) from rfl, cut_from] at hp2
  have hp2 : SqT G.K Ha2 p2 (us.map (·.1)) := hp2
  have hlu : us.length ≤ 1000 := by
    rw [List.length_cons, List.length_map] at hl
    omega
  have s02 := s1.trans s2
  refine lcT_frm (zs := us) (fun u : V × M => u.1) (Fm := fun _ => Fm) (P := fun i acc Hz => ∃ ms', AtAll G.K Hz acc ms' ∧ Sm ms' ((us.take i).map (fun u : V × M => u.2))) (fun _ => F) A2 hp2 (by omega) (fun i acc Hx Hy ky ⟨ms', g1, g2⟩ => ⟨ms', g1.keep ky, g2⟩) ⟨[], .nil, sm_nil⟩ (fun i u acc Hx Hy hz sx Ax ⟨ms', g1, g2⟩ R hR => ?_) (fun L ys H3 H4 s3 A3 hL h3 ⟨ms', g1, g2⟩ => ?_)
  · have hm : u ∈ us := List.mem_of_getElem? hz
    have au : At G.K Hx u.1 u.2 := At.same (s02.trans sx) _ _ (hu u hm)
    have mm : u.2 ∈ us.map (·.2) := List.mem_map.mpr ⟨u, hm, rfl⟩
    have hdu := depth_mem mm
    have hwu := wid_mem mm
    rw [depthM, depthL, depthM] at hd
    rw [widM, widL, widM] at hw
    have et : (us.take (i + 1)).map (·.2) = (us.take i).map (·.2) ++ [u.2] := by rw [take_succ hz, List.map_append]; rfl
    intro X' d'
    dsimp only [L2.wipe, List.map, List.set]
    walk_at "wg"
    refine ⟨rfl, fun X2 d2 => wts_nil (ite_t fun X3 d3 => ?_)⟩
    walk_at "wx"
    refine rc_isi d3 (ClsV.ty _) (at_ty (At.same (F.same Ax) _ _ au)) (kit_bt (kit_tup u.2)) ?_
    walk_at "wx"
    cases eu : isTupM u.2 with
    | false =>
      refine ite_f ?_
      walk_at "wn"
      refine hR u.1 Hx Hy (Same.refl _) Ax ⟨ms' ++ [u.2], g1.snoc au, ?_⟩
      rw [et]
      have := size_pos u.2
      exact g2.snoc (Nat.le_refl _) (by omega) (by omega)
    | true =>
      refine ite_t ?_
      refine we_call d3 IH hj (by decide +kernel) (by rfl) (by rfl) ?_
      walk_at "wA"
      walk_at "wn"
      walk_at "wA"
      refine ⟨Fm, Hx, u.1, u.2, rfl, F, Ax, au, hms _ mm eu, by omega, by omega, fun v' m' Hx' Hy' s4 A4 b1 b2 b3 b4 => ?_⟩
      refine hR v' Hx' Hy' s4 A4 ⟨ms' ++ [m'], (g1.keep (keep_of s4)).snoc b1, ?_⟩
      rw [et]
      exact g2.snoc b2 b3 b4
  · rw [List.take_length] at g2
    walk_at "wA"
    refine rc_tupleL dd (SqL.of ((F.same A3) _ _ h3)) fun p3 hp3 => ?_
    have np3 := (F.same A3).free hp3
    have A4 := F.laid (o := .tup ys) A3 hp3
    have s4 := same_new (o := .tup ys) np3
    have lys : ys.length ≤ 1000 := by
      have := g1.len
      have := g2.len
      rw [List.length_map] at this
      omega
    refine ro_catF dd F.toFrm A4 ((s2.trans (s3.trans s4)).tup hp1) (SqT.of upd_same) (len_le (by show 1 + ys.length ≤ _; omega)) fun p4 H5 H6 s5 A5 hp4 => ?_
    have hlen : (V.str w :: ys).length ≤ 1000 := by
      have := g1.len
      have := g2.len
      rw [List.length_map] at this
      rw [List.length_cons, List.length_map] at hl
      rw [List.length_cons]
      omega
    refine q (.ref p4) (.tup (.str w :: ms')) H5 H6 ((s02.trans s3).trans (s4.trans s5)) A5 (.tup hp4 hlen (.cons (.str _ hwz) (g1.keep (keep_of (s4.trans s5))))) ?_ ?_ ?_
    · have := g2.dep
      rw [depthM, depthM, depthL, depthL]
      omega
    · have := g2.siz
      rw [sizeM, sizeM, sizeL, sizeL, sizeM]
      omega
    · have := g2.wid
      have := g2.len
      rw [List.length_map] at this
      rw [widM, widM, widL, widL, List.length_cons, List.length_cons, List.length_map]
      omega
end
end K02

namespace K02
variable {G : Gb}
abbrev pairT (z : Int × M) : M := .tup [.int z.1, z.2]
theorem depth_pair (i : Int) (e : M) : depthM (.tup [.int i, e]) = 1 + depthM e := by
  rw [depthM, depthL, depthL, depthL, depthM]
  omega
theorem size_pair (i : Int) (e : M) : sizeM (.tup [.int i, e]) = 2 + sizeM e := by
  rw [sizeM, sizeL, sizeL, sizeL, sizeM]
  omega
theorem wid_pair (i : Int) (e : M) : widM (.tup [.int i, e]) = max 2 (widM e) := by
  rw [widM, widL, widL, widL, widM]
  show max 2 _ = _
  omega
/-- pairs at the heap -/
theorem pairs_at {K : PySem.W.Frag} {H : Hp} : ∀ {zs : List (Int × M)} {xs : List V}, AtAll K H xs (zs.map pairT) → ∃ ys : List ((Addr × V) × (Int × M)), xs = ys.map (fun y => V.ref y.1.1) ∧ zs = ys.map (·.2) ∧ ∀ y ∈ ys, SqT K H y.1.1 [.int y.2.1, y.1.2] ∧ At K H y.1.2 y.2.2
  | [], _, h => by
    cases h
    exact ⟨[], rfl, rfl, (fun _ h => nomatch h)⟩
  | z :: zs, _, h => by
    cases h with
    | @cons x xs _ _ g gs =>
      obtain ⟨ys, y1, y2, y3⟩ := pairs_at gs
      have g : At K H x (.tup [.int z.1, z.2]) := g
      cases g with
      | @tup a vs _ t1 tl t2 =>
      cases t2 with
      | cons g1 t2 =>
      cases t2 with
      | @cons ve _ _ _ g2 t2 =>
      cases t2
      cases g1
      refine ⟨((a, ve), z) :: ys, by rw [y1]; rfl, by rw [y2]; rfl, fun y hy => ?_⟩
      rcases List.mem_cons.mp hy with rfl | hy
      · exact ⟨t1, g2⟩
      · exact y3 y hy
section
variable {X : Cx} {H H0 : Hp} {Q : VK} {W : WX} {k n : Nat} {v : V} {m : M} {Fm : Hp → Hp → Prop}
theorem placeless_cases (b : Bi G.mg) (d : Fr X G nPlaceless (defScope (top 38)) k W) (F : FrmP Fm) (A : Fm H0 H) {j : Nat} (hj : j ≤ k) (IH : Fn G "_law_placeless" 1 j (spPlaceless n G.K)) {a c : M} {zs : List (Int × M)} (ea : Ex a) (ec : Ex c) (ez : ∀ z ∈ zs, Ex z.2)
    (hd : depthM (.tup [.str "cases", a, .tup (zs.map pairT), c]) < n + 1) (hw : widM (.tup [.str "cases", a, .tup (zs.map pairT), c]) ≤ 100) (hv : At G.K H0 v (.tup [.str "cases", a, .tup (zs.map pairT), c])) (q : PlQ G.K Fm H0 (.tup [.str "cases", a, .tup (zs.map pairT), c]) Q) :
    WB X (defBody (top 38)) { nx := fun _ H' => Q .non H', rt := Q } [some v, none, none, none] H := by
  have dd := d.toDef
  cases hv with
  | @tup ad xs _ h1 hl h2 =>
  cases h2 with
  | cons g1 h2 =>
  cases h2 with
  | @cons va _ _ _ g2_1 h2 =>
  cases h2 with
  | @cons vp _ _ _ g3 h2 =>
  cases h2 with
  | @cons vc _ _ _ g4 h2 =>
  cases h2
  cases g1
  cases g3 with
  | @tup pa pxs _ p1 pl p2 =>
  obtain ⟨ys, rfl, rfl, hy⟩ := pairs_at p2
  rw [List.length_map] at pl
  have h1' := (F.same A).tup h1
  have e1 : depthM (.tup [.str "cases", a, .tup ((ys.map (·.2)).map pairT), c]) = 1 + max (depthM a) (max (1 + depthL ((ys.map (·.2)).map pairT)) (depthM c)) := by
    rw [depthM, depthL, depthL, depthL, depthL, depthL, depthM, depthM]
    omega
  have e2 : sizeM (.tup [.str "cases", a, .tup ((ys.map (·.2)).map pairT), c]) = 3 + sizeM a + sizeL ((ys.map (·.2)).map pairT) + sizeM c := by
    rw [sizeM, sizeL, sizeL, sizeL, sizeL, sizeL, sizeM, sizeM]
    omega
  have e3 : widM (.tup [.str "cases", a, .tup ((ys.map (·.2)).map pairT), c]) = max 4 (max (widM a) (max (max ys.length (widL ((ys.map (·.2)).map pairT))) (widM c))) := by
    rw [widM, widL, widL, widL, widL, widL, widM, widM, List.length_map, List.length_map]
    show max 4 _ = _
    omega
  show WB X (_ :: _) _ _ _
  refine wb_cons ?_
  walk_at "wx"
  refine rx_tup dd h1' (atI_nat (j := 0) rfl) ?_
  walk_at "wx"
  rw [show decide (("cases" : Str) = "place") = false from by decide +kernel]
  refine ite_f ?_
  walk_at "wx"
  refine rx_tup dd h1' (atI_nat (j := 0) rfl) ?_
  walk_at "wx"
  rw [show decide (("cases" : Str) = "at") = false from by decide +kernel]
  refine ite_f ?_
  walk_at "wx"
  refine rx_tup dd h1' (atI_nat (j := 0) rfl) ?_
  walk_at "wx"
  rw [decide_eq_true rfl]
  refine ite_t ?_
  refine wb_cons ?_
  refine ws_lcT d 1 [("_law_number", 2), ("_law_part", 3)] (by rfl) (by decide +kernel) (by decide +kernel) (by intro _; rfl) (by rfl) (by decide +kernel) ?_
  walk_at "wE"
  walk_at "wn"
  walk_at "wE"
  refine rx_tup dd h1' (atI_nat (j := 2) rfl) ?_
  refine lcT_frm (zs := ys) (fun y : (Addr × V) × (Int × M) => V.ref y.1.1) (Fm := fun _ => Fm) (P := fun i acc Hz => ∃ ms', AtAll G.K Hz acc ms' ∧ Sm ms' ((ys.take i).map (fun y : (Addr × V) × (Int × M) => pairT y.2))) (fun _ => F) A p1 (by omega) (fun i acc Hx Hy ky ⟨ms', g1, g2⟩ => ⟨ms', g1.keep ky, g2⟩) ⟨[], .nil, sm_nil⟩ (fun i y acc Hx Hy hz sx Ax ⟨ms', g1, g2⟩ R hR => ?_) (fun L ls H3 H4 s3 A3 hL h3 ⟨ms', g1, g2⟩ => ?_)
  · have hm : y ∈ ys := List.mem_of_getElem? hz
    obtain ⟨t1, au⟩ := hy y hm
    have mm : pairT y.2 ∈ (ys.map (·.2)).map pairT := List.mem_map.mpr ⟨y.2, List.mem_map.mpr ⟨y, hm, rfl⟩, rfl⟩
    have hdu := depth_mem mm
    have hwu := wid_mem mm
    rw [depth_pair] at hdu
    rw [wid_pair] at hwu
    have et : (ys.take (i + 1)).map (fun y : (Addr × V) × (Int × M) => pairT y.2) = (ys.take i).map (fun y : (Addr × V) × (Int × M) => pairT y.2) ++ [pairT y.2] := by rw [take_succ hz, List.map_append]; rfl
    intro X' d'
    dsimp only [L2.wipe, List.map, List.set]
    refine wg_tup d' ((F.same Ax).tup (sx.tup t1)) (by rfl) (by rfl) ?_
    repeat walk_at "wG"
    refine ⟨rfl, fun X2 d2 => wts_nil (ite_t fun X3 d3 => ?_)⟩
    walk_at "wE"
    walk_at "wA"
    walk_at "wn"
    walk_at "wA"
    refine we_call d3 IH hj (by decide +kernel) (by rfl) (by rfl) ?_
    walk_at "wA"
    walk_at "wn"
    walk_at "wA"
    refine ⟨Fm, Hx, y.1.2, y.2.2, rfl, F, Ax, At.same sx _ _ au, ez _ (List.mem_map.mpr ⟨y, hm, rfl⟩), by omega, by omega, fun v' m' Hx' Hy' s4 A4 b1 b2 b3 b4 => ?_⟩
    walk_at "wA"
    refine ⟨by show 2 ≤ sizeLine; decide, fun p hp => ?_⟩
    have np := (F.same A4).free hp
    have s5 := same_new (o := .tup [.int y.2.1, v']) np
    refine hR (.ref p) _ _ (s4.trans s5) (F.laid A4 hp) ⟨ms' ++ [.tup [.int y.2.1, m']], (g1.keep (keep_of (s4.trans s5))).snoc (.tup (SqT.of upd_same) (by show 2 ≤ 1000; decide) (.cons (.int _) (.cons (At.same s5 _ _ b1) .nil))), ?_⟩
    rw [et]
    refine g2.snoc ?_ ?_ ?_
    · rw [depth_pair, depth_pair]
      omega
    · rw [size_pair, size_pair]
      omega
    · rw [wid_pair, wid_pair]
      omega
  · rw [List.take_length] at g2
    have eL : ys.map (fun y : (Addr × V) × (Int × M) => pairT y.2) = (ys.map (·.2)).map pairT := by rw [List.map_map]; rfl
    rw [eL] at g2
    have lls : ls.length = ys.length := by
      have := g1.len
      have := g2.len
      rw [List.length_map, List.length_map] at this
      omega
    refine wb_one (ws_ret ?_)
    dsimp only [List.set]
    walk_at "wE"
    walk_at "wA"
    walk_at "wE"
    walk_at "wA"
    refine we_call dd IH hj (by decide +kernel) (by rfl) (by rfl) ?_
    walk_at "wA"
    walk_at "wE"
    walk_at "wn"
    walk_at "wE"
    refine rx_tup dd ((F.same A3).tup (s3.tup h1)) (atI_nat (j := 1) rfl) ?_
    walk_at "wA"
    refine ⟨Fm, H3, va, a, rfl, F, A3, At.same s3 _ _ g2_1, ea, by omega, by omega, fun v1 m1 H5 H6 s5 A5 a1 a2 a3 a4 => ?_⟩
    walk_at "wA"
    walk_at "wE"
    walk_at "wA"
    walk_at "wn"
    walk_at "wA"
    refine rc_tupleL dd (SqL.of ((F.same A5) _ _ (s5 _ _ h3))) fun p3 hp3 => ?_
    have np3 := (F.same A5).free hp3
    have A6 := F.laid (o := .tup ls) A5 hp3
    have s6 := same_new (o := .tup ls) np3
    walk_at "wA"
    refine we_call dd IH hj (by decide +kernel) (by rfl) (by rfl) ?_
    walk_at "wA"
    walk_at "wE"
    walk_at "wn"
    walk_at "wE"
    have s36 := s3.trans (s5.trans s6)
    refine rx_tup dd ((F.same A6).tup (s36.tup h1)) (atI_nat (j := 3) rfl) ?_
    walk_at "wA"
    refine ⟨Fm, _, vc, c, rfl, F, A6, At.same s36 _ _ g4, ec, by omega, by omega, fun v2 m2 H7 H8 s7 A7 c1 c2 c3 c4 => ?_⟩
    walk_at "wA"
    refine ⟨by show 4 ≤ sizeLine; decide, fun p hp => ?_⟩
    have np := (F.same A7).free hp
    have s8 := same_new (o := .tup [.str "cases", v1, .ref p3, v2]) np
    refine q (.ref p) (.tup [.str "cases", m1, .tup ms', m2]) _ _ ((s36.trans s7).trans s8) (F.laid A7 hp) (.tup (SqT.of upd_same) (by show 4 ≤ 1000; decide) (.cons (.str _ (by decide +kernel)) (.cons (At.same ((s6.trans s7).trans s8) _ _ a1) (.cons (.tup ((s7.trans s8).tup (SqT.of upd_same)) (by omega) ((g1.keep (keep_of (((s5.trans s6).trans s7).trans s8))))) (.cons (At.same s8 _ _ c1) .nil))))) ?_ ?_ ?_
    · have := g2.dep
      rw [e1, depthM, depthL, depthL, depthL, depthL, depthL, depthM, depthM]
      omega
    · have := g2.siz
      rw [e2, sizeM, sizeL, sizeL, sizeL, sizeL, sizeL, sizeM, sizeM]
      omega
    · have := g2.wid
      have := g2.len
      rw [List.length_map, List.length_map] at this
      rw [e3, widM, widL, widL, widL, widL, widL, widM, widM]
      show max 4 _ ≤ _
      omega
end
theorem fn_placeless (b : Bi G.mg) (T : Top G "_law_placeless" (top 38) ["_law_tree"]) : ∀ n, Fn G "_law_placeless" 1 (n + 1) (spPlaceless n G.K)
  | 0 => by
    refine T.fn (N := nPlaceless) scPlaceless (fun vs H Q E h => ?_) (fun X vs H Q E d h => ?_)
    · obtain ⟨_, _, _, _, rfl, _⟩ := h
      rfl
    · obtain ⟨_, _, _, _, _, _, _, _, _, h, _⟩ := h
      omega
  | n + 1 => by
    have IH := fn_placeless b T n
    refine T.fn (N := nPlaceless) scPlaceless (fun vs H Q E h => ?_) (fun X vs H Q E d h => ?_)
    · obtain ⟨_, _, _, _, rfl, _⟩ := h
      rfl
    · obtain ⟨Fm, H0, v, m, rfl, F, A, hv, ex, hd, hw, q⟩ := h
      show WB X _ _ [some v, none, none, none] H
      cases ex with
      | place => exact placeless_place d F A hv q
      | «at» e hx hi => exact placeless_at d F A (Nat.le_refl _) IH e hd hw hx hi hv q
      | node n1 n2 n3 hms => exact placeless_node b d F A (Nat.le_refl _) IH n1 n2 n3 hms hd hw hv q
      | cases ea ec ez => exact placeless_cases b d F A (Nat.le_refl _) IH ea ec ez hd hw hv q
end K02

namespace K02
variable {G : Gb}
def eB : Nat → Nat
  | 0 => 0
  | n + 1 => 5 * eB n + 60
def eS : Nat → Nat
  | 0 => 0
  | n + 1 => 5 * eS n + 9
def okStr (z : Str) : Prop := z.cps.toList.length ≤ 1000 ∧ ∀ c ∈ z.cps.toList, c < 1114112
structure NamesAt (K : PySem.W.Frag) (H : Hp) (L : Addr) (ys : List Str) : Prop where
  at_ : SqL K H L (ys.map V.str)
  pos : 0 < ys.length
  few : ys.length ≤ 26
  ok : ∀ z ∈ ys, okStr z
theorem NamesAt.same {K : PySem.W.Frag} {H H' : Hp} {L : Addr} {ys : List Str} (h : NamesAt K H L ys) (s : Same H H') : NamesAt K H' L ys := ⟨s.seq h.at_, h.pos, h.few, h.ok⟩
/-- a drawn expression, n deep -/
structure Dr (n : Nat) (m : M) : Prop where
  ex : Ex m
  dep : depthM m ≤ 3 * n
  siz : sizeM m ≤ eS n
  wid : widM m ≤ 6
def spExprD (n : Nat) (K : PySem.W.Frag) : Sp := fun vs H Q _ => ∃ (H0 : Hp) (p L : Addr) (B : Nat) (ys : List Str), vs = [.ref p, .ref L, .int (n : Nat)] ∧ DrawAt H0 H p B ∧ B + eB n < 100000000 ∧ NamesAt K H0 L ys ∧ 1 ≤ n ∧ n ≤ 4 ∧
  ∀ (v : V) (m : M) (H0' H' : Hp), Same H0 H0' → At K H0' v m → Dr n m → DrawAt H0' H' p (B + eB n) → Q v H'
abbrev nExpr : List Str := ["_law_draw", "_law_names_here", "_law_deep", "_law_way", "_law_k", "_law_some", "_law_low", "_law_pairs"]
theorem scExpr : FnScope nExpr ["_law_draw", "_law_names_here", "_law_deep"] (defScope (top 37)) := ⟨rfl, rfl, rfl, by decide +kernel, rfl, by decide +kernel, by decide +kernel⟩
abbrev DrQ (K : PySem.W.Frag) (n : Nat) (p : Addr) (B : Nat) (H0 : Hp) (Q : VK) : Prop := ∀ (v : V) (m : M) (H0' H' : Hp), Same H0 H0' → At K H0' v m → Dr n m → DrawAt H0' H' p (B + eB n) → Q v H'
theorem eB_pos {n : Nat} (h : 1 ≤ n) : 60 ≤ eB n := by
  match n, h with
  | n + 1, _ => rw [eB]; omega
theorem eS_pos {n : Nat} (h : 1 ≤ n) : 9 ≤ eS n := by
  match n, h with
  | n + 1, _ => rw [eS]; omega
theorem eB_le {n : Nat} (h : n ≤ 4) : eB n ≤ 9360 := by
  match n, h with
  | 0, _ => decide
  | 1, _ => decide
  | 2, _ => decide
  | 3, _ => decide
  | 4, _ => decide
theorem eS_le {n : Nat} (h : n ≤ 4) : eS n ≤ 1404 := by
  match n, h with
  | 0, _ => decide
  | 1, _ => decide
  | 2, _ => decide
  | 3, _ => decide
  | 4, _ => decide
theorem at_num {K : PySem.W.Frag} {H : Hp} {z : Str} {i : Int} {p : Addr} (hz : okStr z) (h : SqT K H p [.str z, .int i]) : At K H (.ref p) (.tup [.str z, .int i]) := .tup h (by show 2 ≤ 1000; decide) (.cons (.str _ hz) (.cons (.int i) .nil))
theorem ok_words : ∀ z ∈ (["number", "name", "place", "item", "sum", "fewest", "most", "at", "not", "choose", "cases", "plus", "minus", "times", "least", "greatest", "less", "atmost", "same", "and", "or", "plus", "cell", "row", "settle", "input", "sheet"] : List Str), okStr z := by
  unfold okStr
  decide +kernel
section
variable {X : Cx} {H H0 : Hp} {Q : VK} {W : WX} {k n : Nat} {p L : Addr} {B : Nat} {ys : List Str}
/-- one of the drawn names -/
theorem pick_name {X : Cx} {N : List Str} {sc : Scope} {k : Nat} {σ : L2.St} (H0 : Hp) (B : Nat) (A : DrawAt H0 H p B) (hB : B < 700000000000) (hn : NamesAt G.K H0 L ys) (q : ∀ z H', z ∈ ys → DrawAt H0 H' p (B + 1) → Q (.str z) H') : spPick G.K [.ref p, .ref L] H Q E0 := by
  refine ⟨H0, p, L, B, ys.map V.str, rfl, A, by omega, hn.at_, by rw [List.length_map]; exact hn.pos, by rw [List.length_map]; have := hn.few; omega, fun i x H' hx A' => ?_⟩
  obtain ⟨z, hz, rfl⟩ := map_at hx
  exact q z H' (List.mem_of_getElem? hz) A'
theorem expr_leaf (d : Fr X G nExpr (defScope (top 37)) k W) (h4 : 4 ≤ k) (FT : Fn G "_law_take" 2 2 spTake) (FP : Fn G "_law_pick" 2 3 (spPick G.K)) (FA : Fn G "_law_any_number" 1 4 spAnyNum) (A : DrawAt H0 H p B) (hB : B < 200000000) (hn : NamesAt G.K H0 L ys) (h1 : 1 ≤ n) {w : Int} (w0 : 0 ≤ w)
    (q : ∀ (v : V) (m : M) (H0' H' : Hp), Same H0 H0' → At G.K H0' v m → Dr n m → DrawAt H0' H' p (B + 20) → Q v H') (next : ∀ rest, (defBody (top 37)).drop 5 = rest → 5 ≤ w → WB X rest { nx := fun _ H' => Q .non H', rt := Q } [some (.ref p), some (.ref L), some (.int (n : Nat)), some (.int w), none, none, none, none] H) :
    WB X ((defBody (top 37)).drop 1) { nx := fun _ H' => Q .non H', rt := Q } [some (.ref p), some (.ref L), some (.int (n : Nat)), some (.int w), none, none, none, none] H := by
  have dd := d.toDef
  have es := eS_pos h1
  show WB X (_ :: _) _ _ _
  refine wb_cons ?_
  walk_at "wx"
  by_cases c1 : w < 2
  · rw [decide_eq_true c1]
    refine ite_t ?_
    walk_at "wx"
    refine we_call dd FA h4 (by decide +kernel) (by rfl) (by rfl) ?_
    walk_at "wx"
    refine ⟨H0, p, B, rfl, A, by omega, fun i H1 i0 i1 A1 => ?_⟩
    walk_at "wA"
    refine ⟨by show 2 ≤ sizeLine; decide, fun r hr => ?_⟩
    have nr := A1.same.free hr
    refine q _ (.tup [.str "number", .int i]) _ _ (same_new nr) (at_num (ok_words _ (by decide +kernel)) (SqT.of upd_same)) ⟨.node (by decide +kernel) (by decide +kernel) (by decide +kernel) (fun m hm e => ?_), ?_, ?_, ?_⟩ ((A1.laid hr).mono (by omega))
    · rw [List.mem_singleton.mp hm] at e
      cases e
    all_goals (simp only [depthM, depthL, sizeM, sizeL, widM, widL, List.length_cons, List.length_nil]; omega)
  · rw [decide_eq_false c1]
    refine ite_f ?_
    walk_at "wx"
    by_cases c2 : w = 2
    · rw [decide_eq_true c2]
      refine ite_t ?_
      walk_at "wx"
      refine we_call dd FP (by omega) (by decide +kernel) (by rfl) (by rfl) ?_
      walk_at "wx"
      refine pick_name (X := X) (N := nExpr) (sc := defScope (top 37)) (k := k) (σ := []) H0 B A (by omega) hn fun z H1 hz A1 => ?_
      walk_at "wA"
      refine ⟨by show 2 ≤ sizeLine; decide, fun r hr => ?_⟩
      have nr := A1.same.free hr
      refine q _ (.tup [.str "name", .str z]) _ _ (same_new nr) (.tup (SqT.of upd_same) (by show 2 ≤ 1000; decide) (.cons (.str _ (ok_words _ (by decide +kernel))) (.cons (.str _ (hn.ok z hz)) .nil))) ⟨.node (by decide +kernel) (by decide +kernel) (by decide +kernel) (fun m hm e => ?_), ?_, ?_, ?_⟩ ((A1.laid hr).mono (by omega))
      · rw [List.mem_singleton.mp hm] at e
        cases e
      all_goals (simp only [depthM, depthL, sizeM, sizeL, widM, widL, List.length_cons, List.length_nil]; omega)
    · rw [decide_eq_false c2]
      refine ite_f ?_
      walk_at "wx"
      by_cases c3 : w = 3
      · rw [decide_eq_true c3]
        refine ite_t ?_
        walk_at "wx"
        refine we_call dd FP (by omega) (by decide +kernel) (by rfl) (by rfl) ?_
        walk_at "wx"
        refine ⟨by show 1 ≤ sizeLine; decide, fun r1 hr1 => ?_⟩
        have nr1 := A.same.free hr1
        have A1 := A.laid (o := .tup [.str "place"]) hr1
        have s1 := same_new (o := .tup [.str "place"]) nr1
        walk_at "wA"
        walk_at "wE"
        walk_at "wA"
        walk_at "wE"
        walk_at "wA"
        refine we_call dd FP (by omega) (by decide +kernel) (by rfl) (by rfl) ?_
        walk_at "wx"
        refine pick_name (X := X) (N := nExpr) (sc := defScope (top 37)) (k := k) (σ := []) _ B A1 (by omega) (hn.same s1) fun z H1 hz A2 => ?_
        walk_at "wx"
        refine we_call dd FT (by omega) (by decide +kernel) (by rfl) (by rfl) ?_
        walk_at "wx"
        refine ⟨_, p, B + 1, 9, rfl, A2, by omega, by decide, by decide, fun i H2 i0 i1 A3 => ?_⟩
        walk_at "wx"
        refine ⟨by show 3 ≤ sizeLine; decide, fun r2 hr2 => ?_⟩
        have nr2 := A3.same.free hr2
        have A4 := A3.laid (o := .tup [.str "item", .str z, .int (1 + i)]) hr2
        have s2 := same_new (o := .tup [.str "item", .str z, .int (1 + i)]) nr2
        walk_at "wA"
        refine ⟨by show 2 ≤ sizeLine; decide, fun r3 hr3 => ?_⟩
        have nr3 := A4.same.free hr3
        have A5 := A4.laid (o := .lst [.ref r1, .ref r2]) hr3
        have s3 := same_new (o := .lst [.ref r1, .ref r2]) nr3
        walk_at "wA"
        refine ⟨_, p, r3, B + 2, [.ref r1, .ref r2], rfl, A5, by omega, SqL.of upd_same, by show 0 < 2; decide, by show 2 < 1073741824; decide, fun j x H3 hx A6 => ?_⟩
        match j, hx with
        | 0, hx =>
          cases hx
          refine q _ (.tup [.str "place"]) _ _ ((s1.trans s2).trans s3) (.tup ((s2.trans s3).tup (SqT.of upd_same)) (by show 1 ≤ 1000; decide) (.cons (.str _ (ok_words _ (by decide +kernel))) .nil)) ⟨.place, ?_, ?_, ?_⟩ (A6.mono (by omega))
          all_goals (simp only [depthM, depthL, sizeM, sizeL, widM, widL, List.length_cons, List.length_nil]; omega)
        | 1, hx =>
          cases hx
          refine q _ (.tup [.str "item", .str z, .int (1 + i)]) _ _ ((s1.trans s2).trans s3) (.tup (s3.tup (SqT.of upd_same)) (by show 3 ≤ 1000; decide) (.cons (.str _ (ok_words _ (by decide +kernel))) (.cons (.str _ (hn.ok z hz)) (.cons (.int _) .nil)))) ⟨.node (by decide +kernel) (by decide +kernel) (by decide +kernel) (fun m hm e => ?_), ?_, ?_, ?_⟩ (A6.mono (by omega))
          · simp only [List.mem_cons, List.not_mem_nil, or_false] at hm
            rcases hm with rfl | rfl <;> cases e
          all_goals (simp only [depthM, depthL, sizeM, sizeL, widM, widL, List.length_cons, List.length_nil]; omega)
        | j + 2, hx => simp at hx
      · rw [decide_eq_false c3]
        refine ite_f ?_
        walk_at "wx"
        by_cases c4 : w = 4
        · rw [decide_eq_true c4]
          refine ite_t ?_
          walk_at "wx"
          refine we_call dd FP (by omega) (by decide +kernel) (by rfl) (by rfl) ?_
          walk_at "wx"
          refine ⟨by show 3 ≤ sizeLine; decide, fun r1 hr1 => ?_⟩
          have nr1 := A.same.free hr1
          have A1 := A.laid (o := .lst (threes.map V.str)) hr1
          have s1 := same_new (o := .lst (threes.map V.str)) nr1
          walk_at "wA"
          refine ⟨_, p, r1, B, threes.map V.str, rfl, A1, by omega, SqL.of upd_same, by show 0 < 3; decide, by show 3 < 1073741824; decide, fun j x H3 hx A2 => ?_⟩
          obtain ⟨z, hz, rfl⟩ := map_at hx
          have hzm := List.mem_of_getElem? hz
          walk_at "wA"
          refine we_call dd FP (by omega) (by decide +kernel) (by rfl) (by rfl) ?_
          walk_at "wx"
          refine pick_name (X := X) (N := nExpr) (sc := defScope (top 37)) (k := k) (σ := []) _ (B + 1) A2 (by omega) (hn.same s1) fun z2 H4 hz2 A3 => ?_
          walk_at "wA"
          refine ⟨by show 2 ≤ sizeLine; decide, fun r2 hr2 => ?_⟩
          have nr2 := A3.same.free hr2
          have s2 := same_new (o := .tup [.str z, .str z2]) nr2
          have hw3 : ∀ z ∈ threes, okStr z ∧ z ≠ "place" ∧ z ≠ "at" ∧ z ≠ "cases" := by
            unfold okStr
            decide +kernel
          obtain ⟨o1, o2, o3, o4⟩ := hw3 z hzm
          refine q _ (.tup [.str z, .str z2]) _ _ (s1.trans s2) (.tup (SqT.of upd_same) (by show 2 ≤ 1000; decide) (.cons (.str _ o1) (.cons (.str _ (hn.ok z2 hz2)) .nil))) ⟨.node o2 o3 o4 (fun m hm e => ?_), ?_, ?_, ?_⟩ ((A3.laid hr2).mono (by omega))
          · rw [List.mem_singleton.mp hm] at e
            cases e
          all_goals (simp only [depthM, depthL, sizeM, sizeL, widM, widL, List.length_cons, List.length_nil]; omega)
        · rw [decide_eq_false c4]
          refine ite_f ?_
          walk_at "wS"
          exact next _ (by kernel_rfl) (by omega)
end
end K02

namespace K02
variable {G : Gb}
abbrev tens : List Str := ["plus", "minus", "times", "least", "greatest", "less", "atmost", "same", "and", "or"]
theorem two_of {K : PySem.W.Frag} {H : Hp} {xs : List V} {ms : List M} (h : AtAll K H xs ms) (e : ms.length = 2) : ∃ v0 v1 m0 m1, xs = [v0, v1] ∧ ms = [m0, m1] ∧ At K H v0 m0 ∧ At K H v1 m1 := by
  match ms, e with
  | [m0, m1], _ =>
    cases h with
    | @cons v0 _ _ _ g1 h =>
    cases h with
    | @cons v1 _ _ _ g2 h =>
    cases h
    exact ⟨v0, v1, m0, m1, rfl, rfl, g1, g2⟩
theorem pairs_bd {n : Nat} : ∀ {zs : List (Int × M)}, (∀ z ∈ zs, Dr n z.2) → depthL (zs.map pairT) ≤ 1 + 3 * n ∧ sizeL (zs.map pairT) ≤ zs.length * (2 + eS n) ∧ widL (zs.map pairT) ≤ 6
  | [], _ => ⟨by rw [List.map_nil, depthL]; omega, by rw [List.map_nil, sizeL]; omega, by rw [List.map_nil, widL]; omega⟩
  | z :: zs, h => by
    obtain ⟨h1, h2, h3⟩ := pairs_bd fun y hy => h y (List.mem_cons_of_mem _ hy)
    obtain ⟨_, e1, e2, e3⟩ := h z List.mem_cons_self
    rw [List.map_cons, depthL, sizeL, widL, depth_pair, size_pair, wid_pair, List.length_cons, Nat.add_mul, Nat.one_mul]
    omega
section
variable {X : Cx} {H H0 : Hp} {Q : VK} {W : WX} {k n : Nat} {p L : Addr} {B : Nat} {ys : List Str}
theorem expr_cases (b : Bi G.mg) (d : Fr X G nExpr (defScope (top 37)) k W) (h4 : 4 ≤ k) (FT : Fn G "_law_take" 2 2 spTake) (FP : Fn G "_law_pick" 2 3 (spPick G.K)) (FA : Fn G "_law_any_number" 1 4 spAnyNum) {j : Nat} (hj : j ≤ k) (IH : Fn G "_law_any_expression" 3 j (spExprD n G.K))
    (A : DrawAt H0 H p (B + 2 * eB n)) (hB : B + 5 * eB n + 50 < 100000000) (hn : NamesAt G.K H0 L ys) (h1 : 1 ≤ n) (hn4 : n + 1 ≤ 4) {Ls : Addr} {v0 v1 : V} {m0 m1 : M} (hs : H0 Ls = some (.lst [v0, v1])) (a0 : At G.K H0 v0 m0) (a1 : At G.K H0 v1 m1) (d0 : Dr n m0) (d1 : Dr n m1) {x4 : Option V}
    (q : ∀ (v : V) (m : M) (H0' H' : Hp), Same H0 H0' → At G.K H0' v m → Dr (n + 1) m → DrawAt H0' H' p (B + 5 * eB n + 50) → Q v H') {NX : L2.St → Hp → Prop} {rest : List Stmt} (hr : (match (defBody (top 37)).getD 9 (.Pass ⟨0, 0, 0, 0⟩) with
      | .If _ t _ _ => t
      | _ => []) = rest) :
    WB X rest { nx := NX, rt := Q } [some (.ref p), some (.ref L), some (.int ((n + 1 : Nat) : Int)), some (.int 8), x4, some (.ref Ls), none, none] H := by
  have dd := d.toDef
  subst hr
  show WB X (_ :: _) _ _ _
  have ebl := eB_le (n := n) (by omega)
  have eb1 : eB (n + 1) = 5 * eB n + 60 := rfl
  refine wb_cons ?_
  refine ws_par2 d 6 7 rfl rfl (by decide) (by decide +kernel) (by decide +kernel) (by intro _; rfl) (by rfl) ?_ (by rfl) (by rfl)
  walk_at "wx"
  refine we_call dd FA h4 (by decide +kernel) (by rfl) (by rfl) ?_
  walk_at "wx"
  refine ⟨H0, p, B + 2 * eB n, rfl, A, by omega, fun i0 H1 _ _ A1 => ?_⟩
  walk_at "wx"
  refine ro_fdiv (by decide) ?_
  walk_at "wx"
  refine ⟨by decide, fun Lp hLp => ?_⟩
  have nLp : H0 Lp = none := A1.same.free hLp
  have A2 := A1.laid (o := .lst []) hLp
  refine wb_cons ?_
  refine ws_forR d (by decide +kernel) b.b_range (by rfl) (by intro _; rfl) ?_
  walk_at "wx"
  refine we_call dd FT (by omega) (by decide +kernel) (by rfl) (by rfl) ?_
  walk_at "wx"
  refine ⟨_, p, B + 2 * eB n + 2, 3, rfl, A2, by omega, by decide, by decide, fun r H2 r0 r1 A3 => ?_⟩
  walk_at "wx"
  refine ⟨by omega, by omega, fun i σ H' => ∃ (Hb : Hp) (acc : List V) (zs : List (Int × M)) (low : Int) (y4 : Option V), Same H0 Hb ∧ DrawAt Hb H' p (B + 2 * eB n + 3 + i * (eB n + 2)) ∧ Hb Lp = some (.lst acc) ∧ AtAll G.K Hb acc (zs.map pairT) ∧ zs.length = i ∧ (∀ z ∈ zs, Dr n z.2) ∧ σ = [some (.ref p), some (.ref L), some (.int ((n + 1 : Nat) : Int)), some (.int 8), y4, some (.ref Ls), some (.int low), some (.ref Lp)], ⟨_, [], [], _, _, same_new nLp, A3.mono (by omega), upd_same, .nil, rfl, (fun _ h => nomatch h), rfl⟩, ?_, ?_⟩
  · rintro i σ H' hi ⟨Hb, acc, zs, low, y4, sb, Ab, hL, hz, hlz, hdz, rfl⟩
    have hib : i * (eB n + 2) ≤ 2 * (eB n + 2) := Nat.mul_le_mul_right _ (by omega)
    walk_at "wg"
    refine wb_cons ?_
    walk_at "wx"
    refine we_call dd FP (by omega) (by decide +kernel) (by rfl) (by rfl) ?_
    walk_at "wx"
    refine we_call dd FT (by omega) (by decide +kernel) (by rfl) (by rfl) ?_
    walk_at "wx"
    refine ⟨Hb, p, _, 100, rfl, Ab, by omega, by decide, by decide, fun r2 H3 _ _ A4 => ?_⟩
    walk_at "wx"
    refine ⟨by show 4 ≤ sizeLine; decide, fun q1 hq1 => ?_⟩
    have nq1 := A4.same.free hq1
    have A5 := A4.laid (o := .lst (([0, 0, 1, r2] : List Int).map V.int)) hq1
    walk_at "wA"
    refine ⟨_, p, q1, _, ([0, 0, 1, r2] : List Int).map V.int, rfl, A5, by omega, SqL.of upd_same, by show 0 < 4; decide, by show 4 < 1073741824; decide, fun j2 x H4 hx A6 => ?_⟩
    obtain ⟨i2, hi2, rfl⟩ := map_at hx
    have A7 := A6.less (same_new nq1)
    walk_at "wx"
    refine we_bm dd PySem.F.plainAttrs_list PySem.F.slot_list_append PySem.F.type_list_append (by rfl) (by rfl) (by rfl) (by rfl) (by rfl) ?_
    walk_at "wx"
    refine ⟨ty_list (A7.same _ _ hL), ?_⟩
    walk_at "wA"
    walk_at "wE"
    walk_at "wA"
    walk_at "wn"
    walk_at "wA"
    refine we_call dd IH hj (by decide +kernel) (by rfl) (by rfl) ?_
    walk_at "wx"
    refine ⟨Hb, p, L, _, ys, by rw [show (((n + 1 : Nat) : Int) - 1) = (n : Int) from by omega], A7, by omega, hn.same sb, h1, by omega, fun v m Hx' Hy' s4 b1 b2 A8 => ?_⟩
    walk_at "wA"
    refine ⟨by show 2 ≤ sizeLine; decide, fun q2 hq2 => ?_⟩
    have nq2 := A8.same.free hq2
    have A9 := A8.laid (o := .tup [.int (low + 1 + i2), v]) hq2
    have s5 := same_new (o := .tup [.int (low + 1 + i2), v]) nq2
    have hL2 := (s4.trans s5) _ _ hL
    have hacc : acc.length = i := by
      have := hz.len
      rw [List.length_map] at this
      omega
    walk_at "wA"
    refine rm_append (A9.same _ _ hL2) (len_lt (by omega)) ?_
    have A10 := A9.put (o' := .lst (acc ++ [.ref q2])) hL2
    walk_at "wx"
    refine ⟨_, acc ++ [.ref q2], zs ++ [(low + 1 + i2, m)], _, _, ((sb.trans s4).trans s5) |> (fun z => same_upd z nLp), A10.mono (by rw [Nat.add_mul, Nat.one_mul]; omega), upd_same, ?_, by rw [List.length_append, hlz]; rfl, fun z hz2 => ?_, rfl⟩
    · rw [List.map_append]
      refine AtAll.keep (keep_put hL2) ((hz.keep (keep_of (s4.trans s5))).snoc ?_)
      exact .tup (SqT.of upd_same) (by show 2 ≤ 1000; decide) (.cons (.int _) (.cons (At.same s5 _ _ b1) .nil))
    · rcases List.mem_append.mp hz2 with h | h
      · exact hdz z h
      · rw [List.mem_singleton.mp h]
        exact b2
  · rintro σ H' ⟨Hb, acc, zs, low, y4, sb, Ab, hL, hz, hlz, hdz, rfl⟩
    have hn3 : (1 + r).toNat ≤ 3 := by omega
    have hib : (1 + r).toNat * (eB n + 2) ≤ 3 * (eB n + 2) := Nat.mul_le_mul_right _ hn3
    have hacc : acc.length = zs.length := by
      have := hz.len
      rw [List.length_map] at this
      exact this
    refine wb_one (ws_ret ?_)
    walk_at "wE"
    walk_at "wA"
    walk_at "wE"
    walk_at "wA"
    walk_at "wE"
    walk_at "wn"
    walk_at "wE"
    refine rx_list dd (SqL.of (Ab.same _ _ (sb _ _ hs))) (atI_nat (j := 0) rfl) ?_
    walk_at "wA"
    walk_at "wE"
    walk_at "wA"
    walk_at "wn"
    walk_at "wA"
    refine rc_tupleL dd (SqL.of (Ab.same _ _ hL)) fun q3 hq3 => ?_
    have nq3 := Ab.same.free hq3
    have A4 := Ab.laid (o := .tup acc) hq3
    have s4 := same_new (o := .tup acc) nq3
    walk_at "wA"
    walk_at "wE"
    walk_at "wn"
    walk_at "wE"
    refine rx_list dd (SqL.of (A4.same _ _ (s4 _ _ (sb _ _ hs)))) (atI_nat (j := 1) rfl) ?_
    walk_at "wA"
    refine ⟨by show 4 ≤ sizeLine; decide, fun q4 hq4 => ?_⟩
    have nq4 := A4.same.free hq4
    have s5 := same_new (o := .tup [.str "cases", v0, .ref q3, v1]) nq4
    obtain ⟨p1, p2, p3⟩ := pairs_bd hdz
    have hm : zs.length * (2 + eS n) ≤ 3 * (2 + eS n) := Nat.mul_le_mul_right _ (by omega)
    refine q _ (.tup [.str "cases", m0, .tup (zs.map pairT), m1]) _ _ ((sb.trans s4).trans s5) (.tup (SqT.of upd_same) (by show 4 ≤ 1000; decide) (.cons (.str _ (ok_words _ (by decide +kernel))) (.cons (At.same ((sb.trans s4).trans s5) _ _ a0) (.cons (.tup (s5.tup (SqT.of upd_same)) (by omega) (hz.keep (keep_of (s4.trans s5)))) (.cons (At.same ((sb.trans s4).trans s5) _ _ a1) .nil))))) ⟨.cases d0.ex d1.ex (fun z hz2 => (hdz z hz2).ex), ?_, ?_, ?_⟩ ((A4.laid hq4).mono (by omega))
    · have := d0.dep
      have := d1.dep
      simp only [depthM, depthL]
      omega
    · have := d0.siz
      have := d1.siz
      simp only [sizeM, sizeL]
      rw [eS]
      omega
    · have := d0.wid
      have := d1.wid
      simp only [widM, widL, List.length_cons, List.length_nil, List.length_map]
      omega
theorem expr_node (b : Bi G.mg) (d : Fr X G nExpr (defScope (top 37)) k W) (h4 : 4 ≤ k) (FT : Fn G "_law_take" 2 2 spTake) (FP : Fn G "_law_pick" 2 3 (spPick G.K)) (FA : Fn G "_law_any_number" 1 4 spAnyNum) {j : Nat} (hj : j ≤ k) (IH : Fn G "_law_any_expression" 3 j (spExprD n G.K))
    (A : DrawAt H0 H p B) (hB : B + 5 * eB n + 50 < 100000000) (hn : NamesAt G.K H0 L ys) (h1 : 1 ≤ n) (hn4 : n + 1 ≤ 4) {w : Int} (w0 : 5 ≤ w) (w1 : w < 13) (q : ∀ (v : V) (m : M) (H0' H' : Hp), Same H0 H0' → At G.K H0' v m → Dr (n + 1) m → DrawAt H0' H' p (B + 5 * eB n + 50) → Q v H')
    {rest : List Stmt} (hr : (defBody (top 37)).drop 5 = rest) : WB X rest { nx := fun _ H' => Q .non H', rt := Q } [some (.ref p), some (.ref L), some (.int ((n + 1 : Nat) : Int)), some (.int w), none, none, none, none] H := by
  have dd := d.toDef
  subst hr
  have ebl := eB_le (n := n) (by omega)
  have eb1 : eB (n + 1) = 5 * eB n + 60 := rfl
  show WB X (_ :: _) _ _ _
  refine wb_cons ?_
  refine ws_lcR d 5 [("_law_k", 4)] (by rfl) (by decide +kernel) (by decide +kernel) (by decide +kernel) b.b_range (by intro _; rfl) (by rfl) (by rfl) (by decide +kernel) ?_
  walk_at "wE"
  refine lcR_frm (n := 2) (j := 2) (Fm := fun i Hx Hy => DrawAt Hx Hy p (B + i * eB n)) (P := fun i acc Hz => ∃ ms, AtAll G.K Hz acc ms ∧ ms.length = i ∧ ∀ m ∈ ms, Dr n m) (fun _ => frmp_draw) (A.mono (by omega)) (by decide) (by decide) (by decide) (fun i acc Hx Hy ky ⟨ms', g1, g2⟩ => ⟨ms', g1.keep ky, g2⟩) ⟨[], .nil, rfl, (fun _ h => nomatch h)⟩ (fun i acc Ha Hc hi sx Ax ⟨ms, g1, g2, g3⟩ R hR => ?_) (fun Ls ls H3 H4 s3 A3 hL h3 ⟨ms, g1, g2, g3⟩ => ?_)
  · intro X' d'
    dsimp only [L2.wipe, List.map, List.set]
    walk_at "wg"
    refine ⟨rfl, fun X2 d2 => wts_nil (ite_t fun X3 d3 => ?_)⟩
    walk_at "wx"
    refine we_call d3 IH hj (by decide +kernel) (by rfl) (by rfl) ?_
    walk_at "wx"
    have hib : i * eB n ≤ 2 * eB n := Nat.mul_le_mul_right _ (by omega)
    refine ⟨Ha, p, L, B + i * eB n, ys, by rw [show (((n + 1 : Nat) : Int) - 1) = (n : Int) from by omega], Ax, by omega, hn.same sx, h1, by omega, fun v m Hx' Hy' s4 b1 b2 A4 => ?_⟩
    refine hR v Hx' Hy' s4 (A4.mono (by rw [Nat.add_mul, Nat.one_mul]; omega)) ⟨ms ++ [m], (g1.keep (keep_of s4)).snoc b1, by rw [List.length_append, g2]; rfl, fun m' hm' => ?_⟩
    rcases List.mem_append.mp hm' with h | h
    · exact g3 m' h
    · rw [List.mem_singleton.mp h]
      exact b2
  · obtain ⟨v0, v1, m0, m1, rfl, rfl, a0, a1⟩ := two_of g1 g2
    have d0 := g3 m0 (by simp)
    have d1 := g3 m1 (by simp)
    have hn3 := hn.same s3
    have hs3 := A3.same _ _ h3
    refine wb_cons ?_
    dsimp only [List.set]
    walk_at "wx"
    have A3 : DrawAt H3 H4 p (B + 2 * eB n) := A3
    by_cases c5 : w = 5
    · rw [decide_eq_true c5]
      refine ite_t ?_
      walk_at "wx"
      refine we_call dd FP (by omega) (by decide +kernel) (by rfl) (by rfl) ?_
      walk_at "wx"
      refine pick_name (X := X) (N := nExpr) (sc := defScope (top 37)) (k := k) (σ := []) _ _ A3 (by omega) hn3 fun z H5 hz A4 => ?_
      walk_at "wA"
      refine we_call dd FA h4 (by decide +kernel) (by rfl) (by rfl) ?_
      walk_at "wx"
      refine ⟨_, p, _, rfl, A4, by omega, fun i2 H6 _ _ A5 => ?_⟩
      walk_at "wx"
      refine rx_list dd (SqL.of (A5.same _ _ h3)) (atI_nat (j := 0) rfl) ?_
      walk_at "wA"
      refine ⟨by show 4 ≤ sizeLine; decide, fun q4 hq4 => ?_⟩
      have nq4 := A5.same.free hq4
      have s5 := same_new (o := .tup [.str "at", .str z, .int i2, v0]) nq4
      refine q _ (.tup [.str "at", .str z, .int i2, m0]) _ _ (s3.trans s5) (.tup (SqT.of upd_same) (by show 4 ≤ 1000; decide) (.cons (.str _ (ok_words _ (by decide +kernel))) (.cons (.str _ (hn.ok z hz)) (.cons (.int _) (.cons (At.same s5 _ _ a0) .nil))))) ⟨.at d0.ex rfl rfl, ?_, ?_, ?_⟩ ((A5.laid hq4).mono (by omega))
      · have := d0.dep
        simp only [depthM, depthL]
        omega
      · have := d0.siz
        simp only [sizeM, sizeL]
        rw [eS]
        omega
      · have := d0.wid
        simp only [widM, widL, List.length_cons, List.length_nil]
        omega
    · rw [decide_eq_false c5]
      refine ite_f ?_
      walk_at "wx"
      by_cases c6 : w = 6
      · rw [decide_eq_true c6]
        refine ite_t ?_
        walk_at "wx"
        refine rx_list dd (SqL.of hs3) (atI_nat (j := 0) rfl) ?_
        walk_at "wA"
        refine ⟨by show 2 ≤ sizeLine; decide, fun q4 hq4 => ?_⟩
        have nq4 := A3.same.free hq4
        have s5 := same_new (o := .tup [.str "not", v0]) nq4
        refine q _ (.tup [.str "not", m0]) _ _ (s3.trans s5) (.tup (SqT.of upd_same) (by show 2 ≤ 1000; decide) (.cons (.str _ (ok_words _ (by decide +kernel))) (.cons (At.same s5 _ _ a0) .nil))) ⟨.node (by decide +kernel) (by decide +kernel) (by decide +kernel) (fun m hm e => ?_), ?_, ?_, ?_⟩ ((A3.laid hq4).mono (by omega))
        · rw [List.mem_singleton.mp hm]
          exact d0.ex
        · have := d0.dep
          simp only [depthM, depthL]
          omega
        · have := d0.siz
          simp only [sizeM, sizeL]
          rw [eS]
          omega
        · have := d0.wid
          simp only [widM, widL, List.length_cons, List.length_nil]
          omega
      · rw [decide_eq_false c6]
        refine ite_f ?_
        walk_at "wx"
        by_cases c7 : w = 7
        · rw [decide_eq_true c7]
          refine ite_t ?_
          walk_at "wx"
          refine rx_list dd (SqL.of hs3) (atI_nat (j := 0) rfl) ?_
          walk_at "wx"
          refine rx_list dd (SqL.of hs3) (atI_nat (j := 1) rfl) ?_
          walk_at "wA"
          refine we_call dd IH hj (by decide +kernel) (by rfl) (by rfl) ?_
          walk_at "wx"
          refine ⟨H3, p, L, _, ys, by rw [show (((n + 1 : Nat) : Int) - 1) = (n : Int) from by omega], A3, by omega, hn3, h1, by omega, fun v m Hx' Hy' s4 b1 b2 A4 => ?_⟩
          walk_at "wA"
          refine ⟨by show 4 ≤ sizeLine; decide, fun q4 hq4 => ?_⟩
          have nq4 := A4.same.free hq4
          have s5 := same_new (o := .tup [.str "choose", v0, v1, v]) nq4
          refine q _ (.tup [.str "choose", m0, m1, m]) _ _ ((s3.trans s4).trans s5) (.tup (SqT.of upd_same) (by show 4 ≤ 1000; decide) (.cons (.str _ (ok_words _ (by decide +kernel))) (.cons (At.same (s4.trans s5) _ _ a0) (.cons (At.same (s4.trans s5) _ _ a1) (.cons (At.same s5 _ _ b1) .nil))))) ⟨.node (by decide +kernel) (by decide +kernel) (by decide +kernel) (fun mm hm e => ?_), ?_, ?_, ?_⟩ ((A4.laid hq4).mono (by omega))
          · simp only [List.mem_cons, List.not_mem_nil, or_false] at hm
            rcases hm with rfl | rfl | rfl
            · exact d0.ex
            · exact d1.ex
            · exact b2.ex
          · have := d0.dep
            have := d1.dep
            have := b2.dep
            simp only [depthM, depthL]
            omega
          · have := d0.siz
            have := d1.siz
            have := b2.siz
            simp only [sizeM, sizeL]
            rw [eS]
            omega
          · have := d0.wid
            have := d1.wid
            have := b2.wid
            simp only [widM, widL, List.length_cons, List.length_nil]
            omega
        · rw [decide_eq_false c7]
          refine ite_f ?_
          walk_at "wx"
          by_cases c8 : w = 8
          · rw [decide_eq_true c8]
            subst c8
            refine ite_t ?_
            exact expr_cases b d h4 FT FP FA hj IH A3 hB hn3 h1 hn4 h3 a0 a1 d0 d1 (fun v m Hx Hy sx b1 b2 A4 => q v m Hx Hy (s3.trans sx) b1 b2 (A4.mono (by omega))) (by kernel_rfl)
          · rw [decide_eq_false c8]
            refine ite_f ?_
            walk_at "wx"
            refine we_call dd FP (by omega) (by decide +kernel) (by rfl) (by rfl) ?_
            walk_at "wx"
            refine ⟨by show 10 ≤ sizeLine; decide, fun r1 hr1 => ?_⟩
            have nr1 := A3.same.free hr1
            have A4 := A3.laid (o := .lst (tens.map V.str)) hr1
            have s4 := same_new (o := .lst (tens.map V.str)) nr1
            walk_at "wA"
            refine ⟨_, p, r1, _, tens.map V.str, rfl, A4, by omega, SqL.of upd_same, by show 0 < 10; decide, by show 10 < 1073741824; decide, fun j x H5 hx A5 => ?_⟩
            obtain ⟨z, hz, rfl⟩ := map_at hx
            have hzm := List.mem_of_getElem? hz
            walk_at "wx"
            refine rx_list dd (SqL.of (A5.same _ _ (s4 _ _ h3))) (atI_nat (j := 0) rfl) ?_
            walk_at "wx"
            refine rx_list dd (SqL.of (A5.same _ _ (s4 _ _ h3))) (atI_nat (j := 1) rfl) ?_
            walk_at "wA"
            refine ⟨by show 3 ≤ sizeLine; decide, fun q4 hq4 => ?_⟩
            have nq4 := A5.same.free hq4
            have s5 := same_new (o := .tup [.str z, v0, v1]) nq4
            have hw3 : ∀ z ∈ tens, okStr z ∧ z ≠ "place" ∧ z ≠ "at" ∧ z ≠ "cases" := by
              unfold okStr
              decide +kernel
            obtain ⟨o1, o2, o3, o4⟩ := hw3 z hzm
            refine q _ (.tup [.str z, m0, m1]) _ _ ((s3.trans s4).trans s5) (.tup (SqT.of upd_same) (by show 3 ≤ 1000; decide) (.cons (.str _ o1) (.cons (At.same (s4.trans s5) _ _ a0) (.cons (At.same (s4.trans s5) _ _ a1) .nil)))) ⟨.node o2 o3 o4 (fun mm hm e => ?_), ?_, ?_, ?_⟩ ((A5.laid hq4).mono (by omega))
            · simp only [List.mem_cons, List.not_mem_nil, or_false] at hm
              rcases hm with rfl | rfl
              · exact d0.ex
              · exact d1.ex
            · have := d0.dep
              have := d1.dep
              simp only [depthM, depthL]
              omega
            · have := d0.siz
              have := d1.siz
              simp only [sizeM, sizeL]
              rw [eS]
              omega
            · have := d0.wid
              have := d1.wid
              simp only [widM, widL, List.length_cons, List.length_nil]
              omega
end
theorem fn_expr' (b : Bi G.mg) (FT : Fn G "_law_take" 2 2 spTake) (FP : Fn G "_law_pick" 2 3 (spPick G.K)) (FA : Fn G "_law_any_number" 1 4 spAnyNum) (T : Top G "_law_any_expression" (top 37) ["_law_draw", "_law_names_here", "_law_deep"]) : ∀ n, Fn G "_law_any_expression" 3 (5 + n) (spExprD n G.K)
  | 0 => by
    refine T.fn (k := 4) (N := nExpr) scExpr (fun vs H Q E h => ?_) (fun X vs H Q E d h => ?_)
    · obtain ⟨_, _, _, _, _, rfl, _⟩ := h
      rfl
    · obtain ⟨_, _, _, _, _, _, _, _, _, h, _⟩ := h
      omega
  | n + 1 => by
    have IH := fn_expr' b FT FP FA T n
    refine T.fn (k := 5 + n) (N := nExpr) scExpr (fun vs H Q E h => ?_) (fun X vs H Q E d h => ?_)
    · obtain ⟨_, _, _, _, _, rfl, _⟩ := h
      rfl
    · have dd := d.toDef
      obtain ⟨H0, p, L, B, ys, rfl, A, hB, hn, h1, h4, q⟩ := h
      have ebl := eB_le h4
      have eb1 : eB (n + 1) = 5 * eB n + 60 := rfl
      show WB X _ _ [some (.ref p), some (.ref L), some (.int ((n + 1 : Nat) : Int)), none, none, none, none, none] H
      refine wb_cons ?_
      walk_at "wx"
      by_cases hn1 : n = 0
      · rw [decide_eq_false (by omega)]
        refine ite_f ?_
        refine we_call dd FT (by omega) (by decide +kernel) (by rfl) (by rfl) ?_
        walk_at "wx"
        refine ⟨H0, p, B, 5, rfl, A, by omega, by decide, by decide, fun w H1 w0 w1 A1 => ?_⟩
        exact expr_leaf d (by omega) FT FP FA A1 (by omega) hn h1 w0 (fun v m Hx Hy sx b1 b2 A4 => q v m Hx Hy sx b1 b2 (A4.mono (by omega))) (fun rest hr h5 => by omega)
      · rw [decide_eq_true (by omega)]
        refine ite_t ?_
        refine we_call dd FT (by omega) (by decide +kernel) (by rfl) (by rfl) ?_
        walk_at "wx"
        refine ⟨H0, p, B, 13, rfl, A, by omega, by decide, by decide, fun w H1 w0 w1 A1 => ?_⟩
        refine expr_leaf d (by omega) FT FP FA A1 (by omega) hn h1 w0 (fun v m Hx Hy sx b1 b2 A4 => q v m Hx Hy sx b1 b2 (A4.mono (by omega))) (fun rest hr h5 => ?_)
        exact expr_node b d (by omega) FT FP FA (by omega) IH (A1.mono (Nat.le_refl _)) (by omega) hn (by omega) h4 h5 w1 (fun v m Hx Hy sx b1 b2 A4 => q v m Hx Hy sx b1 b2 (A4.mono (by omega))) hr
end K02

namespace K02
variable {G : Gb}
structure Bd (d s w : Nat) (m : M) : Prop where
  dep : depthM m ≤ d
  siz : sizeM m ≤ s
  wid : widM m ≤ w
def headM (m : M) : Prop := ∃ w ms, m = .tup (.str w :: ms)
def spAnyCell (K : PySem.W.Frag) : Sp := fun vs H Q _ => ∃ (H0 : Hp) (p L : Addr) (B : Nat) (ys : List Str) (z : Str), vs = [.ref p, .ref L, .int 3, .str z] ∧ DrawAt H0 H p B ∧ B < 90000000 ∧ NamesAt K H0 L ys ∧
  ∀ (v : V) (m : M) (H0' H' : Hp), Same H0 H0' → At K H0' v m → Bd 10 700 6 m → headM m → DrawAt H0' H' p (B + 3000) → Q v H'
abbrev nCell : List Str := ["_law_draw", "_law_names_here", "_law_deep", "_law_word", "_law_name", "_law_tree", "_law_low"]
theorem scCell : FnScope nCell ["_law_draw", "_law_names_here", "_law_deep", "_law_word"] (defScope (top 39)) := ⟨rfl, rfl, rfl, by decide +kernel, rfl, by decide +kernel, by decide +kernel⟩
theorem fn_any_cell (FT : Fn G "_law_take" 2 2 spTake) (FP : Fn G "_law_pick" 2 3 (spPick G.K)) (FE3 : Fn G "_law_any_expression" 3 8 (spExprD 3 G.K)) (FE2 : Fn G "_law_any_expression" 3 7 (spExprD 2 G.K)) (FL : Fn G "_law_placeless" 1 13 (spPlaceless 12 G.K))
    (T : Top G "_law_any_cell" (top 39) ["_law_draw", "_law_names_here", "_law_deep", "_law_word"]) : Fn G "_law_any_cell" 4 14 (spAnyCell G.K) := by
  refine T.fn (k := 13) (N := nCell) scCell (fun vs H Q E h => ?_) (fun X vs H Q E d h => ?_)
  · obtain ⟨_, _, _, _, _, _, rfl, _⟩ := h
    rfl
  · have dd := d.toDef
    obtain ⟨H0, p, L, B, ys, z, rfl, A, hB, hn, q⟩ := h
    have e3 : eB 3 = 1860 := rfl
    have e2 : eB 2 = 360 := rfl
    have s3 : eS 3 = 279 := rfl
    have s2 : eS 2 = 54 := rfl
    show WB X _ _ [some (.ref p), some (.ref L), some (.int 3), some (.str z), none, none, none] H
    refine wb_cons ?_
    refine ws_par2 d 4 5 rfl rfl (by decide) (by decide +kernel) (by decide +kernel) (by intro _; rfl) (by rfl) ?_ (by rfl) (by rfl)
    walk_at "wx"
    refine we_call dd FP (by decide) (by decide +kernel) (by rfl) (by rfl) ?_
    walk_at "wx"
    refine pick_name (X := X) (N := nCell) (sc := defScope (top 39)) (k := 13) (σ := []) H0 B A (by omega) hn fun y H1 hy A1 => ?_
    refine we_call dd FE3 (by decide) (by decide +kernel) (by rfl) (by rfl) ?_
    walk_at "wx"
    refine ⟨H0, p, L, B + 1, ys, rfl, A1, by omega, hn, by decide, by decide, fun v m Ha Hb sa a1 a2 A2 => ?_⟩
    have okw := ok_words
    dsimp only [List.set]
    refine wb_cons ?_
    walk_at "wx"
    have dm := a2.dep
    have sm := a2.siz
    have wm := a2.wid
    by_cases c1 : z = "cell"
    · rw [decide_eq_true c1]
      refine ite_t ?_
      walk_at "wx"
      refine we_call dd FL (by decide) (by decide +kernel) (by rfl) (by rfl) ?_
      walk_at "wx"
      refine ⟨_, Ha, v, m, rfl, frmp_draw (d := p) (B := B + 1 + eB 3), A2, a1, a2.ex, by omega, by omega, fun v' m' Hc Hd sc A3 b1 b2 b3 b4 => ?_⟩
      walk_at "wA"
      refine ⟨by show 3 ≤ sizeLine; decide, fun r hr => ?_⟩
      have nr := A3.same.free hr
      have s5 := same_new (o := .tup [.str "cell", .str y, v']) nr
      refine q _ (.tup [.str "cell", .str y, m']) _ _ ((sa.trans sc).trans s5) (.tup (SqT.of upd_same) (by show 3 ≤ 1000; decide) (.cons (.str _ (okw _ (by decide +kernel))) (.cons (.str _ (hn.ok y hy)) (.cons (At.same s5 _ _ b1) .nil)))) ⟨?_, ?_, ?_⟩ ⟨_, _, rfl⟩ ((A3.laid hr).mono (by omega))
      · simp only [depthM, depthL]
        omega
      · simp only [sizeM, sizeL]
        omega
      · simp only [widM, widL, List.length_cons, List.length_nil]
        omega
    · rw [decide_eq_false c1]
      refine ite_f ?_
      walk_at "wx"
      by_cases c2 : z = "row"
      · rw [decide_eq_true c2]
        refine ite_t ?_
        walk_at "wx"
        refine we_call dd FT (by decide) (by decide +kernel) (by rfl) (by rfl) ?_
        walk_at "wx"
        refine ⟨Ha, p, _, 9, rfl, A2, by omega, by decide, by decide, fun i H3 i0 i1 A3 => ?_⟩
        walk_at "wx"
        refine ⟨by show 4 ≤ sizeLine; decide, fun r hr => ?_⟩
        have nr := A3.same.free hr
        have s5 := same_new (o := .tup [.str "row", .str y, .int (1 + i), v]) nr
        refine q _ (.tup [.str "row", .str y, .int (1 + i), m]) _ _ (sa.trans s5) (.tup (SqT.of upd_same) (by show 4 ≤ 1000; decide) (.cons (.str _ (okw _ (by decide +kernel))) (.cons (.str _ (hn.ok y hy)) (.cons (.int _) (.cons (At.same s5 _ _ a1) .nil))))) ⟨?_, ?_, ?_⟩ ⟨_, _, rfl⟩ ((A3.laid hr).mono (by omega))
        · simp only [depthM, depthL]
          omega
        · simp only [sizeM, sizeL]
          omega
        · simp only [widM, widL, List.length_cons, List.length_nil]
          omega
      · rw [decide_eq_false c2]
        refine ite_f ?_
        walk_at "wx"
        refine we_call dd FP (by decide) (by decide +kernel) (by rfl) (by rfl) ?_
        walk_at "wx"
        refine ⟨by show 6 ≤ sizeLine; decide, fun r1 hr1 => ?_⟩
        have nr1 := A2.same.free hr1
        have A3 := A2.laid (o := .lst (([0, 0, -1, 5, -999, 991] : List Int).map V.int)) hr1
        walk_at "wA"
        refine ⟨_, p, r1, _, ([0, 0, -1, 5, -999, 991] : List Int).map V.int, rfl, A3, by omega, SqL.of upd_same, by show 0 < 6; decide, by show 6 < 1073741824; decide, fun j2 x H4 hx A4 => ?_⟩
        obtain ⟨low, hlow, rfl⟩ := map_at hx
        have A5 := A4.less (same_new nr1)
        walk_at "wx"
        refine we_call dd FT (by decide) (by decide +kernel) (by rfl) (by rfl) ?_
        walk_at "wx"
        refine ⟨Ha, p, _, 9, rfl, A5, by omega, by decide, by decide, fun i H5 i0 i1 A6 => ?_⟩
        walk_at "wx"
        refine we_call dd FL (by decide) (by decide +kernel) (by rfl) (by rfl) ?_
        walk_at "wA"
        refine we_call dd FE2 (by decide) (by decide +kernel) (by rfl) (by rfl) ?_
        walk_at "wx"
        refine ⟨Ha, p, L, _, ys, rfl, A6, by omega, hn.same sa, by decide, by decide, fun v2 m2 Hc Hd sc c1' c2' A7 => ?_⟩
        have dm2 := c2'.dep
        have sm2 := c2'.siz
        have wm2 := c2'.wid
        walk_at "wA"
        refine ⟨_, Hc, v2, m2, rfl, frmp_draw (d := p) (B := B + 1 + eB 3 + 1 + 1 + eB 2), A7, c1', c2'.ex, by omega, by omega, fun v3 m3 He Hf se A8 d1 d2 d3 d4 => ?_⟩
        walk_at "wx"
        refine we_call dd FL (by decide) (by decide +kernel) (by rfl) (by rfl) ?_
        walk_at "wx"
        refine ⟨_, He, v, m, rfl, frmp_draw (d := p) (B := B + 1 + eB 3 + 1 + 1 + eB 2), A8, At.same (sc.trans se) _ _ a1, a2.ex, by omega, by omega, fun v4 m4 Hg Hh sg A9 f1 f2 f3 f4 => ?_⟩
        walk_at "wA"
        refine ⟨by show 6 ≤ sizeLine; decide, fun r hr => ?_⟩
        have nr := A9.same.free hr
        have s5 := same_new (o := .tup [.str "settle", .str y, .int low, .int (low + i), v3, v4]) nr
        refine q _ (.tup [.str "settle", .str y, .int low, .int (low + i), m3, m4]) _ _ ((((sa.trans sc).trans se).trans sg).trans s5) (.tup (SqT.of upd_same) (by show 6 ≤ 1000; decide) (.cons (.str _ (okw _ (by decide +kernel))) (.cons (.str _ (hn.ok y hy)) (.cons (.int _) (.cons (.int _) (.cons (At.same (sg.trans s5) _ _ d1) (.cons (At.same s5 _ _ f1) .nil))))))) ⟨?_, ?_, ?_⟩ ⟨_, _, rfl⟩ ((A9.laid hr).mono (by omega))
        · simp only [depthM, depthL]
          omega
        · simp only [sizeM, sizeL]
          omega
        · simp only [widM, widL, List.length_cons, List.length_nil]
          omega

end K02

namespace K02
variable {G : Gb}
theorem okStr_of {z : Str} (h1 : z.cps.toList.length ≤ 3) (h2 : PyData.strOk z = true) : okStr z := by
  refine ⟨by omega, fun c hc => ?_⟩
  unfold PyData.strOk at h2
  rw [Array.all_eq_true_iff_forall_mem] at h2
  exact of_decide_eq_true (h2 c (Array.mem_toList_iff.mp hc))
theorem all_bd {d s w : Nat} : ∀ {ms : List M}, (∀ m ∈ ms, Bd d s w m) → depthL ms ≤ d ∧ sizeL ms ≤ ms.length * s ∧ widL ms ≤ w
  | [], _ => ⟨by rw [depthL]; omega, by rw [sizeL]; omega, by rw [widL]; omega⟩
  | m :: ms, h => by
    obtain ⟨h1, h2, h3⟩ := all_bd fun y hy => h y (List.mem_cons_of_mem _ hy)
    obtain ⟨e1, e2, e3⟩ := h m List.mem_cons_self
    rw [depthL, sizeL, widL, List.length_cons, Nat.add_mul, Nat.one_mul]
    omega
def spAnySheet (K : PySem.W.Frag) : Sp := fun vs H Q _ => ∃ (H0 : Hp) (p : Addr) (B : Nat), vs = [.ref p, .int 3, .int 3] ∧ DrawAt H0 H p B ∧ B < 80000000 ∧
  ∀ (v : V) (m : M) (H0' H' : Hp), Same H0 H0' → At K H0' v m → Bd 12 2200 6 m → DrawAt H0' H' p (B + 20000) → Q v H'
abbrev nSheet : List Str := ["_law_draw", "_law_most", "_law_deep", "_law_names_here", "_law_inputs", "_law_cells", "_law_k", "_law_low", "_law_words", "_law_cell"]
theorem scSheet : FnScope nSheet ["_law_draw", "_law_most", "_law_deep"] (defScope (top 32)) := ⟨rfl, rfl, rfl, by decide +kernel, rfl, by decide +kernel, by decide +kernel⟩
section
variable {X : Cx} {H H0 : Hp} {Q : VK} {W : WX} {p L Li Lc : Addr} {B : Nat} {ys : List Str}
theorem sheet_inputs (b : Bi G.mg) (d : Fr X G nSheet (defScope (top 32)) 15 W) (FT : Fn G "_law_take" 2 2 spTake) (FP : Fn G "_law_pick" 2 3 (spPick G.K)) (A : DrawAt H0 H p B) (hB : B < 90000000) (hn : NamesAt G.K H0 L ys) (hi : H0 Li = some (.lst [])) (hc : H0 Lc = some (.lst [])) (ne : Li ≠ Lc) (nL : L ≠ Li)
    (next : ∀ rest, (defBody (top 32)).drop 2 = rest → ∀ (Hb H1 : Hp) (acc : List V) (ms : List M) (x6 x7 : Option V), Keep H0 Hb → (∀ a, a ≠ Li → ∀ u, H0 a = some u → Hb a = some u) → DrawAt Hb H1 p (B + 100) → Hb Li = some (.lst acc) → AtAll G.K Hb acc ms → ms.length ≤ 3 → (∀ m ∈ ms, Bd 1 5 5 m) →
      WB X rest { nx := fun _ H' => Q .non H', rt := Q } [some (.ref p), some (.int 3), some (.int 3), some (.ref L), some (.ref Li), some (.ref Lc), x6, x7, none, none] H1) :
    WB X ((defBody (top 32)).drop 1) { nx := fun _ H' => Q .non H', rt := Q } [some (.ref p), some (.int 3), some (.int 3), some (.ref L), some (.ref Li), some (.ref Lc), none, none, none, none] H := by
  have dd := d.toDef
  have okw := ok_words
  show WB X (_ :: _) _ _ _
  refine wb_cons ?_
  refine ws_forR d (by decide +kernel) b.b_range (by rfl) (by intro _; rfl) ?_
  walk_at "wx"
  refine we_call dd FP (by decide) (by decide +kernel) (by rfl) (by rfl) ?_
  walk_at "wx"
  refine ⟨by show 4 ≤ sizeLine; decide, fun r1 hr1 => ?_⟩
  have nr1 := A.same.free hr1
  have A1 := A.laid (o := .lst (([1, 1, 2, 3] : List Int).map V.int)) hr1
  walk_at "wA"
  refine ⟨_, p, r1, _, ([1, 1, 2, 3] : List Int).map V.int, rfl, A1, by omega, SqL.of upd_same, by show 0 < 4; decide, by show 4 < 1073741824; decide, fun j2 x H4 hx A2 => ?_⟩
  obtain ⟨j, hj, rfl⟩ := map_at hx
  have A3 := A2.less (same_new nr1)
  have hjb : 0 ≤ j ∧ j ≤ 3 := by
    have hm := List.mem_of_getElem? hj
    simp only [List.mem_cons, List.not_mem_nil, or_false] at hm
    omega
  have stay : ∀ {Ha Hb : Hp}, Same Ha Hb → ∀ a, a ≠ Li → ∀ u, Ha a = some u → Hb a = some u := fun s a _ u e => s a u e
  refine ⟨j, rfl, by omega, by omega, fun i σ H' => ∃ (Hb : Hp) (acc : List V) (ms : List M) (x6 x7 : Option V), Keep H0 Hb ∧ (∀ a, a ≠ Li → ∀ u, H0 a = some u → Hb a = some u) ∧ DrawAt Hb H' p (B + 1 + i * 10) ∧ Hb Li = some (.lst acc) ∧ AtAll G.K Hb acc ms ∧ ms.length = i ∧ (∀ m ∈ ms, Bd 1 5 5 m) ∧ σ = [some (.ref p), some (.int 3), some (.int 3), some (.ref L), some (.ref Li), some (.ref Lc), x6, x7, none, none], ⟨H0, [], [], _, _, keep_of (Same.refl _), stay (Same.refl _), A3.mono (by omega), hi, .nil, rfl, (fun _ h => nomatch h), rfl⟩, ?_, ?_⟩
  · rintro i σ H' hi2 ⟨Hb, acc, ms, x6, x7, kb, sb, Ab, hL, hz, hlz, hdz, rfl⟩
    have hi3 : i ≤ 2 := by omega
    have hnb : NamesAt G.K Hb L ys := by
      refine ⟨?_, hn.pos, hn.few, hn.ok⟩
      rcases hn.at_ with (h | ⟨o, h⟩) | h
      · exact .inl (.inl (sb L nL _ h))
      · exact .inl (.inr ⟨o, sb L nL _ h⟩)
      · exact .inr h
    walk_at "wg"
    refine wb_cons ?_
    walk_at "wx"
    refine we_call dd FP (by decide) (by decide +kernel) (by rfl) (by rfl) ?_
    walk_at "wx"
    refine ⟨by show 6 ≤ sizeLine; decide, fun q1 hq1 => ?_⟩
    have nq1 := Ab.same.free hq1
    have A5 := Ab.laid (o := .lst (([0, 0, 1, -3, -99, 91] : List Int).map V.int)) hq1
    walk_at "wA"
    refine ⟨_, p, q1, _, ([0, 0, 1, -3, -99, 91] : List Int).map V.int, rfl, A5, by omega, SqL.of upd_same, by show 0 < 6; decide, by show 6 < 1073741824; decide, fun j2 x H4 hx A6 => ?_⟩
    obtain ⟨low, hlow, rfl⟩ := map_at hx
    have A7 := A6.less (same_new nq1)
    walk_at "wx"
    refine we_bm dd PySem.F.plainAttrs_list PySem.F.slot_list_append PySem.F.type_list_append (by rfl) (by rfl) (by rfl) (by rfl) (by rfl) ?_
    walk_at "wx"
    refine ⟨ty_list (A7.same _ _ hL), ?_⟩
    walk_at "wA"
    walk_at "wE"
    walk_at "wA"
    walk_at "wE"
    walk_at "wA"
    refine we_call dd FP (by decide) (by decide +kernel) (by rfl) (by rfl) ?_
    walk_at "wx"
    refine pick_name (X := X) (N := nSheet) (sc := defScope (top 32)) (k := 15) (σ := []) Hb _ A7 (by omega) hnb fun z H5 hz2 A8 => ?_
    walk_at "wx"
    refine we_call dd FT (by decide) (by decide +kernel) (by rfl) (by rfl) ?_
    walk_at "wx"
    refine ⟨Hb, p, _, 9, rfl, A8, by omega, by decide, by decide, fun r H6 r0 r1' A9 => ?_⟩
    walk_at "wx"
    refine ⟨by show 4 ≤ sizeLine; decide, fun q2 hq2 => ?_⟩
    have nq2 := A9.same.free hq2
    have A10 := A9.laid (o := .tup [.str "input", .str z, .int low, .int (low + r)]) hq2
    have s5 := same_new (o := .tup [.str "input", .str z, .int low, .int (low + r)]) nq2
    have hL2 := s5 _ _ hL
    have hacc : acc.length = i := by
      have := hz.len
      omega
    walk_at "wA"
    refine rm_append (A10.same _ _ hL2) (len_lt (by omega)) ?_
    have A11 := A10.put (o' := .lst (acc ++ [.ref q2])) hL2
    walk_at "wx"
    refine ⟨_, acc ++ [.ref q2], ms ++ [.tup [.str "input", .str z, .int low, .int (low + r)]], _, _, (kb.trans (keep_of s5)).trans (keep_put hL2), fun a na u e => ?_, A11.mono (by rw [Nat.add_mul, Nat.one_mul]; omega), upd_same, ?_, by rw [List.length_append, hlz]; rfl, fun m hm => ?_, rfl⟩
    · rw [upd_ne na]
      exact s5 _ _ (sb a na u e)
    · refine AtAll.keep (keep_put hL2) ((hz.keep (keep_of s5)).snoc ?_)
      exact .tup (SqT.of upd_same) (by show 4 ≤ 1000; decide) (.cons (.str _ (okw _ (by decide +kernel))) (.cons (.str _ (hn.ok z hz2)) (.cons (.int _) (.cons (.int _) .nil))))
    · rcases List.mem_append.mp hm with h | h
      · exact hdz m h
      · rw [List.mem_singleton.mp h]
        refine ⟨?_, ?_, ?_⟩
        · simp only [depthM, depthL]
          omega
        · simp only [sizeM, sizeL]
          omega
        · simp only [widM, widL, List.length_cons, List.length_nil]
          omega
  · rintro σ H' ⟨Hb, acc, ms, x6, x7, kb, sb, Ab, hL, hz, hlz, hdz, rfl⟩
    exact next _ (by kernel_rfl) Hb H' acc ms x6 x7 kb sb (Ab.mono (by omega)) hL hz (by omega) hdz
end
end K02

namespace K02
variable {G : Gb}
abbrev wordsS : List Str := ["cell", "cell", "row", "settle"]
section
variable {X : Cx} {H H0 : Hp} {Q : VK} {W : WX} {p L Li Lc : Addr} {B : Nat} {ys : List Str}
theorem sheet_cells (b : Bi G.mg) (d : Fr X G nSheet (defScope (top 32)) 15 W) (FT : Fn G "_law_take" 2 2 spTake) (FP : Fn G "_law_pick" 2 3 (spPick G.K)) (FC : Fn G "_law_any_cell" 4 14 (spAnyCell G.K)) (A : DrawAt H0 H p B) (hB : B < 85000000) (hn : NamesAt G.K H0 L ys) {acc0 : List V} {ms0 : List M} (hi : H0 Li = some (.lst acc0)) (hc : H0 Lc = some (.lst [])) (ne : Li ≠ Lc) (nL : L ≠ Lc)
    (g0 : AtAll G.K H0 acc0 ms0) (l0 : ms0.length ≤ 3) (d0 : ∀ m ∈ ms0, Bd 1 5 5 m) {y6 y7 : Option V}
    (q : ∀ (v : V) (m : M) (H0' H' : Hp), Keep H0 H0' → (∀ a, a ≠ Lc → ∀ u, H0 a = some u → H0' a = some u) → At G.K H0' v m → Bd 12 2200 6 m → DrawAt H0' H' p (B + 15000) → Q v H')
    {rest : List Stmt} (hr : (defBody (top 32)).drop 2 = rest) :
    WB X rest { nx := fun _ H' => Q .non H', rt := Q } [some (.ref p), some (.int 3), some (.int 3), some (.ref L), some (.ref Li), some (.ref Lc), y6, y7, none, none] H := by
  have dd := d.toDef
  have okw := ok_words
  subst hr
  show WB X (_ :: _) _ _ _
  refine wb_cons ?_
  refine ws_forR d (by decide +kernel) b.b_range (by rfl) (by intro _; rfl) ?_
  walk_at "wx"
  refine we_call dd FT (by decide) (by decide +kernel) (by rfl) (by rfl) ?_
  walk_at "wx"
  refine ⟨H0, p, B, 3, rfl, A, by omega, by decide, by decide, fun j H2 j0 j1 A3 => ?_⟩
  walk_at "wR"
  have stay : ∀ {Ha Hb : Hp}, Same Ha Hb → ∀ a, a ≠ Lc → ∀ u, Ha a = some u → Hb a = some u := fun s a _ u e => s a u e
  refine ⟨1 + j, rfl, by omega, by omega, fun i σ H' => ∃ (Hb : Hp) (acc : List V) (ms : List M) (x6 x7 x8 : Option V), Keep H0 Hb ∧ (∀ a, a ≠ Lc → ∀ u, H0 a = some u → Hb a = some u) ∧ DrawAt Hb H' p (B + 1 + i * 3100) ∧ Hb Lc = some (.lst acc) ∧ AtAll G.K Hb acc ms ∧ ms.length = i ∧ (∀ m ∈ ms, Bd 10 700 6 m ∧ headM m) ∧ σ = [some (.ref p), some (.int 3), some (.int 3), some (.ref L), some (.ref Li), some (.ref Lc), x6, x7, x8, none], ⟨H0, [], [], _, _, _, keep_of (Same.refl _), stay (Same.refl _), A3.mono (by omega), hc, .nil, rfl, (fun _ h => nomatch h), rfl⟩, ?_, ?_⟩
  · rintro i σ H' hi2 ⟨Hb, acc, ms, x6, x7, x8, kb, sb, Ab, hL, hz, hlz, hdz, rfl⟩
    have hi3 : i ≤ 2 := by omega
    have hnb : NamesAt G.K Hb L ys := by
      refine ⟨?_, hn.pos, hn.few, hn.ok⟩
      rcases hn.at_ with (h | ⟨o, h⟩) | h
      · exact .inl (.inl (sb L nL _ h))
      · exact .inl (.inr ⟨o, sb L nL _ h⟩)
      · exact .inr h
    obtain ⟨us, e1, e2, hu⟩ := at_zip hz
    have lus : us.length = i := by rw [← hlz, e2, List.length_map]
    walk_at "wg"
    refine wb_cons ?_
    walk_at "wS"
    walk_at "wE"
    walk_at "wE"
    walk_at "wA"
    walk_at "wE"
    walk_at "wA"
    walk_at "wE"
    walk_at "wA"
    walk_at "wE"
    walk_at "wA"
    refine ⟨by show 3 ≤ sizeLine; decide, fun r1 hr1 => ?_⟩
    have A1 := Ab.laid (o := .lst ((["cell", "cell", "row"] : List Str).map V.str)) hr1
    have nr1 := Ab.same.free hr1
    have s1 := same_new (o := .lst ((["cell", "cell", "row"] : List Str).map V.str)) nr1
    walk_at "wE"
    walk_at "wE"
    walk_at "wA"
    walk_at "wE"
    walk_at "wA"
    refine ⟨by show 1 ≤ sizeLine; decide, fun r2 hr2 => ?_⟩
    have A2 := A1.laid (o := .lst ((["settle"] : List Str).map V.str)) hr2
    have nr2 := A1.same.free hr2
    have s2 := same_new (o := .lst ((["settle"] : List Str).map V.str)) nr2
    have s12 := s1.trans s2
    walk_at "wE"
    walk_at "wA"
    walk_at "wE"
    walk_at "wE"
    walk_at "wA"
    refine we_lcL dd [("_law_cell", 9)] (by decide +kernel) (by intro _; rfl) ?_
    walk_at "wn"
    refine lcL_map (zs := us) (fun u : V × M => u.1) (fun u => if decide (wordM u.2 = "settle") = true then some u.1 else none) (by rw [← e1]; exact SqL.of ((A2.same) _ _ (s12 _ _ hL))) (by omega) (fun u hu2 H3 s3 R hR => ?_) (fun L3 H3 hL3 s3 h3 => ?_)
    · have mm : u.2 ∈ ms := by rw [e2]; exact List.mem_map.mpr ⟨u, hu2, rfl⟩
      obtain ⟨w, ms2, ew⟩ := (hdz u.2 mm).2
      have au := At.same ((s12.trans A2.same).trans s3) _ _ (hu u hu2)
      intro X' d'
      dsimp only [L2.wipe, List.map, List.set]
      walk_at "wg"
      refine ⟨rfl, fun X2 d2 => wts_one ?_⟩
      have hR := hR H3 (Same.refl _)
      obtain ⟨uv, um⟩ := u
      have ew : um = .tup (.str w :: ms2) := ew
      subst ew
      have hR : R (if decide (w = "settle") = true then some uv else none) H3 := hR
      cases au with
      | @tup a xs _ t1 tl t2 =>
      cases t2 with
      | cons g1 t2 =>
      cases g1
      walk_at "wx"
      refine rx_tup d2 t1 (atI_nat (j := 0) rfl) ?_
      walk_at "wx"
      cases ed : decide (w = ("settle" : Str)) with
      | false =>
        rw [ed] at hR
        exact ite_f hR
      | true =>
        rw [ed] at hR
        refine ite_t fun X3 d3 => ?_
        walk_at "wn"
        exact hR
    · have A4 := A2.keep s3
      have hlen : (us.filterMap fun u => if decide (wordM u.2 = "settle") = true then some u.1 else none).length ≤ 2 := by
        have := List.length_filterMap_le (fun u : V × M => if decide (wordM u.2 = "settle") = true then some u.1 else none) us
        omega
      walk_at "wA"
      refine rc_lenL dd (SqL.of h3) ?_
      walk_at "wE"
      walk_at "wR"
      rw [decide_eq_true (by omega)]
      walk_at "wA"
      refine rc_intB ?_
      refine ro_rep (xs := (["settle"] : List Str).map V.str) (A4.same _ _ upd_same) (by decide) (by decide) (by decide) fun r3 hr3 => ?_
      have A5 := A4.laid (o := .lst ((["settle"] : List Str).map V.str)) hr3
      have nr3 := A4.same.free hr3
      have s5 := same_new (o := .lst ((["settle"] : List Str).map V.str)) nr3
      refine ro_cat (xs := (["cell", "cell", "row"] : List Str).map V.str) (ys := (["settle"] : List Str).map V.str) (A5.same _ _ ((s2.trans s5) _ _ upd_same)) upd_same (by show 4 ≤ sizeLine; decide) fun r4 hr4 => ?_
      have A6 := A5.laid (o := .lst (wordsS.map V.str)) hr4
      have nr4 := A5.same.free hr4
      have s6 := same_new (o := .lst (wordsS.map V.str)) nr4
      have sA : Same Hb _ := (s12.trans s5).trans s6
      have hw4 := (upd_same : (upd (upd (upd (upd Hb r1 (.lst ((["cell", "cell", "row"] : List Str).map V.str))) r2 (.lst ((["settle"] : List Str).map V.str))) r3 (.lst ((["settle"] : List Str).map V.str))) r4 (.lst (wordsS.map V.str))) r4 = _)
      generalize hG : upd (upd H3 r3 (.lst ((["settle"] : List Str).map V.str))) r4 (.lst (wordsS.map V.str)) = Hn at A6
      have hG' : upd (upd H3 r3 (.lst (List.replicate (Int.toNat (if (true : Bool) = true then 1 else 0)) (List.map V.str ["settle"])).flatten)) r4 (.lst (List.map V.str ["cell", "cell", "row"] ++ List.map V.str ["settle"])) = Hn := hG
      rw [hG']
      generalize upd (upd (upd (upd Hb r1 (.lst ((["cell", "cell", "row"] : List Str).map V.str))) r2 (.lst ((["settle"] : List Str).map V.str))) r3 (.lst ((["settle"] : List Str).map V.str))) r4 (.lst (wordsS.map V.str)) = Hm at A6 sA hw4
      refine wb_one ?_
      walk_at "wS"
      refine we_bm dd PySem.F.plainAttrs_list PySem.F.slot_list_append PySem.F.type_list_append (by rfl) (by rfl) (by rfl) (by rfl) (by rfl) ?_
      walk_at "wx"
      refine ⟨ty_list (A6.same _ _ (sA _ _ hL)), ?_⟩
      walk_at "wA"
      refine we_call dd FC (by decide) (by decide +kernel) (by rfl) (by rfl) ?_
      walk_at "wx"
      refine we_call dd FP (by decide) (by decide +kernel) (by rfl) (by rfl) ?_
      walk_at "wx"
      refine ⟨Hm, p, r4, _, wordsS.map V.str, rfl, A6, by omega, SqL.of hw4, by show 0 < 4; decide, by show 4 < 1073741824; decide, fun j2 x H5 hx A7 => ?_⟩
      obtain ⟨z, hz4, rfl⟩ := map_at hx
      walk_at "wA"
      refine ⟨Hm, p, L, _, ys, z, rfl, A7, by omega, hnb.same sA, fun v m Hc Hd sc a1 a2 a3 A8 => ?_⟩
      have hL2 := (sA.trans sc) _ _ hL
      have hacc : acc.length = i := by
        have := hz.len
        omega
      walk_at "wA"
      refine rm_append (A8.same _ _ hL2) (len_lt (by omega)) ?_
      have A9 := A8.put (o' := .lst (acc ++ [v])) hL2
      walk_at "wx"
      refine ⟨_, acc ++ [v], ms ++ [m], _, _, _, (kb.trans (keep_of (sA.trans sc))).trans (keep_put hL2), fun a na u e => ?_, A9.mono (by rw [Nat.add_mul, Nat.one_mul]; omega), upd_same, ?_, by rw [List.length_append, hlz]; rfl, fun m' hm => ?_, rfl⟩
      · rw [upd_ne na]
        exact (sA.trans sc) _ _ (sb a na u e)
      · exact AtAll.keep (keep_put hL2) ((hz.keep (keep_of (sA.trans sc))).snoc a1)
      · rcases List.mem_append.mp hm with h | h
        · exact hdz m' h
        · rw [List.mem_singleton.mp h]
          exact ⟨a2, a3⟩
  · rintro σ H' ⟨Hb, acc, ms, x6, x7, x8, kb, sb, Ab, hL, hz, hlz, hdz, rfl⟩
    have hi2 := sb Li ne _ hi
    refine wb_one (ws_ret ?_)
    walk_at "wE"
    walk_at "wA"
    walk_at "wE"
    walk_at "wA"
    walk_at "wE"
    walk_at "wA"
    walk_at "wn"
    walk_at "wA"
    refine rc_tupleL dd (SqL.of (Ab.same _ _ hi2)) fun q3 hq3 => ?_
    have nq3 := Ab.same.free hq3
    have A4 := Ab.laid (o := .tup acc0) hq3
    have s4 := same_new (o := .tup acc0) nq3
    walk_at "wA"
    walk_at "wE"
    walk_at "wA"
    walk_at "wn"
    walk_at "wA"
    refine rc_tupleL dd (SqL.of (A4.same _ _ (s4 _ _ hL))) fun q4 hq4 => ?_
    have nq4 := A4.same.free hq4
    have A5 := A4.laid (o := .tup acc) hq4
    have s5 := same_new (o := .tup acc) nq4
    walk_at "wA"
    refine ⟨by show 3 ≤ sizeLine; decide, fun q5 hq5 => ?_⟩
    have nq5 := A5.same.free hq5
    have A6 := A5.laid (o := .tup [.str "sheet", .ref q3, .ref q4]) hq5
    have s6 := same_new (o := .tup [.str "sheet", .ref q3, .ref q4]) nq5
    have s46 := (s4.trans s5).trans s6
    have l1 := g0.len
    have l2 := hz.len
    obtain ⟨p1, p2, p3⟩ := all_bd d0
    obtain ⟨p4, p5, p6⟩ := all_bd fun m hm => (hdz m hm).1
    have hml : ms0.length * 5 ≤ 3 * 5 := Nat.mul_le_mul_right _ l0
    have hml2 : ms.length * 700 ≤ 3 * 700 := Nat.mul_le_mul_right _ (by omega)
    refine q _ (.tup [.str "sheet", .tup ms0, .tup ms]) _ _ (kb.trans (keep_of s46)) (fun a na u e => s46 _ _ (sb a na u e)) (.tup (SqT.of upd_same) (by show 3 ≤ 1000; decide) (.cons (.str _ (okw _ (by decide +kernel))) (.cons (.tup ((s5.trans s6).tup (SqT.of upd_same)) (by omega) ((g0.keep kb).keep (keep_of s46))) (.cons (.tup (s6.tup (SqT.of upd_same)) (by omega) (hz.keep (keep_of s46))) .nil)))) ⟨?_, ?_, ?_⟩ (A6.mono (by omega))
    · simp only [depthM, depthL]
      omega
    · simp only [sizeM, sizeL]
      omega
    · simp only [widM, widL, List.length_cons, List.length_nil]
      omega
end
theorem fn_any_sheet (b : Bi G.mg) (FT : Fn G "_law_take" 2 2 spTake) (FP : Fn G "_law_pick" 2 3 (spPick G.K)) (FN : Fn G "_law_names" 2 4 spNames) (FC : Fn G "_law_any_cell" 4 14 (spAnyCell G.K)) (T : Top G "_law_any_sheet" (top 32) ["_law_draw", "_law_most", "_law_deep"]) : Fn G "_law_any_sheet" 3 16 (spAnySheet G.K) := by
  refine T.fn (k := 15) (N := nSheet) scSheet (fun vs H Q E h => ?_) (fun X vs H Q E d h => ?_)
  · obtain ⟨_, _, _, rfl, _⟩ := h
    rfl
  · have dd := d.toDef
    obtain ⟨H0, p, B, rfl, A, hB, q⟩ := h
    show WB X _ _ [some (.ref p), some (.int 3), some (.int 3), none, none, none, none, none, none, none] H
    refine wb_cons ?_
    refine ws_par3 d 3 4 5 rfl rfl rfl (by decide) (by decide) (by decide) (by decide +kernel) (by decide +kernel) (by decide +kernel) (by intro _; rfl) (by rfl) ?_ (by rfl) (by rfl) (by rfl)
    walk_at "wx"
    refine we_call dd FN (by decide) (by decide +kernel) (by rfl) (by rfl) ?_
    walk_at "wx"
    refine ⟨H0, p, B, 7, rfl, A, by omega, by decide, fun ys L Ha Hb ly hnd hok sa nL hL Aa => ?_⟩
    walk_at "wx"
    refine ⟨by decide, fun Li hLi => ?_⟩
    have A1 := Aa.laid (o := .lst []) hLi
    have nLi := Aa.same.free hLi
    have s1 := same_new (o := .lst []) nLi
    walk_at "wx"
    refine ⟨by decide, fun Lc hLc => ?_⟩
    have A2 := A1.laid (o := .lst []) hLc
    have nLc := A1.same.free hLc
    have s2 := same_new (o := .lst []) nLc
    have hn : NamesAt G.K (upd (upd Ha Li (.lst [])) Lc (.lst [])) L ys := ⟨SqL.of ((s1.trans s2) _ _ hL), by omega, by omega, fun z hz => okStr_of (hok z hz).2.1 (hok z hz).2.2⟩
    have ne : Li ≠ Lc := fun e => by rw [← e, upd_same] at nLc; cases nLc
    have nLi2 : L ≠ Li := fun e => by rw [← e, hL] at nLi; cases nLi
    have nLc2 : L ≠ Lc := fun e => by rw [← e, s1 _ _ hL] at nLc; cases nLc
    have nLiH : H0 Li = none := sa.free nLi
    have nLcH : H0 Lc = none := sa.free (s1.free nLc)
    refine sheet_inputs b d FT FP A2 (by omega) hn (by rw [upd_ne ne]; exact upd_same) upd_same ne nLi2 fun rest hr Hx H1 acc ms x6 x7 kx sx A3 hx g1 g2 g3 => ?_
    have s0 : ∀ a u, H0 a = some u → Hx a = some u := fun a u e => by
      refine sx a (fun z => ?_) u ((sa.trans (s1.trans s2)) a u e)
      rw [z, nLiH] at e
      cases e
    have hnx : NamesAt G.K Hx L ys := ⟨SqL.of (sx L nLi2 _ ((s1.trans s2) _ _ hL)), by omega, by omega, hn.ok⟩
    refine sheet_cells b d FT FP FC A3 (by omega) hnx hx (sx Lc (fun z => ne z.symm) _ upd_same) ne nLc2 g1 g2 g3 (fun v m H0' H' k1 k2 k3 k4 A4 => q v m H0' H' (fun a u e => ?_) k3 k4 (A4.mono (by omega))) hr
    refine k2 a (fun z => ?_) u (s0 a u e)
    rw [z, nLcH] at e
    cases e
end K02

namespace K02
variable {G : Gb}
/-! ### displays of constants, as matters -/
def okB (z : Str) : Bool := decide (z.cps.toList.length ≤ 1000) && z.cps.toList.all fun c => decide (c < 1114112)
theorem okB_ok {z : Str} (h : okB z = true) : z.cps.toList.length ≤ 1000 ∧ ∀ c ∈ z.cps.toList, c < 1114112 := by
  unfold okB at h
  rw [Bool.and_eq_true] at h
  exact ⟨of_decide_eq_true h.1, fun c hc => of_decide_eq_true (List.all_eq_true.mp h.2 c hc)⟩
mutual
inductive LitM : Expr → M → Prop
  | non {j p} : LitM (.Constant .none j p) .non
  | bl {b j p} : LitM (.Constant (.bool b) j p) (.bl b)
  | int {i j p} : LitM (.Constant (.int i) j p) (.int i)
  | neg {i j p q} : LitM (.UnaryOp .USub (.Constant (.int i) j p) q) (.int (-i))
  | str {z j p} : okB z = true → LitM (.Constant (.str z) j p) (.str z)
  | tup {es ms a b} : LitMs es ms → decide (es.length ≤ 1000) = true → LitM (.Tuple es a b) (.tup ms)
  | lst {es ms a} : LitMs es ms → decide (es.length ≤ 1000) = true → LitM (.List es a) .lst
  | dic {p} : LitM (.Dict [] [] p) .dic
inductive LitMs : List Expr → List M → Prop
  | nil : LitMs [] []
  | cons {e m es ms} : LitM e m → LitMs es ms → LitMs (e :: es) (m :: ms)
end
theorem LitMs.len : ∀ {es : List Expr} {ms : List M}, LitMs es ms → ms.length = es.length
  | _, _, .nil => rfl
  | _, _, .cons _ h => congrArg Nat.succ h.len
theorem litM_ns {e : Expr} {m : M} (h : LitM e m) : ns e = true := by cases h <;> rfl
section
variable {X : Cx} {N : List Str} {sc : Scope} {k : Nat} {σ : L2.St} {Fm : Hp → Hp → Prop}
mutual
theorem we_litM (F : FrmP Fm) : ∀ {e : Expr} {m : M} (_ : LitM e m) {H0 H : Hp} {Q : VK}, Fm H0 H → (∀ v H0' H', Same H0 H0' → Fm H0' H' → At G.K H0' v m → Q v H') → WE X e σ H Q
  | _, _, .non, H0, H, Q, f, q => we_non (q _ _ _ (Same.refl _) f .non)
  | _, _, .bl, H0, H, Q, f, q => we_bl (q _ _ _ (Same.refl _) f (.bl _))
  | _, _, .int, H0, H, Q, f, q => we_int (q _ _ _ (Same.refl _) f (.int _))
  | _, _, .neg, H0, H, Q, f, q => we_un (we_int (ru_neg (q _ _ _ (Same.refl _) f (.int _))))
  | _, _, .str h, H0, H, Q, f, q => we_str (q _ _ _ (Same.refl _) f (.str _ (okB_ok h)))
  | _, _, .dic, H0, H, Q, f, q => we_newD fun p hp => q _ _ _ (same_new ((F.same f).free hp)) (F.laid f hp) (.dic upd_same)
  | _, _, .tup (es := es) hs hl, H0, H, Q, f, q =>
    we_tup (wa_litM F hs f fun vs H0' H' s f' a => by
      have l1 := a.len
      have l2 := hs.len
      have l3 := of_decide_eq_true hl
      refine ⟨len_le (by omega), fun p hp => ?_⟩
      have np := (F.same f').free hp
      exact q _ _ _ (s.trans (same_new np)) (F.laid f' hp) (.tup (SqT.of upd_same) (by omega) (a.keep (keep_of (same_new np)))))
  | _, _, .lst (es := es) hs hl, H0, H, Q, f, q =>
    we_lst (wa_litM F hs f fun vs H0' H' s f' a => by
      have l1 := a.len
      have l2 := hs.len
      have l3 := of_decide_eq_true hl
      refine ⟨len_le (by omega), fun p hp => ?_⟩
      have np := (F.same f').free hp
      exact q _ _ _ (s.trans (same_new np)) (F.laid f' hp) (.lst (SqL.of upd_same)))
theorem wa_litM (F : FrmP Fm) : ∀ {es : List Expr} {ms : List M} (_ : LitMs es ms) {H0 H : Hp} {Q : List V → Hp → Prop}, Fm H0 H → (∀ vs H0' H', Same H0 H0' → Fm H0' H' → AtAll G.K H0' vs ms → Q vs H') → WA X es σ H Q
  | _, _, .nil, H0, H, Q, f, q => wa_nil (q _ _ _ (Same.refl _) f .nil)
  | _, _, .cons h hs, H0, H, Q, f, q =>
    wa_cons (litM_ns h) (we_litM F h f fun v H1' H1 s1 f1 d1 => wa_litM F hs f1 fun vs H2' H2 s2 f2 d2 => q _ _ _ (s1.trans s2) f2 (.cons (At.same s2 _ _ d1) d2))
end
end
def oddB (m : M) : Bool := decide (depthM m ≤ 4) && (decide (sizeM m ≤ 20) && decide (widM m ≤ 6))
def spOdd (K : PySem.W.Frag) : Sp := fun vs H Q _ => ∃ (H0 : Hp) (p : Addr) (B : Nat), vs = [.ref p] ∧ DrawAt H0 H p B ∧ B < 700000000000 ∧
  ∀ (v : V) (m : M) (H0' H' : Hp), Same H0 H0' → At K H0' v m → Bd 4 20 6 m → DrawAt H0' H' p (B + 1) → Q v H'
theorem odd_bd {ms : List M} (h : ms.all oddB = true) {m : M} (hm : m ∈ ms) : Bd 4 20 6 m := by
  have := List.all_eq_true.mp h m hm
  unfold oddB at this
  rw [Bool.and_eq_true, Bool.and_eq_true] at this
  exact ⟨of_decide_eq_true this.1, of_decide_eq_true this.2.1, of_decide_eq_true this.2.2⟩
local macro_rules | `(tactic| walk_at "litm") => `(tactic| repeat' (first | with_reducible exact LitMs.nil | with_reducible apply LitMs.cons | with_reducible exact LitM.non | with_reducible exact LitM.bl | with_reducible exact LitM.int | with_reducible exact LitM.neg | with_reducible exact LitM.dic | (with_reducible apply LitM.str; decide +kernel) | with_reducible apply LitM.tup | with_reducible apply LitM.lst | exact rfl))
def esOf (i : Nat) : List Expr := match (defBody (top 46)).getD i (.Pass ⟨0, 0, 0, 0⟩) with
  | .Assign _ (.List es _) _ => es
  | .Assign _ (.BinOp _ _ (.List es _) _) _ => es
  | .Return (some (.Call _ [_, .BinOp _ _ (.List es _) _] _ _)) _ => es
  | _ => []
def odd1 : List M := [.non, .bl true, .bl false, .int 0, .int 1, .int 9, .int 10, .int (-5), .int 999, .int 1000, .int (-1000), .str "", .str "a", .str "number", .str "place", .str "if", .str "leaf", .str "abcdefghi", .str "A", .lst, .tup [], .dic, .tup [.str "a"], .lst]
def odd2 : List M := [.tup [.str "place"], .tup [.str "place", .int 1], .tup [.str "number", .bl true], .tup [.str "number", .int 1000], .tup [.str "number", .int (-999)], .tup [.str "item", .str "a", .int 0], .tup [.str "item", .str "a", .int 9], .tup [.str "sum", .str "a"]]
def odd3 : List M := [.tup [.str "at", .str "a", .int 1, .tup [.str "place"]], .tup [.str "cases", .tup [.str "place"], .tup [.tup [.int 1, .tup [.str "place"]]], .tup [.str "place"]], .tup [.str "input", .str "a", .int 2, .int 1], .tup [.int 5, .tup [.str "number", .int 5]]]
theorem lit1 : LitMs (esOf 0) odd1 := by
  show LitMs (_ :: _) (_ :: _)
  walk_at "litm"
theorem lit2 : LitMs (esOf 1) odd2 := by
  show LitMs (_ :: _) (_ :: _)
  walk_at "litm"
theorem lit3 : LitMs (esOf 2) odd3 := by
  show LitMs (_ :: _) (_ :: _)
  walk_at "litm"
theorem odd_ok : (odd1 ++ odd2 ++ odd3).all oddB = true := by decide +kernel
theorem wa_litE {X : Cx} {σ : L2.St} {Fm : Hp → Hp → Prop} (F : FrmP Fm) {es es' : List Expr} {ms : List M} (h : LitMs es' ms) (e : es' = es) {H0 H : Hp} {Q : List V → Hp → Prop} (f : Fm H0 H) (q : ∀ vs H0' H', Same H0 H0' → Fm H0' H' → AtAll G.K H0' vs ms → Q vs H') : WA X es σ H Q := by
  subst e
  exact wa_litM F h f q
end K02

namespace K02
variable {G : Gb}
theorem fn_odd (FP : Fn G "_law_pick" 2 3 (spPick G.K)) (T : Top G "_law_odd" (top 46) ["_law_draw"]) : Fn G "_law_odd" 1 4 (spOdd G.K) := by
  refine T.fn (N := ["_law_draw", "_law_some"]) ⟨rfl, rfl, rfl, by decide +kernel, rfl, by decide +kernel, by decide +kernel⟩ (fun vs H Q E h => ?_) (fun X vs H Q E d h => ?_)
  · obtain ⟨_, _, _, rfl, _⟩ := h
    rfl
  · have dd := d.toDef
    obtain ⟨H0, p, B, rfl, A, hB, q⟩ := h
    have F : FrmP fun Hx Hy => DrawAt Hx Hy p B := frmp_draw
    show WB X _ _ [some (.ref p), none] H
    refine wb_cons ?_
    walk_at "wS"
    with_reducible refine we_lst ?_
    with_reducible refine wa_litE (G := G) F lit1 ?he1 A ?_
    case he1 => kernel_rfl
    intro vs H1 G1 s1 A1 a1
    have l1 : vs.length = 24 := a1.len
    refine ⟨len_le (by omega), fun q1 hq1 => ?_⟩
    have n1 := A1.same.free hq1
    have A2 := A1.laid (o := .lst vs) hq1
    have t1 := same_new (o := .lst vs) n1
    refine wb_cons ?_
    walk_at "wS"
    walk_at "wE"
    walk_at "wn"
    with_reducible refine we_lst ?_
    with_reducible refine wa_litE (G := G) F lit2 ?he2 A2 ?_
    case he2 => kernel_rfl
    intro vs2 H3 G3 s3 A3 a3
    have l3 : vs2.length = 8 := a3.len
    refine ⟨len_le (by omega), fun q2 hq2 => ?_⟩
    have n2 := A3.same.free hq2
    have A4 := A3.laid (o := .lst vs2) hq2
    have t2 := same_new (o := .lst vs2) n2
    refine ro_cat (A4.same _ _ ((s3.trans t2) _ _ upd_same)) upd_same (len_le (by omega)) fun q3 hq3 => ?_
    have n3 := A4.same.free hq3
    have A5 := A4.laid (o := .lst (vs ++ vs2)) hq3
    have t3 := same_new (o := .lst (vs ++ vs2)) n3
    refine wb_one (ws_ret ?_)
    refine we_call dd FP (by decide) (by decide +kernel) (by rfl) (by rfl) ?_
    walk_at "wA"
    walk_at "wn"
    walk_at "wA"
    walk_at "wE"
    walk_at "wn"
    with_reducible refine we_lst ?_
    with_reducible refine wa_litE (G := G) F lit3 ?he3 A5 ?_
    case he3 => kernel_rfl
    intro vs4 H5 G5 s5 A6 a5
    have l5 : vs4.length = 4 := a5.len
    refine ⟨len_le (by omega), fun q4 hq4 => ?_⟩
    have n4 := A6.same.free hq4
    have A7 := A6.laid (o := .lst vs4) hq4
    have t4 := same_new (o := .lst vs4) n4
    have l6 : (vs ++ vs2).length = 32 := by rw [List.length_append]; omega
    refine ro_cat (A7.same _ _ ((s5.trans t4) _ _ upd_same)) upd_same (len_le (by omega)) fun q5 hq5 => ?_
    have n5 := A7.same.free hq5
    have A8 := A7.laid (o := .lst ((vs ++ vs2) ++ vs4)) hq5
    have t5 := same_new (o := .lst ((vs ++ vs2) ++ vs4)) n5
    have l7 : ((vs ++ vs2) ++ vs4).length = 36 := by rw [List.length_append]; omega
    walk_at "wA"
    have all : AtAll G.K _ ((vs ++ vs2) ++ vs4) (odd1 ++ odd2 ++ odd3) := AtAll.app (AtAll.app (a1.keep (keep_of ((((((t1.trans s3).trans t2).trans t3).trans s5).trans t4).trans t5))) (a3.keep (keep_of ((((t2.trans t3).trans s5).trans t4).trans t5)))) (a5.keep (keep_of (t4.trans t5)))
    refine ⟨_, p, q5, B, (vs ++ vs2) ++ vs4, rfl, A8, by omega, SqL.of upd_same, by omega, by omega, fun i x H9 hx A9 => ?_⟩
    obtain ⟨m, hm, hv⟩ := all.get hx
    exact q x m _ _ (((((((s1.trans t1).trans s3).trans t2).trans t3).trans s5).trans t4).trans t5) hv (odd_bd odd_ok (List.mem_of_getElem? hm)) A9
end K02

namespace K02
variable {G : Gb}
theorem at_all {K : PySem.W.Frag} {H : Hp} : ∀ {us : List (V × M)}, (∀ u ∈ us, At K H u.1 u.2) → AtAll K H (us.map (·.1)) (us.map (·.2))
  | [], _ => .nil
  | u :: us, h => .cons (h u List.mem_cons_self) (at_all fun w hw => h w (List.mem_cons_of_mem _ hw))
theorem bd_take (ms : List M) (i : Nat) : depthL (ms.take i) ≤ depthL ms ∧ sizeL (ms.take i) ≤ sizeL ms ∧ widL (ms.take i) ≤ widL ms := by
  have e := List.take_append_drop i ms
  have h1 := depthL_append (ms.take i) (ms.drop i)
  have h2 := sizeL_append (ms.take i) (ms.drop i)
  have h3 := widL_append (ms.take i) (ms.drop i)
  rw [e] at h1 h2 h3
  omega
theorem bd_drop (ms : List M) (i : Nat) : depthL (ms.drop i) ≤ depthL ms ∧ sizeL (ms.drop i) ≤ sizeL ms ∧ widL (ms.drop i) ≤ widL ms := by
  have e := List.take_append_drop i ms
  have h1 := depthL_append (ms.take i) (ms.drop i)
  have h2 := sizeL_append (ms.take i) (ms.drop i)
  have h3 := widL_append (ms.take i) (ms.drop i)
  rw [e] at h1 h2 h3
  omega
theorem bd_cut (ms : List M) (i : Nat) : sizeL (ms.take i) + sizeL (ms.drop i) = sizeL ms := by
  have e := List.take_append_drop i ms
  have h2 := sizeL_append (ms.take i) (ms.drop i)
  rw [e] at h2
  omega
/-- what spoiling may come to -/
structure Sp2 (m m' : M) : Prop where
  dep : depthM m' ≤ depthM m + 10
  siz : sizeM m' ≤ 2 * sizeM m + 3000
  wid : widM m' ≤ max (widM m) 20 + 1
def spSpoilt (n : Nat) (K : PySem.W.Frag) : Sp := fun vs H Q _ => ∃ (H0 : Hp) (p : Addr) (v sv : V) (m sm : M) (B : Nat), vs = [.ref p, v, sv] ∧ DrawAt H0 H p B ∧ B + 4 * n < 700000000 ∧ At K H0 v m ∧ At K H0 sv sm ∧ depthM m < n ∧ widM m ≤ 500 ∧ Bd 10 2900 20 sm ∧
  ∀ (v' : V) (m' : M) (H0' H' : Hp), Same H0 H0' → At K H0' v' m' → Sp2 m m' → DrawAt H0' H' p (B + 4 * n) → Q v' H'
abbrev nSpoilt : List Str := ["_law_draw", "_law_matter", "_law_spare", "_law_way", "_law_at"]
theorem scSpoilt : FnScope nSpoilt ["_law_draw", "_law_matter", "_law_spare"] (defScope (top 47)) := ⟨rfl, rfl, rfl, by decide +kernel, rfl, by decide +kernel, by decide +kernel⟩
section
variable {X : Cx} {H H0 : Hp} {Q : VK} {W : WX} {k n : Nat} {p : Addr} {v sv : V} {m sm : M} {B : Nat}
/-- way == c and isinstance(matter, tuple) -/
theorem wt_way {N : List Str} {sc : Scope} {σ : L2.St} {QT : Bool → Hp → Prop} (b : Bi G.mg) (dd : Def X G N sc k) {w c : Int} {p1 p2 p3 p4 p5 p6 p7 : Pos} {cc : Expr} (hw : WE X (.Name "_law_way" p1) σ H fun v H1 => v = .int w ∧ H1 = H) (hc : WE X cc σ H fun v H1 => v = .int c ∧ H1 = H) (hm : behindInMarks .Eq cc = false)
    (hi : WE X (.Call (.Name "isinstance" p2) [.Name "_law_matter" p3, .Name "tuple" p4] [] p5) σ H fun v H1 => v = .bl (isTupM m) ∧ H1 = H)
    (q : QT (decide (w = c) && isTupM m) H) : WT X (.BoolOp .And [.Compare (.Name "_law_way" p1) [.Eq] [cc] p6, .Call (.Name "isinstance" p2) [.Name "_law_matter" p3, .Name "tuple" p4] [] p5] p7) σ H QT := by
  refine wt_ww (ww_and ?_)
  refine wt_cmp hm ?_
  refine we_mono (fun v H1 z => ?_) hw
  obtain ⟨rfl, rfl⟩ := z
  refine we_mono (fun v H2 z => ?_) hc
  obtain ⟨rfl, rfl⟩ := z
  refine ro_eqI ?_
  refine ⟨_, rfl, ?_⟩
  cases e : decide (w = c) with
  | false =>
    rw [e] at q
    exact ite_f q
  | true =>
    rw [e] at q
    refine ite_t (ww_and1 (wt_truth (by intro _; rfl) ?_))
    refine we_mono (fun v H3 z => ?_) hi
    obtain ⟨rfl, rfl⟩ := z
    exact ⟨_, rfl, q⟩
/-- the first block of _law_spoilt: the whole is put otherwise -/
theorem spoilt_way (b : Bi G.mg) (d : Fr X G nSpoilt (defScope (top 47)) k W) (h4 : 4 ≤ k) (FT : Fn G "_law_take" 2 2 spTake) (FO : Fn G "_law_odd" 1 4 (spOdd G.K)) (A : DrawAt H0 H p B) (hB : B < 800000000) (hv : At G.K H0 v m) (hs : At G.K H0 sv sm) (hw : widM m ≤ 500) (hb : Bd 10 2900 20 sm)
    (q : ∀ (v' : V) (m' : M) (H0' H' : Hp), Same H0 H0' → At G.K H0' v' m' → Sp2 m m' → DrawAt H0' H' p (B + 2) → Q v' H') {NX : L2.St → Hp → Prop} {rest : List Stmt} (hr : (match (defBody (top 47)).getD 0 (.Pass ⟨0, 0, 0, 0⟩) with
      | .If _ t _ _ => t
      | _ => []) = rest) :
    WB X rest { nx := NX, rt := Q } [some (.ref p), some v, some sv, none, none] H := by
  have dd := d.toDef
  subst hr
  have zm := size_pos m
  show WB X (_ :: _) _ _ _
  refine wb_cons ?_
  walk_at "wx"
  refine we_call dd FT (by omega) (by decide +kernel) (by rfl) (by rfl) ?_
  walk_at "wx"
  refine ⟨H0, p, B, 6, rfl, A, by omega, by decide, by decide, fun w H1 w0 w1 A1 => ?_⟩
  have hv1 := At.same A1.same _ _ hv
  have hwy : ∀ p1, WE X (.Name "_law_way" p1) [some (.ref p), some v, some sv, some (.int w), none] H1 fun v H2 => v = .int w ∧ H2 = H1 := fun p1 => by
    walk_at "wn"
    exact ⟨rfl, rfl⟩
  have his : ∀ p2 p3 p4 p5, WE X (.Call (.Name "isinstance" p2) [.Name "_law_matter" p3, .Name "tuple" p4] [] p5) [some (.ref p), some v, some sv, some (.int w), none] H1 fun v H2 => v = .bl (isTupM m) ∧ H2 = H1 := fun p2 p3 p4 p5 => by
    walk_at "wx"
    refine rc_isi dd (ClsV.ty _) (at_ty hv1) (kit_bt (kit_tup m)) ?_
    exact ⟨rfl, rfl⟩
  have tupOf : ∀ {c : Int}, (decide (w = c) && isTupM m) = true → ∃ (a : Addr) (us : List (V × M)), v = .ref a ∧ m = .tup (us.map (·.2)) ∧ SqT G.K H0 a (us.map (·.1)) ∧ us.length ≤ 1000 ∧ (∀ u ∈ us, At G.K H0 u.1 u.2) := fun e => by
    rw [Bool.and_eq_true] at e
    cases hv with
    | @tup a xs ms h1 hl h2 =>
      obtain ⟨us, rfl, rfl, hu⟩ := at_zip h2
      rw [List.length_map] at hl
      exact ⟨a, us, rfl, rfl, h1, hl, hu⟩
    | _ => exact absurd e.2 (by simp [isTupM])
  refine wb_cons (ws_if (wt_way b dd (w := w) (c := 0) (hwy _) ?_ (by rfl) (his _ _ _ _) ?_))
  · walk_at "wE"
    exact ⟨rfl, rfl⟩
  cases c0 : (decide (w = 0) && isTupM m) with
  | true =>
    obtain ⟨a, us, rfl, rfl, h1, hl, hu⟩ := tupOf c0
    refine ite_t ?_
    walk_at "wx"
    refine rc_listOf dd (.inr (A1.same.tup h1)) fun l hl2 => ?_
    have nl := A1.same.free hl2
    refine q _ .lst _ _ (same_new nl) (.lst (SqL.of upd_same)) ⟨?_, ?_, ?_⟩ ((A1.laid hl2).mono (by omega))
    · have : depthM .lst = 0 := by unfold depthM; rfl
      omega
    · have : sizeM .lst = 1 := by unfold sizeM; rfl
      omega
    · have : widM .lst = 0 := by unfold widM; rfl
      omega
  | false =>
    refine ite_f ?_
    walk_at "wS"
    refine wb_cons (ws_if (wt_way b dd (w := w) (c := 1) (hwy _) ?_ (by rfl) (his _ _ _ _) ?_))
    · walk_at "wE"
      exact ⟨rfl, rfl⟩
    cases c1 : (decide (w = 1) && isTupM m) with
    | true =>
      obtain ⟨a, us, rfl, rfl, h1, hl, hu⟩ := tupOf c1
      refine ite_t ?_
      walk_at "wx"
      refine rsl_tupF dd (frm_draw (d := p) (B := B + 1)) A1 h1 fun r Ha Hb sa A2 hr => ?_
      rw [cut_toNeg, ← List.map_take, List.length_map] at hr
      obtain ⟨t1, t2, t3⟩ := bd_take (us.map (·.2)) (us.length - 1)
      have at2 := at_all (K := G.K) (H := H0) (us := us.take (us.length - 1)) fun u hu2 => hu u (List.mem_of_mem_take hu2)
      have at3 := at2.keep (keep_of sa)
      rw [← List.map_take] at t1 t2 t3
      refine q _ (.tup ((us.take (us.length - 1)).map (·.2))) _ _ sa (.tup hr (by rw [List.length_map, List.length_take]; omega) at3) ⟨?_, ?_, ?_⟩ (A2.mono (by omega))
      · rw [depthM, depthM]
        omega
      · rw [sizeM, sizeM]
        omega
      · rw [widM, widM, List.length_map, List.length_take, List.length_map]
        omega
    | false =>
      refine ite_f ?_
      walk_at "wS"
      refine wb_cons (ws_if (wt_way b dd (w := w) (c := 2) (hwy _) ?_ (by rfl) (his _ _ _ _) ?_))
      · walk_at "wE"
        exact ⟨rfl, rfl⟩
      cases c2 : (decide (w = 2) && isTupM m) with
      | true =>
        obtain ⟨a, us, rfl, rfl, h1, hl, hu⟩ := tupOf c2
        have hw5 : us.length ≤ 500 := by
          rw [widM, List.length_map] at hw
          omega
        refine ite_t ?_
        walk_at "wx"
        refine rsl_tupF dd (frm_draw (d := p) (B := B + 1)) A1 h1 fun r Ha Hb sa A2 hr => ?_
        rw [cut_fromNeg, ← List.map_drop, List.length_map] at hr
        refine ro_catF dd (frm_draw (d := p) (B := B + 1)) A2 (sa.tup h1) hr (len_le (by rw [List.length_map, List.length_map, List.length_drop]; omega)) fun r2 Hc Hd sc A3 hr2 => ?_
        obtain ⟨t1, t2, t3⟩ := bd_drop (us.map (·.2)) (us.length - 1)
        have at2 := at_all (K := G.K) (H := H0) (us := us.drop (us.length - 1)) fun u hu2 => hu u (List.mem_of_mem_drop hu2)
        have at3 := ((at_all hu).keep (keep_of (sa.trans sc))).app (at2.keep (keep_of (sa.trans sc)))
        rw [← List.map_drop] at t1 t2 t3
        refine q _ (.tup (us.map (·.2) ++ (us.drop (us.length - 1)).map (·.2))) _ _ (sa.trans sc) (.tup hr2 (by rw [List.length_append, List.length_map, List.length_map, List.length_drop]; omega) at3) ⟨?_, ?_, ?_⟩ (A3.mono (by omega))
        · rw [depthM, depthM, depthL_append]
          omega
        · rw [sizeM, sizeM, sizeL_append]
          omega
        · rw [widM, widM, widL_append, List.length_append, List.length_map, List.length_map, List.length_drop]
          omega
      | false =>
        refine ite_f ?_
        walk_at "wS"
        refine wb_one ?_
        walk_at "wx"
        by_cases c5 : w < 5
        · rw [decide_eq_true c5]
          refine ite_t ?_
          refine we_call dd FO h4 (by decide +kernel) (by rfl) (by rfl) ?_
          walk_at "wx"
          exact ⟨H0, p, B + 1, rfl, A1, by omega, fun v' m' Ha Hb sa a1 a2 A2 => q v' m' Ha Hb sa a1 ⟨by have := a2.dep; omega, by have := a2.siz; omega, by have := a2.wid; omega⟩ A2⟩
        · rw [decide_eq_false c5]
          refine ite_f ?_
          walk_at "wn"
          exact q sv sm H0 H1 (Same.refl _) hs ⟨by have := hb.dep; omega, by have := hb.siz; omega, by have := hb.wid; omega⟩ (A1.mono (by omega))
end
theorem take_set {α : Type} {l : List α} {i : Nat} {x : α} (h : l[i]? = some x) : l = l.take i ++ x :: l.drop (i + 1) := by
  have hi : i < l.length := (List.getElem?_eq_some_iff.mp h).1
  have e := (List.getElem?_eq_some_iff.mp h).2
  rw [← e, List.getElem_cons_drop, List.take_append_drop]
theorem fn_spoilt (b : Bi G.mg) (FT : Fn G "_law_take" 2 2 spTake) (FO : Fn G "_law_odd" 1 4 (spOdd G.K)) (T : Top G "_law_spoilt" (top 47) ["_law_draw", "_law_matter", "_law_spare"]) : ∀ n, Fn G "_law_spoilt" 3 (5 + n) (spSpoilt n G.K)
  | 0 => by
    refine T.fn (k := 4) (N := nSpoilt) scSpoilt (fun vs H Q E h => ?_) (fun X vs H Q E d h => ?_)
    · obtain ⟨_, _, _, _, _, _, _, rfl, _⟩ := h
      rfl
    · obtain ⟨_, _, _, _, _, _, _, _, _, _, _, _, h, _⟩ := h
      omega
  | n + 1 => by
    have IH := fn_spoilt b FT FO T n
    refine T.fn (k := 5 + n) (N := nSpoilt) scSpoilt (fun vs H Q E h => ?_) (fun X vs H Q E d h => ?_)
    · obtain ⟨_, _, _, _, _, _, _, rfl, _⟩ := h
      rfl
    · have dd := d.toDef
      obtain ⟨H0, p, v, sv, m, sm, B, rfl, A, hB, hv, hs, hd, hw, hb, q⟩ := h
      show WB X _ _ [some (.ref p), some v, some sv, none, none] H
      have hv1 := At.same A.same _ _ hv
      refine wb_cons ?_
      walk_at "wx"
      refine rc_isi dd (ClsV.ty _) (at_ty hv1) (kit_bt (kit_tup m)) ?_
      walk_at "wx"
      cases et : isTupM m with
      | false =>
        refine ite_t (ite_t ?_)
        exact spoilt_way b d (by omega) FT FO A (by omega) hv hs hw hb (fun v' m' Ha Hb sa a1 a2 A2 => q v' m' Ha Hb sa a1 a2 (A2.mono (by omega))) (by kernel_rfl)
      | true =>
        refine ite_f ?_
        cases hv with
        | @tup a xs ms h1 hl h2 =>
          obtain ⟨us, rfl, rfl, hu⟩ := at_zip h2
          rw [List.length_map] at hl
          have hv : At G.K H0 (.ref a) (.tup (us.map (·.2))) := .tup h1 (by rw [List.length_map]; exact hl) h2
          walk_at "wx"
          refine rc_lenT dd (A.same.tup h1) ?_
          rw [List.length_map]
          walk_at "wx"
          by_cases h0 : us.length = 0
          · rw [decide_eq_true (by omega)]
            refine ite_t ?_
            exact spoilt_way b d (by omega) FT FO A (by omega) hv hs hw hb (fun v' m' Ha Hb sa a1 a2 A2 => q v' m' Ha Hb sa a1 a2 (A2.mono (by omega))) (by kernel_rfl)
          · rw [decide_eq_false (by omega)]
            refine ite_f ?_
            walk_at "wx"
            refine we_call dd FT (by omega) (by decide +kernel) (by rfl) (by rfl) ?_
            walk_at "wx"
            refine ⟨H0, p, B, 4, rfl, A, by omega, by decide, by decide, fun r H1 r0 r1 A1 => ?_⟩
            walk_at "wx"
            by_cases c0 : r = 0
            · rw [decide_eq_true c0]
              refine ite_t ?_
              exact spoilt_way b d (by omega) FT FO A1 (by omega) hv hs hw hb (fun v' m' Ha Hb sa a1 a2 A2 => q v' m' Ha Hb sa a1 a2 (A2.mono (by omega))) (by kernel_rfl)
            · rw [decide_eq_false c0]
              refine ite_f ?_
              walk_at "wx"
              refine we_call dd FT (by omega) (by decide +kernel) (by rfl) (by rfl) ?_
              walk_at "wx"
              refine rc_lenT dd (A1.same.tup h1) ?_
              rw [List.length_map]
              walk_at "wA"
              refine ⟨H0, p, B + 1, (us.length : Int), rfl, A1, by omega, by omega, by omega, fun i H2 i0 i1 A2 => ?_⟩
              obtain ⟨j, rfl⟩ : ∃ j : Nat, i = (j : Int) := ⟨i.toNat, by omega⟩
              have hj : j < us.length := by omega
              obtain ⟨u, hu1⟩ : ∃ u, us[j]? = some u := ⟨_, List.getElem?_eq_getElem hj⟩
              have hum := List.mem_of_getElem? hu1
              walk_at "wx"
              refine rsl_tupF dd (frm_draw (d := p) (B := B + 1 + 1)) A2 h1 fun p1 Ha Hb sa A3 hp1 => ?_
              rw [cut_to] at hp1
              walk_at "wE"
              walk_at "wA"
              refine we_call dd IH (by omega) (by decide +kernel) (by rfl) (by rfl) ?_
              walk_at "wA"
              walk_at "wn"
              walk_at "wA"
              walk_at "wE"
              walk_at "wn"
              walk_at "wn"
              refine rx_tup dd ((sa.trans A3.same).tup h1) (atI_nat (by rw [List.getElem?_map, hu1]; rfl)) ?_
              walk_at "wA"
              walk_at "wn"
              walk_at "wA"
              have hdm := depth_mem (List.mem_map.mpr ⟨u, hum, rfl⟩ : u.2 ∈ us.map (·.2))
              have hwm := wid_mem (List.mem_map.mpr ⟨u, hum, rfl⟩ : u.2 ∈ us.map (·.2))
              rw [depthM] at hd
              have hw' := hw
              rw [widM] at hw'
              refine ⟨Ha, p, u.1, sv, u.2, sm, B + 1 + 1, rfl, A3, by omega, At.same sa _ _ (hu u hum), At.same sa _ _ hs, by omega, by omega, hb, fun v' m' Hc Hd sc b1 b2 A4 => ?_⟩
              walk_at "wA"
              refine ⟨by show 1 ≤ sizeLine; decide, fun p2 hp2 => ?_⟩
              have np2 := A4.same.free hp2
              have A5 := A4.laid (o := .tup [v']) hp2
              have s5 := same_new (o := .tup [v']) np2
              refine ro_catF dd (frm_draw (d := p)) A5 ((sc.trans s5).tup hp1) (SqT.of upd_same) (len_le (by rw [List.length_take, List.length_map]; show _ + 1 ≤ _; omega)) fun p3 He Hf se A6 hp3 => ?_
              walk_at "wx"
              refine rsl_tupF dd (frm_draw (d := p)) A6 ((((sa.trans sc).trans s5).trans se).tup h1) fun p4 Hg Hh sg A7 hp4 => ?_
              rw [show ((j : Int) + 1) = ((j + 1 : Nat) : Int) from by omega, cut_from] at hp4
              refine ro_catF dd (frm_draw (d := p)) A7 (sg.tup hp3) hp4 (len_le (by rw [List.length_append, List.length_take, List.length_drop, List.length_map]; show _ + 1 + _ ≤ _; omega)) fun p5 Hi Hk si A8 hp5 => ?_
              have sAll := ((((sa.trans sc).trans s5).trans se).trans sg).trans si
              have g1 := at_all (K := G.K) (H := H0) (us := us.take j) fun w hw => hu w (List.mem_of_mem_take hw)
              have g3 := at_all (K := G.K) (H := H0) (us := us.drop (j + 1)) fun w hw => hu w (List.mem_of_mem_drop hw)
              have hat : AtAll G.K Hi (((us.map (·.1)).take j ++ [v']) ++ (us.map (·.1)).drop (j + 1)) (((us.map (·.2)).take j ++ [m']) ++ (us.map (·.2)).drop (j + 1)) := by
                rw [← List.map_take, ← List.map_take, ← List.map_drop, ← List.map_drop]
                exact AtAll.app ((g1.keep (keep_of sAll)).snoc (At.same (((s5.trans se).trans sg).trans si) _ _ b1)) (g3.keep (keep_of sAll))
              have ems := take_set (show (us.map (·.2))[j]? = some u.2 from by rw [List.getElem?_map, hu1]; rfl)
              have eD : depthL (us.map (·.2)) = max (depthL ((us.map (·.2)).take j)) (max (depthM u.2) (depthL ((us.map (·.2)).drop (j + 1)))) := by
                conv => lhs; rw [ems, depthL_append, depthL]
              have eS2 : sizeL (us.map (·.2)) = sizeL ((us.map (·.2)).take j) + (sizeM u.2 + sizeL ((us.map (·.2)).drop (j + 1))) := by
                conv => lhs; rw [ems, sizeL_append, sizeL]
              have eW : widL (us.map (·.2)) = max (widL ((us.map (·.2)).take j)) (max (widM u.2) (widL ((us.map (·.2)).drop (j + 1)))) := by
                conv => lhs; rw [ems, widL_append, widL]
              have q1 := b2.dep
              have q2 := b2.siz
              have q3 := b2.wid
              refine q _ (.tup (((us.map (·.2)).take j ++ [m']) ++ (us.map (·.2)).drop (j + 1))) _ _ sAll (.tup hp5 (by rw [List.length_append, List.length_append, List.length_take, List.length_drop, List.length_map]; show _ + 1 + _ ≤ _; omega) hat) ⟨?_, ?_, ?_⟩ (A8.mono (by omega))
              · rw [depthM, depthM, depthL_append, depthL_append, depthL, depthL]
                omega
              · rw [sizeM, sizeM, sizeL_append, sizeL_append, sizeL, sizeL]
                omega
              · rw [widM, widM, widL_append, widL_append, widL, widL, List.length_append, List.length_append, List.length_take, List.length_drop, List.length_map]
                show max (_ + 1 + _) _ ≤ _
                omega
        | _ => cases et
end K02

namespace K02
variable {G : Gb}
/-! ### _law_is_within: some answer, for what fits -/
def spWithinC (K : PySem.W.Frag) : Sp := fun vs H Q _ => ∃ (v : V) (m : M), vs = [v] ∧ At K H v m ∧ cellM m = true ∧ ∀ (c : Bool) (H' : Hp), Same H H' → Q (.bl c) H'
def spWithinS (K : PySem.W.Frag) : Sp := fun vs H Q _ => ∃ (v : V) (m : M), vs = [v] ∧ At K H v m ∧ (cellM m = true ∨ sheetM m = true) ∧ ∀ (c : Bool) (H' : Hp), Same H H' → Q (.bl c) H'
abbrev nWithin : List Str := ["_law_matter", "_law_points", "_law_word", "_law_name", "_law_low", "_law_high", "_law_cell"]
theorem scWithin : FnScope nWithin ["_law_matter"] (defScope (top 45)) := ⟨rfl, rfl, rfl, by decide +kernel, rfl, by decide +kernel, by decide +kernel⟩
theorem cell_head {m : M} (h : cellM m = true) : ∃ w ms, m = .tup (.str w :: ms) ∧ byRow rowC w ms = true := by
  have hs : shapedM m = true := by
    unfold cellM at h
    rw [Bool.and_eq_true] at h
    exact h.1
  obtain ⟨w, ms, _, rfl, _⟩ := shaped_head hs
  exact ⟨w, ms, rfl, by rw [← C_eq]; exact h⟩
section
variable {X : Cx} {H : Hp} {Q : VK} {W : WX} {k : Nat} {v : V} {m : M}
theorem within_cell (d : Fr X G nWithin (defScope (top 45)) k W) (hv : At G.K H v m) (hc : cellM m = true) (q : ∀ (c : Bool) (H' : Hp), Same H H' → Q (.bl c) H') : WB X (defBody (top 45)) { nx := fun _ H' => Q .non H', rt := Q } [some v, none, none, none, none, none, none] H := by
  have dd := d.toDef
  obtain ⟨w, ms, rfl, hr⟩ := cell_head hc
  cases hv with
  | @tup a xs _ h1 hl h2 =>
  cases h2 with
  | @cons _ xs _ _ g1 h2 =>
  cases g1
  obtain ⟨us, rfl, rfl, hu⟩ := at_zip h2
  unfold byRow at hr
  have hw : w ≠ "sheet" := by
    intro e
    subst e
    have : rowC.lookup ("sheet" : Str) = none := by decide +kernel
    rw [this] at hr
    cases hr
  show WB X (_ :: _) _ _ _
  refine wb_cons ?_
  walk_at "wx"
  refine rx_tup dd h1 (atI_nat (j := 0) rfl) ?_
  walk_at "wx"
  rw [decide_eq_false hw]
  refine ite_t ?_
  walk_at "wx"
  refine rx_tup dd h1 (atI_nat (j := 0) rfl) ?_
  walk_at "wx"
  by_cases c1 : w = "settle"
  · rw [decide_eq_true c1]
    refine ite_f ?_
    subst c1
    have : rowC.lookup ("settle" : Str) = some [.name, .small, .small, .free, .free] := by rfl
    rw [this] at hr
    have hr : (allM [.name, .small, .small, .free, .free] (us.map (·.2)) && _) = true := hr
    rw [Bool.and_eq_true] at hr
    obtain ⟨u1, u2, u3, us', i, j, rfl, e2, e3⟩ := all3 hr.1
    have a2 := hu u2 (by simp)
    have a3 := hu u3 (by simp)
    rw [e2] at a2
    rw [e3] at a3
    have v2 := int_at a2
    have v3 := int_at a3
    walk_at "wx"
    refine rx_tup dd h1 (atI_nat (j := 3) (show _ = some u3.1 from rfl)) ?_
    walk_at "wx"
    refine rx_tup dd h1 (atI_nat (j := 2) (show _ = some u2.1 from rfl)) ?_
    rw [v2, v3]
    walk_at "wx"
    exact q _ _ (Same.refl _)
  · rw [decide_eq_false c1]
    exact ite_t (q _ _ (Same.refl _))
theorem input_at {K : PySem.W.Frag} {v : V} {m : M} (h : At K H v m) (hi : inputM m = true) : ∃ (a : Addr) (vn : V) (lo hi : Int), v = .ref a ∧ SqT K H a [.str "input", vn, .int lo, .int hi] ∧ -999 ≤ lo ∧ lo ≤ 999 ∧ -999 ≤ hi ∧ hi ≤ 999 := by
  have hs : shapedM m = true := by
    unfold inputM at hi
    rw [Bool.and_eq_true] at hi
    exact hi.1
  obtain ⟨w, ms, _, rfl, _⟩ := shaped_head hs
  rw [I_eq] at hi
  unfold byRow at hi
  by_cases e : w = "input"
  · subst e
    have : rowI.lookup ("input" : Str) = some [.name, .small, .small] := by rfl
    rw [this] at hi
    have hi : (allM [.name, .small, .small] ms && _) = true := hi
    rw [Bool.and_eq_true] at hi
    have ha := hi.1
    match ms, ha with
    | [], ha => cases ha
    | [_], ha =>
      have ha : (fitM .name _ && false) = true := ha
      rw [Bool.and_false] at ha
      cases ha
    | [_, _], ha =>
      have ha : (fitM .name _ && (fitM .small _ && false)) = true := ha
      rw [Bool.and_false, Bool.and_false] at ha
      cases ha
    | m1 :: m2 :: m3 :: m4 :: r, ha =>
      have ha : (fitM .name _ && (fitM .small _ && (fitM .small _ && false))) = true := ha
      rw [Bool.and_false, Bool.and_false, Bool.and_false] at ha
      cases ha
    | [m1, m2, m3], ha =>
      have ha : (fitM .name m1 && (fitM .small m2 && (fitM .small m3 && true))) = true := ha
      simp only [Bool.and_eq_true] at ha
      obtain ⟨i, rfl⟩ := from_int (lo := -999) (hi := 999) ha.2.1
      obtain ⟨j, rfl⟩ := from_int (lo := -999) (hi := 999) ha.2.2.1
      have b1 : (decide (-999 ≤ i) && decide (i ≤ 999)) = true := ha.2.1
      have b2 : (decide (-999 ≤ j) && decide (j ≤ 999)) = true := ha.2.2.1
      simp only [Bool.and_eq_true, decide_eq_true_eq] at b1 b2
      cases h with
      | @tup a xs _ h1 hl h2 =>
      cases h2 with
      | cons g1 h2 =>
      cases h2 with
      | @cons vn _ _ _ g2 h2 =>
      cases h2 with
      | cons g3 h2 =>
      cases h2 with
      | cons g4 h2 =>
      cases h2
      cases g1
      cases g3
      cases g4
      exact ⟨a, vn, i, j, rfl, h1, b1.1, b1.2, b2.1, b2.2⟩
  · have : rowI.lookup w = none := lookup_none (by
      intro p hp e2
      simp only [rowI, List.mem_cons, List.not_mem_nil, or_false] at hp
      subst hp
      exact e e2.symm)
    rw [this] at hi
    cases hi
end
theorem fn_withinC (T : Top G "_law_is_within" (top 45) ["_law_matter"]) : Fn G "_law_is_within" 1 1 (spWithinC G.K) := by
  refine T.fn (k := 0) (N := nWithin) scWithin (fun vs H Q E h => ?_) (fun X vs H Q E d h => ?_)
  · obtain ⟨_, _, rfl, _⟩ := h
    rfl
  · obtain ⟨v, m, rfl, hv, hc, q⟩ := h
    exact within_cell d hv hc q
theorem fn_withinS (b : Bi G.mg) (FC : Fn G "_law_is_within" 1 1 (spWithinC G.K)) (T : Top G "_law_is_within" (top 45) ["_law_matter"]) : Fn G "_law_is_within" 1 2 (spWithinS G.K) := by
  refine T.fn (k := 1) (N := nWithin) scWithin (fun vs H Q E h => ?_) (fun X vs H Q E d h => ?_)
  · obtain ⟨_, _, rfl, _⟩ := h
    rfl
  · obtain ⟨v, m, rfl, hv, hc, q⟩ := h
    have dd := d.toDef
    rcases hc with hc | hc
    · exact within_cell d hv hc q
    · have hc0 := hc
      unfold sheetM at hc
      split at hc
      · rename_i w x y
        simp only [Bool.and_eq_true, decide_eq_true_eq] at hc
        obtain ⟨rfl, sx, sy, ix, cy⟩ := hc
        cases hv with
        | @tup a xs _ h1 hl h2 =>
        cases h2 with
        | cons g1 h2 =>
        cases h2 with
        | @cons vx _ _ _ g2 h2 =>
        cases h2 with
        | @cons vy _ _ _ g3 h2 =>
        cases h2
        cases g1
        obtain ⟨ax, us, rfl, rfl, tx1, lx, ux⟩ := some_at g2 sx
        obtain ⟨ay, ws, rfl, rfl, ty1, ly, uy⟩ := some_at g3 sy
        have ix : (us.map (·.2)).all inputM = true := ix
        have cy : (ws.map (·.2)).all cellM = true := cy
        show WB X _ _ [some (.ref a), none, none, none, none, none, none] H
        refine wb_cons ?_
        walk_at "wx"
        refine rx_tup dd h1 (atI_nat (j := 0) rfl) ?_
        walk_at "wx"
        rw [decide_eq_true rfl]
        refine ite_f ?_
        walk_at "wS"
        refine wb_cons ?_
        walk_at "wx"
        refine ws_forT d (by intro _; rfl) ?_
        walk_at "wE"
        walk_at "wn"
        walk_at "wE"
        refine rx_tup dd h1 (atI_nat (j := 1) rfl) ?_
        refine ⟨ax, us.map (·.1), rfl, tx1, fun i σ H' => Same H H' ∧ ∃ (pt : Int) (x2 x3 x4 x5 : Option V), σ = [some (.ref a), some (.int pt), x2, x3, x4, x5, none], ⟨Same.refl _, _, _, _, _, _, rfl⟩, fun i σ H' _ h => h.1.tup tx1, ?_, ?_⟩
        · rintro i x σ H' hi ⟨s1, pt, x2, x3, x4, x5, rfl⟩
          obtain ⟨u, hu1, rfl⟩ := map_at hi
          have hum := List.mem_of_getElem? hu1
          obtain ⟨ai, vn, lo, hi, eu, ti, b1, b2, b3, b4⟩ := input_at (ux u hum) (List.all_eq_true.mp ix _ (List.mem_map.mpr ⟨u, hum, rfl⟩))
          rw [eu]
          refine wg_tup dd (s1.tup ti) (by rfl) (by rfl) ?_
          repeat walk_at "wG"
          refine wb_cons ?_
          walk_at "wx"
          refine ro_mul (.inr ?_) ?_
          · have e64 : (2 : Int) ^ 64 = 18446744073709551616 := by decide
            omega
          walk_at "wx"
          by_cases c1 : hi - lo > 8
          · rw [decide_eq_true c1]
            refine ite_t ?_
            walk_at "wy"
            exact q _ _ s1
          · rw [decide_eq_false c1]
            refine ite_f ?_
            walk_at "wx"
            by_cases c2 : lo < -99
            · rw [decide_eq_true c2]
              refine ite_t ?_
              walk_at "wy"
              exact q _ _ s1
            · rw [decide_eq_false c2]
              refine ite_f ?_
              walk_at "wx"
              by_cases c3 : hi > 99
              · rw [decide_eq_true c3]
                refine ite_t ?_
                walk_at "wx"
                exact q _ _ s1
              · rw [decide_eq_false c3]
                refine ite_f ?_
                walk_at "wx"
                exact ⟨s1, _, _, _, _, _, rfl⟩
        · rintro σ H' ⟨s1, pt, x2, x3, x4, x5, rfl⟩
          refine wb_one (ws_ret ?_)
          walk_at "wx"
          by_cases c1 : pt ≤ 20000
          · rw [decide_eq_true c1]
            refine ite_t ?_
            walk_at "wx"
            refine rx_tup dd (s1.tup h1) (atI_nat (j := 1) rfl) ?_
            walk_at "wx"
            refine rc_lenT dd (s1.tup tx1) ?_
            walk_at "wx"
            by_cases c2 : (((us.map (·.1)).length : Nat) : Int) < 8
            · rw [decide_eq_true c2]
              refine ite_t ?_
              walk_at "wE"
              walk_at "wE"
              refine we_lcT dd [("_law_cell", 6)] (by decide +kernel) (by intro _; rfl) ?_
              walk_at "wE"
              walk_at "wn"
              walk_at "wE"
              refine rx_tup dd (s1.tup h1) (atI_nat (j := 2) rfl) ?_
              refine ⟨ay, ws.map (·.1), rfl, s1.tup ty1, fun L hL => ⟨fun i H3 => Same H' H3 ∧ ∃ xs, H3 L = some (.lst xs) ∧ xs.length ≤ i, ⟨same_new hL, [], upd_same, Nat.zero_le _⟩, fun i H3 _ h => (s1.trans h.1).tup ty1, fun i x H3 hx h => ?_, fun H3 h => ?_⟩⟩
              · obtain ⟨u, hu1, rfl⟩ := map_at hx
                have hum := List.mem_of_getElem? hu1
                have hi : i < ws.length := (List.getElem?_eq_some_iff.mp hu1).1
                obtain ⟨s3, xs3, e3, l3⟩ := h
                intro X' d'
                dsimp only [L2.wipe, List.map, List.set]
                walk_at "wg"
                refine ⟨rfl, fun X2 d2 => wts_one ?_⟩
                walk_at "wT"
                walk_at "wT"
                refine we_call d2 FC (by decide) (by decide +kernel) (by rfl) (by rfl) ?_
                walk_at "wA"
                walk_at "wn"
                walk_at "wA"
                refine ⟨u.1, u.2, rfl, At.same (s1.trans s3) _ _ (uy u hum), List.all_eq_true.mp cy _ (List.mem_map.mpr ⟨u, hum, rfl⟩), fun c H4 s4 => ?_⟩
                walk_at "wx"
                cases c with
                | true => exact ite_f ⟨s3.trans s4, xs3, s4 _ _ e3, by omega⟩
                | false =>
                  refine ite_t fun X3 d3 => ?_
                  walk_at "wn"
                  exact ⟨xs3, s4 _ _ e3, len_lt (by omega), same_upd (s3.trans s4) hL, _, upd_same, by rw [List.length_append, List.length_singleton]; omega⟩
              · obtain ⟨s3, xs3, e3, l3⟩ := h
                walk_at "wE"
                walk_at "wA"
                refine ⟨Nat.zero_le _, fun p hp => ?_⟩
                refine ro_eqEmpty dd (SqL.of (by rw [upd_ne (ne_of_none e3 hp)]; exact e3)) (SqL.of upd_same) ?_
                exact q _ _ ((s1.trans s3).trans (same_new hp))
            · rw [decide_eq_false c2]
              exact ite_f (q _ _ s1)
          · rw [decide_eq_false c1]
            exact ite_f (q _ _ s1)
      · cases hc
end K02

namespace K02
variable {G : Gb}
theorem table_rest2F {X : Cx} {W : WX} {Q : VK} {Fm : Hp → Hp → Prop} {H J0 G0 f0 : Hp} {t e : Addr} {ke : List (Key × V)} {w : Option V} (d : Fr X G ["_law_table_here", "_law_word"] (defScope (top 40)) 0 W) (ne : e ≠ t) (s0 : Same H J0) (ft0 : f0 t = some (.dK [(Sum.inr "E", .ref e)])) (fe_0 : f0 e = some (.dK ke))
    (R0 : RowIs G.K J0 ke rowE) (B0 : OverF Fm f0 J0 G0) (k : ∀ (t : Addr) (Hb H' : Hp), Same H Hb → Fm Hb H' → TabAt G.K Hb t → Q (V.ref t) H') {rest : List Stmt} (hr : (defBody (top 40)).drop 4 = rest) : WB X rest { nx := fun _ H' => Q .non H', rt := Q } [some (.ref t), w] G0 := by
    have dd := d.toDef
    subst hr
    show WB X (_ :: _) _ _ _
    refine wb_cons ?_
    with_reducible refine ws_dput (by with_reducible assumption) ?hr1 ?_
    case hr1 => rfl
    with_reducible refine we_disp (ps := ?ps1) ?hk1 ?h01 ?h151 ?hh1
    case hk1 => exact rfl
    case h01 => exact List.cons_ne_nil _ _
    case h151 => show 1 ≤ 15; decide
    intro c1 hc1
    have nt1 : t ≠ c1 := fun z => by rw [← z, B0.get ft0] at hc1; cases hc1
    have C1_0 := B0.new (o := .dK []) hc1
    with_reducible refine wd_cons ?_
    refine we_lit (G := G) frm_overF (by walk_at "lits") C1_0 fun w1_1 J1_1 L1_1 q1_1 C1_1 e1_1 => wd_nil ?_
    refine ⟨C1_1.get upd_same, ?_⟩
    rw [mergeK_nil (by simp only [List.map]; decide +kernel)]
    have D1 := C1_1.put (p := c1) (o' := .dK [((Sum.inr "input" : Key), w1_1)]) upd_same
    walk_at "wn"
    walk_at "wE"
    refine ⟨t, _, rfl, DPut.k (k := Sum.inr "I") (D1.get (p := t) (by rw [upd_ne nt1, upd_ne nt1]; exact ft0)) (by show 1 < sizeLine; decide), ?_⟩
    rw [show putK ([((Sum.inr "E" : Key), V.ref e)] : List (Key × V)) (Sum.inr "I") (V.ref c1) = [((Sum.inr "E" : Key), V.ref e), ((Sum.inr "I" : Key), V.ref c1)] from putK_new _ (by rfl)]
    have B1 := D1.put (p := t) (o' := .dK [((Sum.inr "E" : Key), V.ref e), ((Sum.inr "I" : Key), V.ref c1)]) (by rw [upd_ne nt1, upd_ne nt1]; exact ft0)
    have RR1 : RowIs G.K J1_1 [((Sum.inr "input" : Key), w1_1)] rowI := .cons e1_1 .nil
    have sq1 : Same J0 J1_1 := q1_1
    have ft1 : (upd (upd (upd f0 c1 (.dK [])) c1 (.dK [((Sum.inr "input" : Key), w1_1)])) t (.dK [((Sum.inr "E" : Key), V.ref e), ((Sum.inr "I" : Key), V.ref c1)])) t = some (.dK [((Sum.inr "E" : Key), V.ref e), ((Sum.inr "I" : Key), V.ref c1)]) := upd_same
    have fc1 : (upd (upd (upd f0 c1 (.dK [])) c1 (.dK [((Sum.inr "input" : Key), w1_1)])) t (.dK [((Sum.inr "E" : Key), V.ref e), ((Sum.inr "I" : Key), V.ref c1)])) c1 = some (.dK [((Sum.inr "input" : Key), w1_1)]) := by
      rw [upd_ne (fun z => nt1 z.symm)]
      exact upd_same
    have ne1 : e ≠ c1 := fun z => by rw [← z, B0.get fe_0] at hc1; cases hc1
    have fe_1 : (upd (upd (upd f0 c1 (.dK [])) c1 (.dK [((Sum.inr "input" : Key), w1_1)])) t (.dK [((Sum.inr "E" : Key), V.ref e), ((Sum.inr "I" : Key), V.ref c1)])) e = some (.dK ke) := by
      rw [upd_ne ne, upd_ne ne1, upd_ne ne1]
      exact fe_0
    have nc1 : c1 ≠ t := fun z => nt1 z.symm
    generalize hG1 : upd (upd L1_1 c1 (.dK [((Sum.inr "input" : Key), w1_1)])) t (.dK [((Sum.inr "E" : Key), V.ref e), ((Sum.inr "I" : Key), V.ref c1)]) = G1 at B1
    generalize hf1 : upd (upd (upd f0 c1 (.dK [])) c1 (.dK [((Sum.inr "input" : Key), w1_1)])) t (.dK [((Sum.inr "E" : Key), V.ref e), ((Sum.inr "I" : Key), V.ref c1)]) = f1 at *
    generalize hJ1 : J1_1 = J1 at *
    generalize hk1 : [((Sum.inr "input" : Key), w1_1)] = k1 at *
    have fc1_1 := fc1
    refine wb_cons ?_
    with_reducible refine ws_dput (by with_reducible assumption) ?hr2 ?_
    case hr2 => rfl
    with_reducible refine we_disp (ps := ?ps2) ?hk2 ?h02 ?h152 ?hh2
    case hk2 => exact rfl
    case h02 => exact List.cons_ne_nil _ _
    case h152 => show 3 ≤ 15; decide
    intro c2 hc2
    have nt2 : t ≠ c2 := fun z => by rw [← z, B1.get ft1] at hc2; cases hc2
    have C2_0 := B1.new (o := .dK []) hc2
    with_reducible refine wd_cons ?_
    refine we_lit (G := G) frm_overF (by walk_at "lits") C2_0 fun w2_1 J2_1 L2_1 q2_1 C2_1 e2_1 => wd_cons ?_
    refine we_lit (G := G) frm_overF (by walk_at "lits") C2_1 fun w2_2 J2_2 L2_2 q2_2 C2_2 e2_2 => wd_cons ?_
    refine we_lit (G := G) frm_overF (by walk_at "lits") C2_2 fun w2_3 J2_3 L2_3 q2_3 C2_3 e2_3 => wd_nil ?_
    refine ⟨C2_3.get upd_same, ?_⟩
    rw [mergeK_nil (by simp only [List.map]; decide +kernel)]
    have D2 := C2_3.put (p := c2) (o' := .dK [((Sum.inr "cell" : Key), w2_1), ((Sum.inr "row" : Key), w2_2), ((Sum.inr "settle" : Key), w2_3)]) upd_same
    walk_at "wn"
    walk_at "wE"
    refine ⟨t, _, rfl, DPut.k (k := Sum.inr "C") (D2.get (p := t) (by rw [upd_ne nt2, upd_ne nt2]; exact ft1)) (by show 2 < sizeLine; decide), ?_⟩
    rw [show putK ([((Sum.inr "E" : Key), V.ref e), ((Sum.inr "I" : Key), V.ref c1)] : List (Key × V)) (Sum.inr "C") (V.ref c2) = [((Sum.inr "E" : Key), V.ref e), ((Sum.inr "I" : Key), V.ref c1), ((Sum.inr "C" : Key), V.ref c2)] from putK_new _ (by rfl)]
    have B2 := D2.put (p := t) (o' := .dK [((Sum.inr "E" : Key), V.ref e), ((Sum.inr "I" : Key), V.ref c1), ((Sum.inr "C" : Key), V.ref c2)]) (by rw [upd_ne nt2, upd_ne nt2]; exact ft1)
    have RR2 : RowIs G.K J2_3 [((Sum.inr "cell" : Key), w2_1), ((Sum.inr "row" : Key), w2_2), ((Sum.inr "settle" : Key), w2_3)] rowC := .cons ((q2_2.trans q2_3).dp _ _ e2_1) (.cons (q2_3.dp _ _ e2_2) (.cons e2_3 .nil))
    have sq2 : Same J1 J2_3 := ((q2_1.trans q2_2).trans q2_3)
    have ft2 : (upd (upd (upd f1 c2 (.dK [])) c2 (.dK [((Sum.inr "cell" : Key), w2_1), ((Sum.inr "row" : Key), w2_2), ((Sum.inr "settle" : Key), w2_3)])) t (.dK [((Sum.inr "E" : Key), V.ref e), ((Sum.inr "I" : Key), V.ref c1), ((Sum.inr "C" : Key), V.ref c2)])) t = some (.dK [((Sum.inr "E" : Key), V.ref e), ((Sum.inr "I" : Key), V.ref c1), ((Sum.inr "C" : Key), V.ref c2)]) := upd_same
    have fc2 : (upd (upd (upd f1 c2 (.dK [])) c2 (.dK [((Sum.inr "cell" : Key), w2_1), ((Sum.inr "row" : Key), w2_2), ((Sum.inr "settle" : Key), w2_3)])) t (.dK [((Sum.inr "E" : Key), V.ref e), ((Sum.inr "I" : Key), V.ref c1), ((Sum.inr "C" : Key), V.ref c2)])) c2 = some (.dK [((Sum.inr "cell" : Key), w2_1), ((Sum.inr "row" : Key), w2_2), ((Sum.inr "settle" : Key), w2_3)]) := by
      rw [upd_ne (fun z => nt2 z.symm)]
      exact upd_same
    have ne2 : e ≠ c2 := fun z => by rw [← z, B1.get fe_1] at hc2; cases hc2
    have fe_2 : (upd (upd (upd f1 c2 (.dK [])) c2 (.dK [((Sum.inr "cell" : Key), w2_1), ((Sum.inr "row" : Key), w2_2), ((Sum.inr "settle" : Key), w2_3)])) t (.dK [((Sum.inr "E" : Key), V.ref e), ((Sum.inr "I" : Key), V.ref c1), ((Sum.inr "C" : Key), V.ref c2)])) e = some (.dK ke) := by
      rw [upd_ne ne, upd_ne ne2, upd_ne ne2]
      exact fe_1
    have nc12 : c1 ≠ c2 := fun z => by rw [← z, B1.get fc1_1] at hc2; cases hc2
    have fc1_2 : (upd (upd (upd f1 c2 (.dK [])) c2 (.dK [((Sum.inr "cell" : Key), w2_1), ((Sum.inr "row" : Key), w2_2), ((Sum.inr "settle" : Key), w2_3)])) t (.dK [((Sum.inr "E" : Key), V.ref e), ((Sum.inr "I" : Key), V.ref c1), ((Sum.inr "C" : Key), V.ref c2)])) c1 = some (.dK k1) := by
      rw [upd_ne nc1, upd_ne nc12, upd_ne nc12]
      exact fc1_1
    have nc2 : c2 ≠ t := fun z => nt2 z.symm
    generalize hG2 : upd (upd L2_3 c2 (.dK [((Sum.inr "cell" : Key), w2_1), ((Sum.inr "row" : Key), w2_2), ((Sum.inr "settle" : Key), w2_3)])) t (.dK [((Sum.inr "E" : Key), V.ref e), ((Sum.inr "I" : Key), V.ref c1), ((Sum.inr "C" : Key), V.ref c2)]) = G2 at B2
    generalize hf2 : upd (upd (upd f1 c2 (.dK [])) c2 (.dK [((Sum.inr "cell" : Key), w2_1), ((Sum.inr "row" : Key), w2_2), ((Sum.inr "settle" : Key), w2_3)])) t (.dK [((Sum.inr "E" : Key), V.ref e), ((Sum.inr "I" : Key), V.ref c1), ((Sum.inr "C" : Key), V.ref c2)]) = f2 at *
    generalize hJ2 : J2_3 = J2 at *
    generalize hk2 : [((Sum.inr "cell" : Key), w2_1), ((Sum.inr "row" : Key), w2_2), ((Sum.inr "settle" : Key), w2_3)] = k2 at *
    have fc2_2 := fc2
    refine wb_cons ?_
    with_reducible refine ws_dput (by with_reducible assumption) ?hr3 ?_
    case hr3 => rfl
    with_reducible refine we_disp (ps := ?ps3) ?hk3 ?h03 ?h153 ?hh3
    case hk3 => exact rfl
    case h03 => exact List.cons_ne_nil _ _
    case h153 => show 1 ≤ 15; decide
    intro c3 hc3
    have nt3 : t ≠ c3 := fun z => by rw [← z, B2.get ft2] at hc3; cases hc3
    have C3_0 := B2.new (o := .dK []) hc3
    with_reducible refine wd_cons ?_
    refine we_lit (G := G) frm_overF (by walk_at "lits") C3_0 fun w3_1 J3_1 L3_1 q3_1 C3_1 e3_1 => wd_nil ?_
    refine ⟨C3_1.get upd_same, ?_⟩
    rw [mergeK_nil (by simp only [List.map]; decide +kernel)]
    have D3 := C3_1.put (p := c3) (o' := .dK [((Sum.inr "sheet" : Key), w3_1)]) upd_same
    walk_at "wn"
    walk_at "wE"
    refine ⟨t, _, rfl, DPut.k (k := Sum.inr "S") (D3.get (p := t) (by rw [upd_ne nt3, upd_ne nt3]; exact ft2)) (by show 3 < sizeLine; decide), ?_⟩
    rw [show putK ([((Sum.inr "E" : Key), V.ref e), ((Sum.inr "I" : Key), V.ref c1), ((Sum.inr "C" : Key), V.ref c2)] : List (Key × V)) (Sum.inr "S") (V.ref c3) = [((Sum.inr "E" : Key), V.ref e), ((Sum.inr "I" : Key), V.ref c1), ((Sum.inr "C" : Key), V.ref c2), ((Sum.inr "S" : Key), V.ref c3)] from putK_new _ (by rfl)]
    have B3 := D3.put (p := t) (o' := .dK [((Sum.inr "E" : Key), V.ref e), ((Sum.inr "I" : Key), V.ref c1), ((Sum.inr "C" : Key), V.ref c2), ((Sum.inr "S" : Key), V.ref c3)]) (by rw [upd_ne nt3, upd_ne nt3]; exact ft2)
    have RR3 : RowIs G.K J3_1 [((Sum.inr "sheet" : Key), w3_1)] rowS2 := .cons e3_1 .nil
    have sq3 : Same J2 J3_1 := q3_1
    have ft3 : (upd (upd (upd f2 c3 (.dK [])) c3 (.dK [((Sum.inr "sheet" : Key), w3_1)])) t (.dK [((Sum.inr "E" : Key), V.ref e), ((Sum.inr "I" : Key), V.ref c1), ((Sum.inr "C" : Key), V.ref c2), ((Sum.inr "S" : Key), V.ref c3)])) t = some (.dK [((Sum.inr "E" : Key), V.ref e), ((Sum.inr "I" : Key), V.ref c1), ((Sum.inr "C" : Key), V.ref c2), ((Sum.inr "S" : Key), V.ref c3)]) := upd_same
    have fc3 : (upd (upd (upd f2 c3 (.dK [])) c3 (.dK [((Sum.inr "sheet" : Key), w3_1)])) t (.dK [((Sum.inr "E" : Key), V.ref e), ((Sum.inr "I" : Key), V.ref c1), ((Sum.inr "C" : Key), V.ref c2), ((Sum.inr "S" : Key), V.ref c3)])) c3 = some (.dK [((Sum.inr "sheet" : Key), w3_1)]) := by
      rw [upd_ne (fun z => nt3 z.symm)]
      exact upd_same
    have ne3 : e ≠ c3 := fun z => by rw [← z, B2.get fe_2] at hc3; cases hc3
    have fe_3 : (upd (upd (upd f2 c3 (.dK [])) c3 (.dK [((Sum.inr "sheet" : Key), w3_1)])) t (.dK [((Sum.inr "E" : Key), V.ref e), ((Sum.inr "I" : Key), V.ref c1), ((Sum.inr "C" : Key), V.ref c2), ((Sum.inr "S" : Key), V.ref c3)])) e = some (.dK ke) := by
      rw [upd_ne ne, upd_ne ne3, upd_ne ne3]
      exact fe_2
    have nc13 : c1 ≠ c3 := fun z => by rw [← z, B2.get fc1_2] at hc3; cases hc3
    have fc1_3 : (upd (upd (upd f2 c3 (.dK [])) c3 (.dK [((Sum.inr "sheet" : Key), w3_1)])) t (.dK [((Sum.inr "E" : Key), V.ref e), ((Sum.inr "I" : Key), V.ref c1), ((Sum.inr "C" : Key), V.ref c2), ((Sum.inr "S" : Key), V.ref c3)])) c1 = some (.dK k1) := by
      rw [upd_ne nc1, upd_ne nc13, upd_ne nc13]
      exact fc1_2
    have nc23 : c2 ≠ c3 := fun z => by rw [← z, B2.get fc2_2] at hc3; cases hc3
    have fc2_3 : (upd (upd (upd f2 c3 (.dK [])) c3 (.dK [((Sum.inr "sheet" : Key), w3_1)])) t (.dK [((Sum.inr "E" : Key), V.ref e), ((Sum.inr "I" : Key), V.ref c1), ((Sum.inr "C" : Key), V.ref c2), ((Sum.inr "S" : Key), V.ref c3)])) c2 = some (.dK k2) := by
      rw [upd_ne nc2, upd_ne nc23, upd_ne nc23]
      exact fc2_2
    have nc3 : c3 ≠ t := fun z => nt3 z.symm
    generalize hG3 : upd (upd L3_1 c3 (.dK [((Sum.inr "sheet" : Key), w3_1)])) t (.dK [((Sum.inr "E" : Key), V.ref e), ((Sum.inr "I" : Key), V.ref c1), ((Sum.inr "C" : Key), V.ref c2), ((Sum.inr "S" : Key), V.ref c3)]) = G3 at B3
    generalize hf3 : upd (upd (upd f2 c3 (.dK [])) c3 (.dK [((Sum.inr "sheet" : Key), w3_1)])) t (.dK [((Sum.inr "E" : Key), V.ref e), ((Sum.inr "I" : Key), V.ref c1), ((Sum.inr "C" : Key), V.ref c2), ((Sum.inr "S" : Key), V.ref c3)]) = f3 at *
    generalize hJ3 : J3_1 = J3 at *
    generalize hk3 : [((Sum.inr "sheet" : Key), w3_1)] = k3 at *
    refine wb_one ?_
    walk_at "wx"
    obtain ⟨FF, HB, B3, AB⟩ := B3
    have z3 := B3.same
    have z2 := sq3.trans z3
    have z1 := sq2.trans z2
    have z0 := sq1.trans z1
    exact k t HB G3 (s0.trans z0) AB ⟨e, c1, c2, c3, ke, k1, k2, k3, B3.get ft3, B3.get fe_3, R0.same z0, B3.get fc1_3, RR1.same z1, B3.get fc2_3, RR2.same z2, B3.get fc3, RR3.same z3⟩
end K02

namespace K02
variable {G : Gb}
theorem table_restF {X : Cx} {W : WX} {Q : VK} {Fm : Hp → Hp → Prop} {H H6 H' f : Hp} {t e : Addr} {ke : List (Key × V)} {w : Option V} (d : Fr X G ["_law_table_here", "_law_word"] (defScope (top 40)) 0 W) (nte : t ≠ e) (s0 : Same H H6) (ft : f t = some (.dK [(Sum.inr "E", .ref e)])) (fe : f e = some (.dK ke))
    (R : RowIs G.K H6 ke ((rowE1 ++ rowE2) ++ rowE3a)) (B : OverF Fm f H6 H') (k : ∀ (t : Addr) (Hb H' : Hp), Same H Hb → Fm Hb H' → TabAt G.K Hb t → Q (V.ref t) H') {rest : List Stmt} (hr : (defBody (top 40)).drop 3 = rest) : WB X rest { nx := fun _ H' => Q .non H', rt := Q } [some (.ref t), w] H' := by
    have dd := d.toDef
    subst hr
    show WB X (_ :: _) _ _ _
    refine wb_cons ?_
    refine ws_asgE d (by rfl) (by intro _; rfl) (by rfl) ?_
    walk_at "wE"
    walk_at "wA"
    refine we_lit (G := G) frm_overF (by walk_at "lits") B fun v1 H1 G1 s1 B1 d1 => ?_
    walk_at "wA"
    refine we_lit (G := G) frm_overF (by walk_at "lits") B1 fun v2 H2 G2 s2 B2 d2 => ?_
    walk_at "wA"
    refine ⟨by show 2 ≤ sizeLine; decide, fun p hp => ?_⟩
    have B3 := frm_overF.laid (o := .tup [v1, v2]) B2 hp
    have np : H2 p = none := (B2.free hp).2
    refine wg_tup dd (vs := [v1, v2]) (SqT.of upd_same) (by rfl) (by rfl) ?_
    refine wgs_cons (by rfl) (wg_sub dd ?_)
    refine we_dget dd (by intro _ _; rfl) ?_
    walk_at "wE"
    walk_at "wE"
    refine ⟨t, .ref e, rfl, dgk (B3.get ft) (by rfl), ?_⟩
    walk_at "wE"
    have l16 : ke.length = 19 := R.len
    refine ⟨e, _, rfl, DPut.k (k := Sum.inr "choose") (B3.get fe) (by rw [l16]; decide), ?_⟩
    have R1 := R.same (s1.trans (s2.trans (same_new (o := .tup [v1, v2]) np)))
    rw [putK_new _ (R1.none (w := "choose") (by decide +kernel))]
    have B4 := B3.put (o' := .dK (ke ++ [((Sum.inr "choose" : Key), v1)])) fe
    have ft4 : (upd f e (.dK (ke ++ [((Sum.inr "choose" : Key), v1)]))) t = some (.dK [(Sum.inr "E", .ref e)]) := by rw [upd_ne nte]; exact ft
    have R4 := R1.app (z := "choose") (ss := [.E, .E, .E]) ((s2.trans (same_new (o := .tup [v1, v2]) np)).dp _ _ d1)
    refine wgs_cons (by rfl) (wg_sub dd ?_)
    refine we_dget dd (by intro _ _; rfl) ?_
    walk_at "wE"
    walk_at "wE"
    refine ⟨t, .ref e, rfl, dgk (B4.get ft4) (by rfl), ?_⟩
    walk_at "wE"
    refine ⟨e, _, rfl, DPut.k (k := Sum.inr "cases") (B4.get upd_same) (by rw [R4.len]; decide), ?_⟩
    rw [putK_new _ (R4.none (w := "cases") (by decide +kernel))]
    have B5 := B4.put (p := e) (o' := .dK ((ke ++ [((Sum.inr "choose" : Key), v1)]) ++ [((Sum.inr "cases" : Key), v2)])) upd_same
    have ft5 : (upd (upd f e (.dK (ke ++ [((Sum.inr "choose" : Key), v1)]))) e (.dK ((ke ++ [((Sum.inr "choose" : Key), v1)]) ++ [((Sum.inr "cases" : Key), v2)]))) t = some (.dK [(Sum.inr "E", .ref e)]) := by rw [upd_ne nte]; exact ft4
    have fe5 : (upd (upd f e (.dK (ke ++ [((Sum.inr "choose" : Key), v1)]))) e (.dK ((ke ++ [((Sum.inr "choose" : Key), v1)]) ++ [((Sum.inr "cases" : Key), v2)]))) e = some (.dK ((ke ++ [((Sum.inr "choose" : Key), v1)]) ++ [((Sum.inr "cases" : Key), v2)])) := upd_same
    have R5 : RowIs G.K (upd H2 p (.tup [v1, v2])) _ rowE := R4.app (z := "cases") (ss := [.E, .pairs, .E]) ((same_new (o := .tup [v1, v2]) np).dp _ _ d2)
    have s5 : Same H (upd H2 p (.tup [v1, v2])) := (((s0.trans s1).trans s2).trans (same_new np))
    generalize (ke ++ [((Sum.inr "choose" : Key), v1)]) ++ [((Sum.inr "cases" : Key), v2)] = k5 at *
    generalize hG5 : upd (upd (upd G2 p (.tup [v1, v2])) e (.dK (ke ++ [((Sum.inr "choose" : Key), v1)]))) e (.dK k5) = G5 at B5 ⊢
    generalize upd (upd f e (.dK (ke ++ [((Sum.inr "choose" : Key), v1)]))) e (.dK k5) = f5 at B5 ft5 fe5
    generalize upd H2 p (.tup [v1, v2]) = H5 at B5 R5 s5
    clear hG5 R4 B4 ft4 R1 B3 B2 d1 d2 s1 s2 np B1 hp
    refine wgs_nil ?_
    exact table_rest2F d (fun z => nte z.symm) s5 ft5 fe5 R5 B5 k (by kernel_rfl)
end K02

namespace K02
variable {G : Gb}
def spTableF (K : PySem.W.Frag) : Sp := fun vs H Q _ => ∃ (Fm : Hp → Hp → Prop) (H0 : Hp), vs = [] ∧ FrmP Fm ∧ Fm H0 H ∧ ∀ (t : Addr) (Hb H' : Hp), Same H0 Hb → Fm Hb H' → TabAt K Hb t → Q (.ref t) H'
theorem fn_tableF (T : Top G "_law_table" (top 40) []) : Fn G "_law_table" 0 1 (spTableF G.K) := by
  refine T.fn (N := ["_law_table_here", "_law_word"]) ⟨rfl, rfl, rfl, by decide +kernel, rfl, by decide +kernel, by decide +kernel⟩ (fun vs H Q E h => ?_) (fun X vs H Q E d h => ?_)
  · obtain ⟨_, _, rfl, _⟩ := h
    rfl
  · have dd := d.toDef
    obtain ⟨Fm, H0, rfl, F0, A0, k⟩ := h
    show WB X _ _ [none, none] H
    refine wb_cons ?_
    walk_at "wS"
    with_reducible refine we_disp (ps := ?ps1) ?hk1 ?h01 ?h151 ?hh1
    case hk1 => exact rfl
    case h01 => exact List.cons_ne_nil _ _
    case h151 => show 1 ≤ 15; decide
    intro t ht
    with_reducible refine wd_cons ?_
    with_reducible refine we_disp (ps := ?ps2) ?hk2 ?h02 ?h152 ?hh2
    case hk2 => exact rfl
    case h02 => exact List.cons_ne_nil _ _
    case h152 => show 6 ≤ 15; decide
    intro e he
    with_reducible refine wd_cons ?_
    have A := (overF_nil F0 A0).new (o := .dK []) ht
    have nte : t ≠ e := fun z => by rw [← z, upd_same] at he; cases he
    have A := A.new (o := .dK []) he
    refine we_lit (G := G) frm_overF (by walk_at "lits") A fun v1 H1 G1 s1 A1 d1 => wd_cons ?_
    refine we_lit (G := G) frm_overF (by walk_at "lits") A1 fun v2 H2 G2 s2 A2 d2 => wd_cons ?_
    refine we_lit (G := G) frm_overF (by walk_at "lits") A2 fun v3 H3 G3 s3 A3 d3 => wd_cons ?_
    refine we_lit (G := G) frm_overF (by walk_at "lits") A3 fun v4 H4 G4 s4 A4 d4 => wd_cons ?_
    refine we_lit (G := G) frm_overF (by walk_at "lits") A4 fun v5 H5 G5 s5 A5 d5 => wd_cons ?_
    refine we_lit (G := G) frm_overF (by walk_at "lits") A5 fun v6 H6 G6 s6 A6 d6 => wd_nil ?_
    refine ⟨A6.get upd_same, wd_nil ⟨?_, ?_⟩⟩
    · rw [upd_ne nte]
      exact A6.get (by rw [upd_ne nte]; exact upd_same)
    rw [mergeK_nil (by simp only [List.map]; decide +kernel)]
    have B := (A6.put (o' := .dK [(Sum.inr "number", v1), (Sum.inr "name", v2), (Sum.inr "item", v3), (Sum.inr "place", v4), (Sum.inr "at", v5), (Sum.inr "not", v6)]) upd_same).put (p := t) (o := .dK []) (o' := .dK [(Sum.inr "E", .ref e)]) (by rw [upd_ne nte, upd_ne nte]; exact upd_same)
    rw [mergeK_nil (by simp only [List.map]; decide +kernel)]
    have R0 : RowIs G.K H6 [(Sum.inr "number", v1), (Sum.inr "name", v2), (Sum.inr "item", v3), (Sum.inr "place", v4), (Sum.inr "at", v5), (Sum.inr "not", v6)] rowE1 :=
      .cons (((((s2.trans s3).trans s4).trans s5).trans s6).dp _ _ d1) (.cons ((((s3.trans s4).trans s5).trans s6).dp _ _ d2) (.cons (((s4.trans s5).trans s6).dp _ _ d3) (.cons ((s5.trans s6).dp _ _ d4) (.cons (s6.dp _ _ d5) (.cons d6 .nil)))))
    have s06 : Same H0 H6 := ((((s1.trans s2).trans s3).trans s4).trans s5).trans s6
    generalize hG : upd (upd G6 e _) t _ = Gh at B ⊢
    clear hG d1 d2 d3 d4 d5 d6 s1 s2 s3 s4 s5 s6 A1 A2 A3 A4 A5 A6 A
    generalize hk0 : ([(Sum.inr "number", v1), (Sum.inr "name", v2), (Sum.inr "item", v3), (Sum.inr "place", v4), (Sum.inr "at", v5), (Sum.inr "not", v6)] : List (Key × V)) = ke at B R0
    clear hk0
    have ft0 : (upd (upd (upd (upd no t (.dK [])) e (.dK [])) e (.dK ke)) t (.dK [(Sum.inr "E", .ref e)])) t = some (.dK [(Sum.inr "E", .ref e)]) := upd_same
    have fe0 : (upd (upd (upd (upd no t (.dK [])) e (.dK [])) e (.dK ke)) t (.dK [(Sum.inr "E", .ref e)])) e = some (.dK ke) := by
      rw [upd_ne (fun z => nte z.symm)]
      exact upd_same
    generalize upd (upd (upd (upd no t (.dK [])) e (.dK [])) e (.dK ke)) t (.dK [(Sum.inr "E", .ref e)]) = f0 at B ft0 fe0
    have B0 := B
    have R0 := R0
    show WB X _ _ [some (.ref t), none] Gh
    refine wb_cons ?_
    refine ws_forL d (by intro _; rfl) ?_
    refine we_lit (G := G) frm_overF (by walk_at "lits") B0 fun y L0_0 HL_0 sL_0 BL_0 dL_0 => ?_
    obtain ⟨aL_0, xsL_0, rfl, qL_0, eL_0⟩ : ∃ a xs, y = .ref a ∧ SqL G.K L0_0 a xs ∧ xs = twos.map V.str := by
      cases dL_0 with
      | @lst a xs _ h1 h2 => exact ⟨a, xs, rfl, h1, strs_of (ss := twos) h2⟩
    refine ⟨aL_0, xsL_0, rfl, (frm_overF.same BL_0).seq qL_0, fun i σ H' => ∃ (f : Hp) (Hb : Hp) (ke : List (Key × V)) (w : Option V), Same L0_0 Hb ∧ OverF Fm f Hb H' ∧ f t = some (.dK [(Sum.inr "E", .ref e)]) ∧ f e = some (.dK ke) ∧ RowIs G.K Hb ke (rowE1 ++ rowE2.take i) ∧ σ = [some (.ref t), w], ⟨_, L0_0, _, _, Same.refl _, BL_0, ft0, fe0, by rw [List.take_zero, List.append_nil]; exact R0.same sL_0, rfl⟩, ?_, ?_, ?_⟩
    · rintro i σ H' _ ⟨f, Hb, kf, w, sb, Bf, _⟩
      exact ((sb.trans (frm_overF.same Bf))).seq qL_0
    · rintro i x σ H' hi ⟨f, Hb, kf, w, sb, Bf, ft, fe, Rf, rfl⟩
      rw [eL_0] at hi
      obtain ⟨z, hz, rfl⟩ := map_at hi
      walk_at "wG"
      walk_at "wS"
      with_reducible refine ws_dput (by with_reducible assumption) ?hr ?_
      case hr => rfl
      refine we_lit (G := G) frm_overF (by walk_at "lits") Bf fun v1 H1 G1 s1 B1 d1 => ?_
      refine we_dget dd (by intro _ _; rfl) ?_
      walk_at "wE"
      walk_at "wE"
      refine ⟨t, .ref e, rfl, dgk (B1.get ft) (by rfl), ?_⟩
      walk_at "wn"
      have hrow := at2 hz
      refine ⟨e, _, rfl, DPut.k (k := Sum.inr z) (B1.get fe) (by rw [Rf.len]; exact len_lt (Nat.lt_trans (few2 i) (by decide))), ?_⟩
      rw [putK_new _ (Rf.none hrow.2)]
      refine ⟨_, H1, kf ++ [(Sum.inr z, v1)], _, sb.trans s1, B1.put fe, ?_, upd_same, ?_, rfl⟩
      · rw [upd_ne nte]
        exact ft
      · rw [take_succ hrow.1, ← List.append_assoc]
        exact (Rf.same s1).app d1
    rintro σ H' ⟨f1, J1, ke1, w1, sb1, B1, ft1, fe1, R1, rfl⟩
    rw [eL_0, List.length_map, show List.take twos.length rowE2 = rowE2 from rfl] at R1
    refine wb_cons ?_
    refine ws_forL d (by intro _; rfl) ?_
    refine we_lit (G := G) frm_overF (by walk_at "lits") B1 fun y L0_1 HL_1 sL_1 BL_1 dL_1 => ?_
    obtain ⟨aL_1, xsL_1, rfl, qL_1, eL_1⟩ : ∃ a xs, y = .ref a ∧ SqL G.K L0_1 a xs ∧ xs = threes.map V.str := by
      cases dL_1 with
      | @lst a xs _ h1 h2 => exact ⟨a, xs, rfl, h1, strs_of (ss := threes) h2⟩
    refine ⟨aL_1, xsL_1, rfl, (frm_overF.same BL_1).seq qL_1, fun i σ H' => ∃ (f : Hp) (Hb : Hp) (ke : List (Key × V)) (w : Option V), Same L0_1 Hb ∧ OverF Fm f Hb H' ∧ f t = some (.dK [(Sum.inr "E", .ref e)]) ∧ f e = some (.dK ke) ∧ RowIs G.K Hb ke ((rowE1 ++ rowE2) ++ rowE3a.take i) ∧ σ = [some (.ref t), w], ⟨_, L0_1, _, _, Same.refl _, BL_1, ft1, fe1, by rw [List.take_zero, List.append_nil]; exact R1.same sL_1, rfl⟩, ?_, ?_, ?_⟩
    · rintro i σ H' _ ⟨f, Hb, kf, w, sb, Bf, _⟩
      exact ((sb.trans (frm_overF.same Bf))).seq qL_1
    · rintro i x σ H' hi ⟨f, Hb, kf, w, sb, Bf, ft, fe, Rf, rfl⟩
      rw [eL_1] at hi
      obtain ⟨z, hz, rfl⟩ := map_at hi
      walk_at "wG"
      walk_at "wS"
      with_reducible refine ws_dput (by with_reducible assumption) ?hr ?_
      case hr => rfl
      refine we_lit (G := G) frm_overF (by walk_at "lits") Bf fun v1 H1 G1 s1 B1 d1 => ?_
      refine we_dget dd (by intro _ _; rfl) ?_
      walk_at "wE"
      walk_at "wE"
      refine ⟨t, .ref e, rfl, dgk (B1.get ft) (by rfl), ?_⟩
      walk_at "wn"
      have hrow := at3 hz
      refine ⟨e, _, rfl, DPut.k (k := Sum.inr z) (B1.get fe) (by rw [Rf.len]; exact len_lt (Nat.lt_trans (few3 i) (by decide))), ?_⟩
      rw [putK_new _ (Rf.none hrow.2)]
      refine ⟨_, H1, kf ++ [(Sum.inr z, v1)], _, sb.trans s1, B1.put fe, ?_, upd_same, ?_, rfl⟩
      · rw [upd_ne nte]
        exact ft
      · rw [take_succ hrow.1, ← List.append_assoc]
        exact (Rf.same s1).app d1
    rintro σ H' ⟨f2, J2, ke2, w2, sb2, B2, ft2, fe2, R2, rfl⟩
    rw [eL_1, List.length_map, show List.take threes.length rowE3a = rowE3a from rfl] at R2
    exact table_restF d nte ((s06.trans sL_0).trans ((sb1.trans sL_1).trans sb2)) ft2 fe2 R2 B2 k (by kernel_rfl)
end K02

namespace K02
variable {G : Gb}
abbrev nLaw : List Str := ["_law_script", "_law_draw", "_law_table_here", "_law_judges", "_law_turn", "_law_names_here", "_law_sheet", "_law_tree", "_law_cells", "_law_some", "_law_matter", "_law_spare", "_law_lap", "_law_sort", "_law_judge", "_law_due", "_law_word"]
theorem scLaw : FnScope nLaw ["_law_script"] (defScope (top 48)) := ⟨rfl, rfl, rfl, by decide +kernel, rfl, by decide +kernel, by decide +kernel⟩
/-- what a judge of the sort s promises -/
def spJ (s : Srt) (K : PySem.W.Frag) : Sp := fun vs H Q _ => ∃ (v : V) (m : M), vs = [v] ∧ At K H v m ∧ sizeM m ≤ 100000 ∧ ∀ H', Same H H' → Q (.bl (fitM s m)) H'
def gOneJ {α : Type} : List α → List α → List α
  | [], zs => zs
  | _ :: _, _ => []
structure Judge (G : Gb) (s : Srt) (f : Addr) : Prop where
  is : ∃ (x : Str) (j : Nat), G.mg x = some (.ref f) ∧ Fn G x 1 j (spJ s G.K) ∧ FnK G x ["thing"] gOneJ j (spJ s G.K) ∧ j ≤ 8
structure Lw (G : Gb) : Prop where
  b : Bi G.mg
  FB : Fn G "_law_begun" 1 1 (spBegun G.K)
  FTb : Fn G "_law_table" 0 1 (spTableF G.K)
  FT : Fn G "_law_take" 2 2 spTake
  FP : Fn G "_law_pick" 2 3 (spPick G.K)
  FN : Fn G "_law_names" 2 4 spNames
  FSh : Fn G "_law_any_sheet" 3 16 (spAnySheet G.K)
  FE4 : Fn G "_law_any_expression" 3 9 (spExprD 4 G.K)
  FE2 : Fn G "_law_any_expression" 3 7 (spExprD 2 G.K)
  FC : Fn G "_law_any_cell" 4 14 (spAnyCell G.K)
  FO : Fn G "_law_odd" 1 4 (spOdd G.K)
  FF : Fn G "_law_fits" 3 227 (spFits 89 G.K)
  FS : Fn G "_law_spoilt" 3 65 (spSpoilt 60 G.K)
  FW : Fn G "_law_is_within" 1 2 (spWithinS G.K)
section
variable {X : Cx} {W : WX} {Q : VK} {Hb H : Hp} {p t f : Addr} {v : V} {m : M} {s : Srt} {B : Nat}
/-- one judge beside the law's own -/
theorem law_judge (L : Lw G) (d : Fr X G nLaw (defScope (top 48)) 230 W) (gd : X.A.guards = some []) (J : Judge G s f) (hs : s = .E ∨ s = .C ∨ s = .S) (T : TabAt G.K Hb t) (A : DrawAt Hb H p B) (hv : At G.K Hb v m) (hd : depthM m ≤ 44) (hz : sizeM m ≤ 100000)
    {x0 x3 x4 x5 x6 x7 x8 x9 x11 x12 x15 : Option V} {NX : L2.St → Hp → Prop} {rt : VK}
    (next : ∀ H1, DrawAt Hb H1 p B → NX [x0, some (.ref p), some (.ref t), x3, x4, x5, x6, x7, x8, x9, some v, x11, x12, some (.str (srtS s)), some (.ref f), some (.bl (fitM s m)), none] H1) {bk ct : L2.St → Hp → Prop} {sts : List Stmt} (hr : (match (defBody (top 48)).getD 2 (.Pass ⟨0, 0, 0, 0⟩) with
      | .For _ _ b1 _ _ => (match b1.getD 4 (.Pass ⟨0, 0, 0, 0⟩) with
        | .For _ _ b2 _ _ => (match b2.getD 1 (.Pass ⟨0, 0, 0, 0⟩) with
          | .For _ _ b3 _ _ => (match b3.getD 0 (.Pass ⟨0, 0, 0, 0⟩) with
            | .For _ _ b4 _ _ => b4
            | _ => [])
          | _ => [])
        | _ => [])
      | _ => []) = sts) :
    WB X sts { nx := NX, rt := rt, bk := bk, ct := ct } [x0, some (.ref p), some (.ref t), x3, x4, x5, x6, x7, x8, x9, some v, x11, x12, some (.str (srtS s)), some (.ref f), x15, none] H := by
  have dd := d.toDef
  have b := L.b
  subst hr
  obtain ⟨x, j, hf, F, FK, hj⟩ := J.is
  show WB X (_ :: _) _ _ _
  refine wb_cons ?_
  walk_at "wx"
  refine we_call dd L.FF (by decide) (by decide +kernel) (by rfl) (by rfl) ?_
  walk_at "wx"
  have hrk : rkS s = 0 := by rcases hs with rfl | rfl | rfl <;> rfl
  have hsd : srtD s = .str (srtS s) := by rcases hs with rfl | rfl | rfl <;> rfl
  refine ⟨t, .str (srtS s), v, s, m, rfl, T.same A.same, by rw [hsd]; exact .str _, At.same A.same _ _ hv, by omega, by omega, fun H1 s1 => ?_⟩
  have A1 := A.keep s1
  refine wb_one ?_
  refine ws_if ?_
  refine wt_ww (ww_and (wt_mono (QT := fun _ H2 => Same H1 H2) (fun kb H2 s2 => ?_) ?_))
  · have A2 := A1.keep s2
    cases kb with
    | false =>
      refine ite_f (ite_f ?_)
      walk_at "wS"
      exact next _ A2
    | true =>
      refine ite_t (ww_and1 ?_)
      walk_at "wT"
      walk_at "wE"
      walk_at "wA"
      walk_at "wE"
      walk_at "wA"
      refine we_callLoc dd F (by omega) hf 14 rfl (by decide +kernel) rfl (by rfl) (by rfl) ?_
      walk_at "wA"
      walk_at "wn"
      walk_at "wA"
      refine ⟨v, m, rfl, At.same A2.same _ _ hv, hz, fun H3 s3 => ?_⟩
      have A3 := A2.keep s3
      walk_at "wA"
      refine we_callLocK dd FK (by omega) hf 14 rfl (by decide +kernel) rfl (by rfl) (by rfl) (by rfl) ?_
      walk_at "wA"
      walk_at "wn"
      walk_at "wA"
      refine ⟨v, m, rfl, At.same A3.same _ _ hv, hz, fun H4 s4 => ?_⟩
      have A4 := A3.keep s4
      dsimp only
      generalize hcc : fitM s m = c at next ⊢
      have key : (PyData.list [.bool c, .bool c]).showable = true ∧ (PyData.list [.bool c, .bool c]).hasDict = false ∧ (PyData.list [.bool c, .bool c]).depth + 1 ≤ 64 ∧ (PyData.list [.bool c, .bool c]).shown.length ≤ 1000 := by cases c <;> decide +kernel
      obtain ⟨k1, k2, k3, k4⟩ := key
      walk_at "wA"
      refine ⟨by show 2 ≤ sizeLine; decide, fun q1 hq1 => ?_⟩
      walk_at "wA"
      have s5 := same_new (o := .lst [.bl c, .bl c]) hq1
      refine rc_reprD dd gd (da := .list [.bool c, .bool c]) (.lst (SqL.of upd_same) (.cons (.bl _) (.cons (.bl _) .nil))) k1 k2 k3 (len_le (by omega)) ?_
      have A5 := A4.keep s5
      generalize upd H4 q1 (.lst [.bl c, .bl c]) = H5 at A5 ⊢
      walk_at "wE"
      walk_at "wA"
      walk_at "wE"
      walk_at "wA"
      walk_at "wn"
      walk_at "wA"
      walk_at "wn"
      walk_at "wA"
      refine ⟨by show 2 ≤ sizeLine; decide, fun q2 hq2 => ?_⟩
      walk_at "wA"
      have s6 := same_new (o := .lst [.bl c, .bl c]) hq2
      refine rc_reprD dd gd (da := .list [.bool c, .bool c]) (.lst (SqL.of upd_same) (.cons (.bl _) (.cons (.bl _) .nil))) k1 k2 k3 (len_le (by omega)) ?_
      have A6 := A5.keep s6
      refine ro_neS ?_
      rw [ne_self]
      refine ⟨_, rfl, ite_f ?_⟩
      walk_at "wS"
      exact next _ A6
  · refine wt_ww (ww_or ?_)
    walk_at "wT"
    walk_at "wT"
    walk_at "wn"
    refine ⟨_, rfl, ?_⟩
    cases ec : fitM s m with
    | false =>
      refine ite_t ?_
      exact Same.refl _
    | true =>
      refine ite_f ?_
      refine ww_or ?_
      walk_at "wT"
      walk_at "wn"
      walk_at "wE"
      walk_at "wR"
      refine ⟨_, rfl, ?_⟩
      rcases hs with rfl | hs
      · rw [show decide (srtS .E = "E") = true from by decide +kernel]
        exact ite_t (Same.refl _)
      · rw [show decide (srtS s = "E") = false from by rcases hs with rfl | rfl <;> decide +kernel]
        refine ite_f (ww_or1 ?_)
        walk_at "wT"
        refine we_call dd L.FW (by decide) (by decide +kernel) (by rfl) (by rfl) ?_
        walk_at "wA"
        walk_at "wn"
        walk_at "wA"
        refine ⟨v, m, rfl, At.same A1.same _ _ hv, ?_, fun c H2 s2 => ⟨_, rfl, s2⟩⟩
        rcases hs with rfl | rfl
        · exact .inl ec
        · exact .inr ec
end
end K02

namespace K02
variable {G : Gb}
def zS : Nat → Nat
  | 0 => 2300
  | n + 1 => 2 * zS n + 3000
theorem zS_le {n : Nat} (h : n ≤ 4) : zS n ≤ 81800 := by
  match n, h with
  | 0, _ => decide
  | 1, _ => decide
  | 2, _ => decide
  | 3, _ => decide
  | 4, _ => decide
structure JAt (G : Gb) (H : Hp) (Lj : Addr) : Prop where
  is : ∃ xs : List V, H Lj = some (.lst xs) ∧ ∀ x ∈ xs, ∃ (a f : Addr) (s : Srt), x = .ref a ∧ SqT G.K H a [.str (srtS s), .ref f] ∧ Judge G s f ∧ (s = .E ∨ s = .C ∨ s = .S)
theorem JAt.same {H H' : Hp} {Lj : Addr} (J : JAt G H Lj) (e : Same H H') : JAt G H' Lj := by
  obtain ⟨xs, h1, h2⟩ := J.is
  refine ⟨xs, e _ _ h1, fun x hx => ?_⟩
  obtain ⟨a, f, s, e1, e2, e3, e4⟩ := h2 x hx
  exact ⟨a, f, s, e1, e.tup e2, e3, e4⟩
section
variable {X : Cx} {W : WX} {Q : VK} {Hb H : Hp} {p t Lj : Addr} {v sv : V} {m sm : M} {B : Nat}
theorem law_laps (L : Lw G) (d : Fr X G nLaw (defScope (top 48)) 230 W) (gd : X.A.guards = some []) (J : JAt G Hb Lj) (T : TabAt G.K Hb t) (A : DrawAt Hb H p B) (hB : B < 300000000) (hv : At G.K Hb v m) (bm : Bd 14 2300 20 m) (hsv : At G.K Hb sv sm) (bs : Bd 10 2900 20 sm)
    {x0 x4 x5 x6 x7 x8 x9 x12 x13 x14 x15 : Option V} {NX : L2.St → Hp → Prop} {rt : VK} {bk ct : L2.St → Hp → Prop}
    (next : ∀ Hb' H1 (y10 y12 y13 y14 y15 : Option V), Same Hb Hb' → DrawAt Hb' H1 p (B + 1000) → NX [x0, some (.ref p), some (.ref t), some (.ref Lj), x4, x5, x6, x7, x8, x9, y10, some sv, y12, y13, y14, y15, none] H1) {sts : List Stmt} (hr : (match (defBody (top 48)).getD 2 (.Pass ⟨0, 0, 0, 0⟩) with
      | .For _ _ b1 _ _ => (match b1.getD 4 (.Pass ⟨0, 0, 0, 0⟩) with
        | .For _ _ b2 _ _ => b2.drop 1
        | _ => [])
      | _ => []) = sts) :
    WB X sts { nx := NX, rt := rt, bk := bk, ct := ct } [x0, some (.ref p), some (.ref t), some (.ref Lj), x4, x5, x6, x7, x8, x9, some v, some sv, x12, x13, x14, x15, none] H := by
  have dd := d.toDef
  have b := L.b
  subst hr
  show WB X (_ :: _) _ _ _
  refine wb_one ?_
  refine ws_forR d (by decide +kernel) b.b_range (by rfl) (by intro _; rfl) ?_
  walk_at "wE"
  refine ⟨4, rfl, by decide, by decide, fun i σ H' => ∃ (Hb' : Hp) (v' : V) (m' : M) (y12 y13 y14 y15 : Option V), Same Hb Hb' ∧ DrawAt Hb' H' p (B + i * 240) ∧ At G.K Hb' v' m' ∧ Bd (14 + 10 * i) (zS i) (20 + i) m' ∧ σ = [x0, some (.ref p), some (.ref t), some (.ref Lj), x4, x5, x6, x7, x8, x9, some v', some sv, y12, y13, y14, y15, none], ⟨Hb, v, m, _, _, _, _, Same.refl _, A.mono (by omega), hv, bm, rfl⟩, ?_, ?_⟩
  · rintro i σ H' hi ⟨Hb', v', m', y12, y13, y14, y15, sb, Ab, hv', bm', rfl⟩
    have hi3 : i ≤ 3 := by
      have : (4 : Int).toNat = 4 := rfl
      omega
    have hz := zS_le (n := i) (by omega)
    obtain ⟨dm, zm, wm⟩ := bm'
    have Jb := J.same sb
    obtain ⟨xs, j1, j2⟩ := Jb.is
    walk_at "wg"
    refine wb_cons ?_
    refine ws_forL d (by intro _; rfl) ?_
    walk_at "wn"
    refine ⟨Lj, xs, rfl, SqL.of (Ab.same _ _ j1), fun j τ H2 => DrawAt Hb' H2 p (B + i * 240) ∧ ∃ z13 z14 z15 : Option V, τ = [x0, some (.ref p), some (.ref t), some (.ref Lj), x4, x5, x6, x7, x8, x9, some v', some sv, some (.int i), z13, z14, z15, none], ⟨Ab, _, _, _, rfl⟩, fun j τ H2 _ h => SqL.of (h.1.same _ _ j1), ?_, ?_⟩
    · rintro j x τ H2 hj ⟨Ab2, z13, z14, z15, rfl⟩
      obtain ⟨a, f, s, rfl, e2, e3, e4⟩ := j2 x (List.mem_of_getElem? hj)
      refine wg_tup dd (Ab2.same.tup e2) (by rfl) (by rfl) ?_
      repeat walk_at "wG"
      exact law_judge L d gd e3 e4 (T.same sb) Ab2 hv' (by omega) (by omega) (fun H3 A3 => ⟨A3, _, _, _, rfl⟩) (by kernel_rfl)
    · rintro τ H2 ⟨Ab2, z13, z14, z15, rfl⟩
      refine wb_one ?_
      walk_at "wS"
      refine we_call dd L.FS (by decide) (by decide +kernel) (by rfl) (by rfl) ?_
      walk_at "wx"
      have hib : i * 240 ≤ 3 * 240 := Nat.mul_le_mul_right _ hi3
      refine ⟨Hb', p, v', sv, m', sm, B + i * 240, rfl, Ab2, by omega, hv', At.same sb _ _ hsv, by omega, by omega, ⟨bs.dep, bs.siz, bs.wid⟩, fun v2 m2 Hc Hd sc a1 a2 A4 => ?_⟩
      obtain ⟨d2, z2, w2⟩ := a2
      refine ⟨Hc, v2, m2, _, _, _, _, sb.trans sc, A4.mono (by omega), a1, ⟨by omega, by rw [zS]; omega, by omega⟩, rfl⟩
  · rintro σ H' ⟨Hb', v', m', y12, y13, y14, y15, sb, Ab, hv', bm', rfl⟩
    exact next Hb' H' _ _ _ _ _ sb (Ab.mono (by show B + 4 * 240 ≤ _; omega))
end
end K02

namespace K02
variable {G : Gb}
theorem bd_spare {m : M} (h : (depthM m ≤ 10 ∧ sizeM m ≤ 2900) ∧ widM m ≤ 20) : Bd 10 2900 20 m := ⟨h.1.1, h.1.2, h.2⟩
section
variable {X : Cx} {W : WX} {Q : VK} {Hb H : Hp} {p t Lj Ln Lcs Ls : Addr} {B : Nat} {ys : List Str}
theorem law_matters (L : Lw G) (d : Fr X G nLaw (defScope (top 48)) 230 W) (gd : X.A.guards = some []) (J : JAt G Hb Lj) (T : TabAt G.K Hb t) (A : DrawAt Hb H p B) (hB : B < 80000000) (hn : NamesAt G.K Hb Ln ys) {c0 c1 c2 : V} {n0 n1 : M} (hc : Hb Lcs = some (.lst [c0, c1, c2])) (ac0 : At G.K Hb c0 n0) (ac1 : At G.K Hb c1 n1) (bc0 : Bd 10 700 6 n0) (bc1 : Bd 10 700 6 n1)
    {us : List (V × M)} (hs : Hb Ls = some (.lst (us.map (·.1)))) (hu : ∀ u ∈ us, At G.K Hb u.1 u.2 ∧ Bd 14 2300 20 u.2) (hl : us.length ≤ 20)
    {x0 x4 x6 x7 x10 x11 x12 x13 x14 x15 : Option V} {NX : L2.St → Hp → Prop} {rt : VK} {bk ct : L2.St → Hp → Prop}
    (next : ∀ Hb' H1 (y10 y11 y12 y13 y14 y15 : Option V), Same Hb Hb' → DrawAt Hb' H1 p (B + 30000) → NX [x0, some (.ref p), some (.ref t), some (.ref Lj), x4, some (.ref Ln), x6, x7, some (.ref Lcs), some (.ref Ls), y10, y11, y12, y13, y14, y15, none] H1) {sts : List Stmt} (hr : (match (defBody (top 48)).getD 2 (.Pass ⟨0, 0, 0, 0⟩) with
      | .For _ _ b1 _ _ => b1.drop 4
      | _ => []) = sts) :
    WB X sts { nx := NX, rt := rt, bk := bk, ct := ct } [x0, some (.ref p), some (.ref t), some (.ref Lj), x4, some (.ref Ln), x6, x7, some (.ref Lcs), some (.ref Ls), x10, x11, x12, x13, x14, x15, none] H := by
  have dd := d.toDef
  have b := L.b
  subst hr
  obtain ⟨z0, hz0⟩ : ∃ z0, ys[0]? = some z0 := ⟨_, List.getElem?_eq_getElem hn.pos⟩
  have oz0 := hn.ok z0 (List.mem_of_getElem? hz0)
  show WB X (_ :: _) _ _ _
  refine wb_one ?_
  refine ws_forL d (by intro _; rfl) ?_
  walk_at "wn"
  refine ⟨Ls, us.map (·.1), rfl, SqL.of (A.same _ _ hs), fun i σ H' => ∃ (Hb' : Hp) (y10 y11 y12 y13 y14 y15 : Option V), Same Hb Hb' ∧ DrawAt Hb' H' p (B + i * 1500) ∧ σ = [x0, some (.ref p), some (.ref t), some (.ref Lj), x4, some (.ref Ln), x6, x7, some (.ref Lcs), some (.ref Ls), y10, y11, y12, y13, y14, y15, none], ⟨Hb, _, _, _, _, _, _, Same.refl _, A.mono (by omega), rfl⟩, fun i σ H' _ h => ?_, ?_, ?_⟩
  · obtain ⟨Hb', _, _, _, _, _, _, sb, Ab, _⟩ := h
    exact SqL.of (Ab.same _ _ (sb _ _ hs))
  · rintro i x σ H' hi ⟨Hb', y10, y11, y12, y13, y14, y15, sb, Ab, rfl⟩
    obtain ⟨u, hu1, rfl⟩ := map_at hi
    have hum := List.mem_of_getElem? hu1
    have hi20 : i < us.length := (List.getElem?_eq_some_iff.mp hu1).1
    obtain ⟨au, bu⟩ := hu u hum
    have hib : i * 1500 ≤ 20 * 1500 := Nat.mul_le_mul_right _ (by omega)
    have hnb := hn.same sb
    walk_at "wg"
    refine wb_cons ?_
    walk_at "wS"
    refine we_call dd L.FP (by decide) (by decide +kernel) (by rfl) (by rfl) ?_
    walk_at "wA"
    walk_at "wn"
    walk_at "wA"
    walk_at "wE"
    walk_at "wA"
    refine we_call dd L.FE2 (by decide) (by decide +kernel) (by rfl) (by rfl) ?_
    walk_at "wx"
    refine ⟨Hb', p, Ln, _, ys, rfl, Ab, by have : eB 2 = 360 := rfl; omega, hnb, by decide, by decide, fun v0 m0 Hc Hd sc a1 a2 A2 => ?_⟩
    walk_at "wA"
    walk_at "wE"
    walk_at "wA"
    walk_at "wE"
    walk_at "wA"
    walk_at "wE"
    walk_at "wn"
    walk_at "wE"
    refine rx_list dd ((sc.trans A2.same).seq hnb.at_) (atI_nat (j := 0) (by rw [List.getElem?_map, hz0]; rfl)) ?_
    walk_at "wA"
    refine ⟨by show 2 ≤ sizeLine; decide, fun r1 hr1 => ?_⟩
    have nr1 := A2.same.free hr1
    have A3 := A2.laid (o := .tup [.str "name", .str z0]) hr1
    have s3 := same_new (o := .tup [.str "name", .str z0]) nr1
    walk_at "wA"
    walk_at "wE"
    walk_at "wn"
    walk_at "wE"
    refine rx_list dd (((sc.trans s3).trans A3.same).seq hnb.at_) (atI_nat (j := 0) (by rw [List.getElem?_map, hz0]; rfl)) ?_
    walk_at "wA"
    refine we_call dd L.FT (by decide) (by decide +kernel) (by rfl) (by rfl) ?_
    walk_at "wx"
    refine ⟨_, p, _, 12, rfl, A3, by have : eB 2 = 360 := rfl; omega, by decide, by decide, fun kk H4 k0 k1 A4 => ?_⟩
    have sbc := (sb.trans sc).trans s3
    walk_at "wA"
    walk_at "wE"
    walk_at "wn"
    walk_at "wE"
    refine rx_list dd (SqL.of (A4.same _ _ (sbc _ _ hc))) (atI_nat (j := 0) rfl) ?_
    walk_at "wA"
    walk_at "wE"
    walk_at "wn"
    walk_at "wE"
    refine rx_list dd (SqL.of (A4.same _ _ (sbc _ _ hc))) (atI_nat (j := 1) rfl) ?_
    walk_at "wA"
    refine ⟨by show 6 ≤ sizeLine; decide, fun r2 hr2 => ?_⟩
    have nr2 := A4.same.free hr2
    have A5 := A4.laid (o := .lst [v0, .ref r1, .str z0, .int kk, c0, c1]) hr2
    have s5 := same_new (o := .lst [v0, .ref r1, .str z0, .int kk, c0, c1]) nr2
    walk_at "wA"
    have all : AtAll G.K _ [v0, .ref r1, .str z0, .int kk, c0, c1] [m0, .tup [.str "name", .str z0], .str z0, .int kk, n0, n1] :=
      .cons (At.same (s3.trans s5) _ _ a1) (.cons (.tup (s5.tup (SqT.of upd_same)) (by show 2 ≤ 1000; decide) (.cons (.str _ (ok_words _ (by decide +kernel))) (.cons (.str _ oz0) .nil))) (.cons (.str _ oz0) (.cons (.int _) (.cons (At.same (sbc.trans s5) _ _ ac0) (.cons (At.same (sbc.trans s5) _ _ ac1) .nil)))))
    have allB : ∀ m ∈ ([m0, .tup [.str "name", .str z0], .str z0, .int kk, n0, n1] : List M), Bd 10 2900 20 m := by
      intro m hm
      have e2 : eS 2 = 54 := rfl
      have := a2.dep
      have := a2.siz
      have := a2.wid
      simp only [List.mem_cons, List.not_mem_nil, or_false] at hm
      rcases hm with rfl | rfl | rfl | rfl | rfl | rfl
      · exact ⟨by omega, by omega, by omega⟩
      · exact ⟨by simp only [depthM, depthL]; omega, by simp only [sizeM, sizeL]; omega, by simp only [widM, widL, List.length_cons, List.length_nil]; omega⟩
      · exact ⟨by simp only [depthM]; omega, by simp only [sizeM]; omega, by simp only [widM]; omega⟩
      · exact ⟨by simp only [depthM]; omega, by simp only [sizeM]; omega, by simp only [widM]; omega⟩
      · exact ⟨bc0.dep, by have := bc0.siz; omega, by have := bc0.wid; omega⟩
      · exact ⟨bc1.dep, by have := bc1.siz; omega, by have := bc1.wid; omega⟩
    refine ⟨_, p, r2, _, [v0, .ref r1, .str z0, .int kk, c0, c1], rfl, A5, by have : eB 2 = 360 := rfl; omega, SqL.of upd_same, by show 0 < 6; decide, by show 6 < 1073741824; decide, fun j x H6 hx A6 => ?_⟩
    obtain ⟨sm, hsm, hv⟩ := all.get hx
    have bsm := allB sm (List.mem_of_getElem? hsm)
    have sAll := sbc.trans s5
    refine law_laps L d gd (J.same sAll) (T.same sAll) A6 (by have : eB 2 = 360 := rfl; omega) (At.same sAll _ _ au) bu hv bsm (fun Hx H1 y10 y12 y13 y14 y15 sx Ax => ?_) (by kernel_rfl)
    exact ⟨Hx, _, _, _, _, _, _, sAll.trans sx, Ax.mono (by have : eB 2 = 360 := rfl; rw [Nat.add_mul, Nat.one_mul]; omega), rfl⟩
  · rintro σ H' ⟨Hb', y10, y11, y12, y13, y14, y15, sb, Ab, rfl⟩
    have hib : (us.map (·.1)).length * 1500 ≤ 20 * 1500 := Nat.mul_le_mul_right _ (by rw [List.length_map]; exact hl)
    exact next Hb' H' _ _ _ _ _ _ sb (Ab.mono (by omega))
end
end K02

namespace K02
variable {G : Gb}
def spLaw (K : PySem.W.Frag) : Sp := fun vs H Q _ => ∃ (a : Addr) (ns : List Int), vs = [.ref a] ∧ SqL K H a (ns.map V.int) ∧ ns.length ≤ 63 ∧ ∀ H', Q (.bl true) H'
theorem bd3 {m : M} {d s w : Nat} (h1 : depthM m ≤ d) (h2 : sizeM m ≤ s) (h3 : widM m ≤ w) : Bd d s w m := ⟨h1, h2, h3⟩
section
variable {X : Cx} {W : WX} {Q : VK} {Hb H : Hp} {p t Lj : Addr} {B : Nat}
theorem law_turn (L : Lw G) (d : Fr X G nLaw (defScope (top 48)) 230 W) (gd : X.A.guards = some []) (J : JAt G Hb Lj) (T : TabAt G.K Hb t) (A : DrawAt Hb H p B) (hB : B < 20000000)
    {x0 x4 x5 x6 x7 x8 x9 x10 x11 x12 x13 x14 x15 : Option V} {NX : L2.St → Hp → Prop} {rt : VK} {bk ct : L2.St → Hp → Prop}
    (next : ∀ Hb' H1 (y4 y5 y6 y7 y8 y9 y10 y11 y12 y13 y14 y15 : Option V), Same Hb Hb' → DrawAt Hb' H1 p (B + 70000) → NX [x0, some (.ref p), some (.ref t), some (.ref Lj), y4, y5, y6, y7, y8, y9, y10, y11, y12, y13, y14, y15, none] H1) {sts : List Stmt} (hr : (match (defBody (top 48)).getD 2 (.Pass ⟨0, 0, 0, 0⟩) with
      | .For _ _ b1 _ _ => b1
      | _ => []) = sts) :
    WB X sts { nx := NX, rt := rt, bk := bk, ct := ct } [x0, some (.ref p), some (.ref t), some (.ref Lj), x4, x5, x6, x7, x8, x9, x10, x11, x12, x13, x14, x15, none] H := by
  have dd := d.toDef
  have b := L.b
  subst hr
  have okw := ok_words
  have e4 : eB 4 = 9360 := rfl
  have z4 : eS 4 = 1404 := rfl
  show WB X (_ :: _) _ _ _
  refine wb_cons ?_
  refine ws_asgE d (by rfl) (by intro _; rfl) (by rfl) ?_
  walk_at "wE"
  walk_at "wA"
  refine we_call dd L.FN (by decide) (by decide +kernel) (by rfl) (by rfl) ?_
  walk_at "wx"
  refine ⟨Hb, p, B, 5, rfl, A, by omega, by decide, fun ys Ln Ha H1 ly hnd hok sa nL hL Aa => ?_⟩
  have hn : NamesAt G.K Ha Ln ys := ⟨SqL.of hL, by omega, by omega, fun z hz => okStr_of (hok z hz).2.1 (hok z hz).2.2⟩
  obtain ⟨z0, hz0⟩ : ∃ z0, ys[0]? = some z0 := ⟨_, List.getElem?_eq_getElem hn.pos⟩
  have oz0 := hn.ok z0 (List.mem_of_getElem? hz0)
  walk_at "wA"
  refine we_call dd L.FSh (by decide) (by decide +kernel) (by rfl) (by rfl) ?_
  walk_at "wx"
  refine ⟨Ha, p, _, rfl, Aa, by omega, fun vs ms Hq Hq2 sq as0 bs Aq => ?_⟩
  walk_at "wA"
  refine ⟨by show 2 ≤ sizeLine; decide, fun rq hrq => ?_⟩
  have nrq := Aq.same.free hrq
  have Ac := Aq.laid (o := .tup [.ref Ln, vs]) hrq
  have sq2 := same_new (o := .tup [.ref Ln, vs]) nrq
  have sc := sq.trans sq2
  have as := At.same sq2 _ _ as0
  refine wg_tup dd (vs := [.ref Ln, vs]) (SqT.of upd_same) (by rfl) (by rfl) ?_
  repeat walk_at "wG"
  refine wb_cons ?_
  walk_at "wS"
  refine we_call dd L.FE4 (by decide) (by decide +kernel) (by rfl) (by rfl) ?_
  walk_at "wx"
  refine ⟨_, p, Ln, _, ys, rfl, Ac, by omega, hn.same sc, by decide, by decide, fun vt mt Hd H3 sd at1 bt Ad => ?_⟩
  refine wb_cons ?_
  refine ws_lcL d 8 [("_law_word", 16)] (by rfl) (by decide +kernel) (by decide +kernel) (by intro _; rfl) (by rfl) (by decide +kernel) ?_
  walk_at "wE"
  walk_at "wA"
  walk_at "wE"
  walk_at "wA"
  walk_at "wE"
  walk_at "wA"
  walk_at "wE"
  walk_at "wA"
  refine ⟨by show 3 ≤ sizeLine; decide, fun r0 hr0 => ?_⟩
  have nr0 := Ad.same.free hr0
  have Ae := Ad.laid (o := .lst ((["cell", "row", "settle"] : List Str).map V.str)) hr0
  have s0 := same_new (o := .lst ((["cell", "row", "settle"] : List Str).map V.str)) nr0
  have hnd0 := (hn.same sc).same (sd.trans s0)
  refine lcL_frm (zs := (["cell", "row", "settle"] : List Str)) V.str (Fm := fun i Hx Hy => DrawAt Hx Hy p (B + 2 * 5 + 20000 + eB 4 + i * 3000)) (P := fun i acc Hz => ∃ ms, AtAll G.K Hz acc ms ∧ ms.length = i ∧ ∀ m ∈ ms, Bd 10 700 6 m) (fun _ => frmp_draw) (Ae.mono (by omega)) (SqL.of upd_same) (by decide) (fun i acc Hx Hy ky ⟨ms', g1, g2⟩ => ⟨ms', g1.keep ky, g2⟩) ⟨[], .nil, rfl, (fun _ h => nomatch h)⟩ (fun i z acc Hx Hy hz sx Ax ⟨ns, g1, g2, g3⟩ R hR => ?_) (fun Lcs ls H5 H6 s5 A5 hLc h5 ⟨ns, g1, g2, g3⟩ => ?_)
  · have hi : i < 3 := (List.getElem?_eq_some_iff.mp hz).1
    intro X' d'
    dsimp only [L2.wipe, List.map, List.set]
    walk_at "wg"
    refine ⟨rfl, fun X2 d2 => wts_nil (ite_t fun X3 d3 => ?_)⟩
    walk_at "wx"
    refine we_call d3 L.FC (by decide) (by decide +kernel) (by rfl) (by rfl) ?_
    walk_at "wx"
    refine ⟨Hx, p, Ln, _, ys, z, rfl, Ax, by omega, hnd0.same sx, fun v m Hx' Hy' s6 b1 b2 b3 A6 => ?_⟩
    refine hR v Hx' Hy' s6 (A6.mono (by rw [Nat.add_mul, Nat.one_mul]; omega)) ⟨ns ++ [m], (g1.keep (keep_of s6)).snoc b1, by rw [List.length_append, g2]; rfl, fun m' hm' => ?_⟩
    rcases List.mem_append.mp hm' with h | h
    · exact g3 m' h
    · rw [List.mem_singleton.mp h]
      exact b2
  · have A5 : DrawAt H5 H6 p (B + 10 + 20000 + eB 4 + 9000) := A5
    obtain ⟨cs, rfl, rfl, hcs⟩ := at_zip g1
    have lcs : cs.length = 3 := by rw [List.length_map] at g2; exact g2
    have hn5 := hnd0.same s5
    have s05 := s0.trans s5
    refine wb_cons ?_
    dsimp only [List.set]
    walk_at "wS"
    walk_at "wE"
    walk_at "wE"
    walk_at "wA"
    walk_at "wn"
    walk_at "wA"
    walk_at "wn"
    walk_at "wA"
    walk_at "wE"
    walk_at "wA"
    walk_at "wE"
    walk_at "wA"
    walk_at "wE"
    walk_at "wn"
    walk_at "wE"
    refine rx_list dd (A5.same.seq hn5.at_) (atI_nat (j := 0) (by rw [List.getElem?_map, hz0]; rfl)) ?_
    walk_at "wA"
    walk_at "wn"
    walk_at "wA"
    refine ⟨by show 3 ≤ sizeLine; decide, fun r1 hr1 => ?_⟩
    have nr1 := A5.same.free hr1
    have A6 := A5.laid (o := .tup [.str "cell", .str z0, vt]) hr1
    have s6 := same_new (o := .tup [.str "cell", .str z0, vt]) nr1
    walk_at "wA"
    walk_at "wE"
    walk_at "wA"
    walk_at "wE"
    walk_at "wA"
    walk_at "wE"
    walk_at "wn"
    walk_at "wE"
    refine rx_list dd (A6.same.seq (hn5.same s6).at_) (atI_nat (j := 0) (by rw [List.getElem?_map, hz0]; rfl)) ?_
    walk_at "wA"
    walk_at "wE"
    walk_at "wA"
    walk_at "wE"
    walk_at "wA"
    walk_at "wn"
    walk_at "wA"
    walk_at "wE"
    walk_at "wA"
    walk_at "wE"
    walk_at "wA"
    walk_at "wE"
    walk_at "wA"
    refine ⟨by show 2 ≤ sizeLine; decide, fun r2 hr2 => ?_⟩
    have nr2 := A6.same.free hr2
    have A7 := A6.laid (o := .tup [.str "number", .int 1]) hr2
    have s7 := same_new (o := .tup [.str "number", .int 1]) nr2
    walk_at "wA"
    refine ⟨by show 6 ≤ sizeLine; decide, fun r3 hr3 => ?_⟩
    have nr3 := A7.same.free hr3
    have A8 := A7.laid (o := .tup [.str "settle", .str z0, .int 0, .int 5, vt, .ref r2]) hr3
    have s8 := same_new (o := .tup [.str "settle", .str z0, .int 0, .int 5, vt, .ref r2]) nr3
    walk_at "wA"
    refine we_call dd L.FO (by decide) (by decide +kernel) (by rfl) (by rfl) ?_
    walk_at "wx"
    refine ⟨_, p, _, rfl, A8, by omega, fun vo mo Hf H9 s9 ao bo A9 => ?_⟩
    walk_at "wA"
    refine ⟨by show 5 ≤ sizeLine; decide, fun r4 hr4 => ?_⟩
    have nr4 := A9.same.free hr4
    have A10 := A9.laid (o := .lst [vt, vs, .ref r1, .ref r3, vo]) hr4
    have s10 := same_new (o := .lst [vt, vs, .ref r1, .ref r3, vo]) nr4
    walk_at "wn"
    have s69 := (s6.trans s7).trans (s8.trans s9)
    refine ro_cat upd_same (A10.same _ _ ((s69.trans s10) _ _ h5)) (len_le (by rw [List.length_map]; show 5 + cs.length ≤ _; omega)) fun r5 hr5 => ?_
    have nr5 := A10.same.free hr5
    have A11 := A10.laid (o := .lst ([vt, vs, .ref r1, .ref r3, vo] ++ cs.map (·.1))) hr5
    have s11 := same_new (o := .lst ([vt, vs, .ref r1, .ref r3, vo] ++ cs.map (·.1))) nr5
    have h11 : (upd (upd Hf r4 (.lst [vt, vs, .ref r1, .ref r3, vo])) r5 (.lst ([vt, vs, .ref r1, .ref r3, vo] ++ cs.map (·.1)))) r5 = some (.lst ([vt, vs, .ref r1, .ref r3, vo] ++ cs.map (·.1))) := upd_same
    generalize upd (upd Hf r4 (.lst [vt, vs, .ref r1, .ref r3, vo])) r5 (.lst ([vt, vs, .ref r1, .ref r3, vo] ++ cs.map (·.1))) = HE at A11 s11 h11
    have sE := s10.trans s11
    have s5E := s69.trans sE
    obtain ⟨c0, c1, c2, rfl⟩ : ∃ c0 c1 c2, cs = [c0, c1, c2] := by
      match cs, lcs with
      | [c0, c1, c2], _ => exact ⟨c0, c1, c2, rfl⟩
    have dt := bt.dep
    have zt := bt.siz
    have wt := bt.wid
    have all : ∀ u ∈ ([(vt, mt), (vs, ms), (.ref r1, .tup [.str "cell", .str z0, mt]), (.ref r3, .tup [.str "settle", .str z0, .int 0, .int 5, mt, .tup [.str "number", .int 1]]), (vo, mo), c0, c1, c2] : List (V × M)), At G.K HE u.1 u.2 ∧ Bd 14 2300 20 u.2 := by
      intro u hu
      simp only [List.mem_cons, List.not_mem_nil, or_false] at hu
      rcases hu with rfl | rfl | rfl | rfl | rfl | rfl | rfl | rfl
      · exact ⟨At.same (s05.trans s5E) _ _ at1, bd3 (m := mt) (by omega) (by omega) (by omega)⟩
      · exact ⟨At.same ((sd.trans s05).trans s5E) _ _ as, bd3 (m := ms) (by have := bs.dep; omega) (by have := bs.siz; omega) (by have := bs.wid; omega)⟩
      · exact ⟨.tup (((s7.trans (s8.trans s9)).trans sE).tup (SqT.of upd_same)) (by show 3 ≤ 1000; decide) (.cons (.str _ (okw _ (by decide +kernel))) (.cons (.str _ oz0) (.cons (At.same (s05.trans s5E) _ _ at1) .nil))), bd3 (m := .tup [.str "cell", .str z0, mt]) (by simp only [depthM, depthL]; omega) (by simp only [sizeM, sizeL]; omega) (by simp only [widM, widL, List.length_cons, List.length_nil]; omega)⟩
      · exact ⟨.tup ((s9.trans sE).tup (SqT.of upd_same)) (by show 6 ≤ 1000; decide) (.cons (.str _ (okw _ (by decide +kernel))) (.cons (.str _ oz0) (.cons (.int _) (.cons (.int _) (.cons (At.same (s05.trans s5E) _ _ at1) (.cons (.tup (((s8.trans s9).trans sE).tup (SqT.of upd_same)) (by show 2 ≤ 1000; decide) (.cons (.str _ (okw _ (by decide +kernel))) (.cons (.int _) .nil))) .nil)))))), bd3 (m := .tup [.str "settle", .str z0, .int 0, .int 5, mt, .tup [.str "number", .int 1]]) (by simp only [depthM, depthL]; omega) (by simp only [sizeM, sizeL]; omega) (by simp only [widM, widL, List.length_cons, List.length_nil]; omega)⟩
      · exact ⟨At.same sE _ _ ao, bd3 (m := mo) (by have := bo.dep; omega) (by have := bo.siz; omega) (by have := bo.wid; omega)⟩
      · have q1 := g3 u.2 (by simp)
        exact ⟨At.same s5E _ _ (hcs u (by simp)), bd3 (by have := q1.dep; omega) (by have := q1.siz; omega) (by have := q1.wid; omega)⟩
      · have q1 := g3 u.2 (by simp)
        exact ⟨At.same s5E _ _ (hcs u (by simp)), bd3 (by have := q1.dep; omega) (by have := q1.siz; omega) (by have := q1.wid; omega)⟩
      · have q1 := g3 u.2 (by simp)
        exact ⟨At.same s5E _ _ (hcs u (by simp)), bd3 (by have := q1.dep; omega) (by have := q1.siz; omega) (by have := q1.wid; omega)⟩
    have sAll := (((sa.trans sc).trans sd).trans s05).trans s5E
    refine law_matters L d gd (J.same sAll) (T.same sAll) A11 (by omega) (hn5.same s5E) (c0 := c0.1) (c1 := c1.1) (c2 := c2.1) (n0 := c0.2) (n1 := c1.2) (s5E _ _ h5) (At.same s5E _ _ (hcs c0 (by simp))) (At.same s5E _ _ (hcs c1 (by simp))) (g3 _ (by simp)) (g3 _ (by simp)) (us := [(vt, mt), (vs, ms), (.ref r1, .tup [.str "cell", .str z0, mt]), (.ref r3, .tup [.str "settle", .str z0, .int 0, .int 5, mt, .tup [.str "number", .int 1]]), (vo, mo), c0, c1, c2]) h11 all (by show 8 ≤ 20; decide) (fun Hx H1 y10 y11 y12 y13 y14 y15 sx Ax => ?_) (by kernel_rfl)
    exact next Hx H1 _ _ _ _ _ _ _ _ _ _ _ _ (sAll.trans sx) (Ax.mono (by omega))
end
end K02

namespace K02
variable {G : Gb}
theorem fn_law (L : Lw G) {f1 f2 f3 : Addr} (J1 : G.mg "is_expression" = some (.ref f1) ∧ Judge G .E f1) (J2 : G.mg "is_cell" = some (.ref f2) ∧ Judge G .C f2) (J3 : G.mg "is_sheet" = some (.ref f3) ∧ Judge G .S f3) (TL : Top G "law" (top 48) ["_law_script"]) : FnR G "law" 1 231 (spLaw G.K) := by
  refine TL.fnR (k := 230) (N := nLaw) scLaw (fun vs H Q E h => ?_) (fun X vs H Q E d gd h => ?_)
  · obtain ⟨_, _, rfl, _⟩ := h
    rfl
  · have dd := d.toDef
    have b := L.b
    obtain ⟨a, ns, rfl, hq, hn, k⟩ := h
    show WB X _ _ [some (.ref a), none, none, none, none, none, none, none, none, none, none, none, none, none, none, none, none] H
    refine wb_cons ?_
    refine ws_asgE d (by rfl) (by intro _; rfl) (by rfl) ?_
    walk_at "wE"
    walk_at "wA"
    refine we_call dd L.FB (by decide) (by decide +kernel) (by rfl) (by rfl) ?_
    walk_at "wx"
    refine ⟨a, ns, rfl, hq, hn, fun p H1 A => ?_⟩
    walk_at "wA"
    refine we_call0 dd L.FTb (by decide) (by decide +kernel) ⟨_, H, rfl, frmp_draw (d := p) (B := 0), A, fun t Hb H2 s1 A1 T1 => ?_⟩
    walk_at "wA"
    refine ⟨by show 2 ≤ sizeLine; decide, fun r hr => ?_⟩
    have nr := A1.same.free hr
    have A2 := A1.laid (o := .tup [.ref p, .ref t]) hr
    have s2 := same_new (o := .tup [.ref p, .ref t]) nr
    refine wg_tup dd (vs := [.ref p, .ref t]) (SqT.of upd_same) (by rfl) (by rfl) ?_
    repeat walk_at "wG"
    refine wb_cons ?_
    walk_at "wS"
    walk_at "wE"
    walk_at "wA"
    walk_at "wE"
    walk_at "wA"
    walk_at "wE"
    walk_at "wA"
    refine we_glob dd (v := .ref f1) (by decide +kernel) J1.1 rfl ?_
    walk_at "wA"
    refine ⟨by show 2 ≤ sizeLine; decide, fun r1 hr1 => ?_⟩
    have nr1 := A2.same.free hr1
    have A3 := A2.laid (o := .tup [.str "E", .ref f1]) hr1
    have s3 := same_new (o := .tup [.str "E", .ref f1]) nr1
    walk_at "wA"
    walk_at "wE"
    walk_at "wA"
    walk_at "wE"
    walk_at "wA"
    refine we_glob dd (v := .ref f2) (by decide +kernel) J2.1 rfl ?_
    walk_at "wA"
    refine ⟨by show 2 ≤ sizeLine; decide, fun r2 hr2 => ?_⟩
    have nr2 := A3.same.free hr2
    have A4 := A3.laid (o := .tup [.str "C", .ref f2]) hr2
    have s4 := same_new (o := .tup [.str "C", .ref f2]) nr2
    walk_at "wA"
    walk_at "wE"
    walk_at "wA"
    walk_at "wE"
    walk_at "wA"
    refine we_glob dd (v := .ref f3) (by decide +kernel) J3.1 rfl ?_
    walk_at "wA"
    refine ⟨by show 2 ≤ sizeLine; decide, fun r3 hr3 => ?_⟩
    have nr3 := A4.same.free hr3
    have A5 := A4.laid (o := .tup [.str "S", .ref f3]) hr3
    have s5 := same_new (o := .tup [.str "S", .ref f3]) nr3
    walk_at "wA"
    refine ⟨by show 3 ≤ sizeLine; decide, fun Lj hLj => ?_⟩
    have nLj := A5.same.free hLj
    have A6 := A5.laid (o := .lst [.ref r1, .ref r2, .ref r3]) hLj
    have s6 := same_new (o := .lst [.ref r1, .ref r2, .ref r3]) nLj
    have J : JAt G (upd (upd (upd (upd (upd Hb r (.tup [.ref p, .ref t])) r1 (.tup [.str "E", .ref f1])) r2 (.tup [.str "C", .ref f2])) r3 (.tup [.str "S", .ref f3])) Lj (.lst [.ref r1, .ref r2, .ref r3])) Lj := by
      refine ⟨_, upd_same, fun x hx => ?_⟩
      simp only [List.mem_cons, List.not_mem_nil, or_false] at hx
      rcases hx with rfl | rfl | rfl
      · exact ⟨r1, f1, .E, rfl, ((s4.trans s5).trans s6).tup (SqT.of upd_same), J1.2, .inl rfl⟩
      · exact ⟨r2, f2, .C, rfl, (s5.trans s6).tup (SqT.of upd_same), J2.2, .inr (.inl rfl)⟩
      · exact ⟨r3, f3, .S, rfl, s6.tup (SqT.of upd_same), J3.2, .inr (.inr rfl)⟩
    have s26 := (((s2.trans s3).trans s4).trans s5).trans s6
    have T6 := T1.same s26
    have hq6 := ((s1.trans s26).trans A6.same).seq hq
    generalize upd (upd (upd (upd (upd Hb r (.tup [.ref p, .ref t])) r1 (.tup [.str "E", .ref f1])) r2 (.tup [.str "C", .ref f2])) r3 (.tup [.str "S", .ref f3])) Lj (.lst [.ref r1, .ref r2, .ref r3]) = HJ at A6 J T6
    refine wb_cons ?_
    refine ws_forR d (by decide +kernel) b.b_range (by rfl) (by intro _; rfl) ?_
    walk_at "wx"
    refine rc_lenL dd hq6 ?_
    rw [List.length_map]
    walk_at "wx"
    refine rc_min2 dd ?_
    walk_at "wR"
    have hj : ∃ n : Nat, (2 + (if (10 : Int) < (ns.length : Int) then 10 else (ns.length : Int))) = (n : Int) ∧ n ≤ 12 := by
      refine ⟨2 + (if 10 < ns.length then 10 else ns.length), ?_, ?_⟩
      · by_cases c : 10 < ns.length
        · rw [if_pos c, if_pos (by omega)]
          rfl
        · rw [if_neg c, if_neg (by omega)]
          omega
      · by_cases c : 10 < ns.length
        · rw [if_pos c]
          omega
        · rw [if_neg c]
          omega
    obtain ⟨n, en, hn12⟩ := hj
    obtain ⟨c, hc⟩ : ∃ c : Nat, c = 70000 := ⟨_, rfl⟩
    rw [en]
    refine ⟨_, rfl, by omega, by omega, fun i σ H' => ∃ (Hx : Hp) (y4 y5 y6 y7 y8 y9 y10 y11 y12 y13 y14 y15 : Option V), Same HJ Hx ∧ DrawAt Hx H' p (i * c) ∧ σ = [some (.ref a), some (.ref p), some (.ref t), some (.ref Lj), y4, y5, y6, y7, y8, y9, y10, y11, y12, y13, y14, y15, none], ⟨HJ, _, _, _, _, _, _, _, _, _, _, _, _, Same.refl _, A6.mono (by omega), rfl⟩, ?_, ?_⟩
    · rintro i σ H' hi ⟨Hx, y4, y5, y6, y7, y8, y9, y10, y11, y12, y13, y14, y15, sx, Ax, rfl⟩
      have hib : i * c ≤ 12 * c := Nat.mul_le_mul_right _ (by omega)
      walk_at "wg"
      refine law_turn L d gd (J.same sx) (T6.same sx) Ax (by omega) (fun Hy H3 z4 z5 z6 z7 z8 z9 z10 z11 z12 z13 z14 z15 sy Ay => ?_) (by kernel_rfl)
      exact ⟨Hy, _, _, _, _, _, _, _, _, _, _, _, _, sx.trans sy, Ay.mono (by rw [Nat.add_mul, Nat.one_mul]; omega), rfl⟩
    · rintro σ H' ⟨Hx, y4, y5, y6, y7, y8, y9, y10, y11, y12, y13, y14, y15, sx, Ax, rfl⟩
      refine wb_one ?_
      walk_at "wx"
      exact k _
end K02

namespace K02
variable {G : Gb}
/-- a def stands at its name -/
structure DefAt (K : PySem.W.Frag) (x : Str) (st : Stmt) : Prop where
  is : ∃ (f : Addr) (oc : Value) (od : Option Addr) (kV dc pm : Value) (an : Option Addr) (cd ct : Value) (sl : Array (Option Value)), PySem.W.nsIn K mainGlobals x = some (some (.ref f)) ∧
    K.lookup f = some ⟨oc, od, .func (PySem.W.fnOf x x (defArgs st) (defBody st) (defScope st) .none kV dc pm an cd ct), sl⟩ ∧ PySem.W.codeIn K cd x = true ∧ PySem.W.keepIn K (.ref f) = true
theorem at_mk {K : PySem.W.Frag} {x : Str} {st : Stmt} {f : Addr} {oc : Value} {od : Option Addr} {kV dc pm : Value} {an : Option Addr} {cd ct : Value} {sl : Array (Option Value)} (a : PySem.W.nsIn K mainGlobals x = some (some (.ref f)))
    (l : K.lookup f = some ⟨oc, od, .func (PySem.W.fnOf x x (defArgs st) (defBody st) (defScope st) .none kV dc pm an cd ct), sl⟩) (c : PySem.W.codeIn K cd x = true) (k : PySem.W.keepIn K (.ref f) = true) : DefAt K x st :=
  ⟨f, oc, od, kV, dc, pm, an, cd, ct, sl, a, l, c, k⟩
theorem DefAt.top {G : Gb} {x : Str} {st : Stmt} {ps : List Str} {h : Heap} (D : DefAt G.K x st) (X : G.K.In h) (M : h.Ns mainGlobals G.mg)
    (hb : ∀ (kV doc pm : Value) (an : Option Addr) (cdv ct : Value) (us : List Value), us.length = ps.length → bindArgs (PySem.W.fnOf x x (defArgs st) (defBody st) (defScope st) .none kV doc pm an cdv ct) { pos := us } = pure (ps.zip us))
    (pn : ps = (defArgs st).args.map (·.arg)) : Top G x st ps := by
  obtain ⟨f, oc, od, kV, dc, pm, an, cd, ct, sl, a, l, c, k⟩ := D.is
  have F := fun_mk (st := st) l c k
  exact ⟨⟨f, _, PySem.W.mg_of X M a, F, F.binds hb⟩, pn⟩
/-- no name of the language is hidden -/
structure BiAt (K : PySem.W.Frag) : Prop where
  z_int : PySem.W.nsIn K mainGlobals "int" = some none
  z_bool : PySem.W.nsIn K mainGlobals "bool" = some none
  z_str : PySem.W.nsIn K mainGlobals "str" = some none
  z_list : PySem.W.nsIn K mainGlobals "list" = some none
  z_tuple : PySem.W.nsIn K mainGlobals "tuple" = some none
  z_set : PySem.W.nsIn K mainGlobals "set" = some none
  z_dict : PySem.W.nsIn K mainGlobals "dict" = some none
  z_type : PySem.W.nsIn K mainGlobals "type" = some none
  z_len : PySem.W.nsIn K mainGlobals "len" = some none
  z_isinstance : PySem.W.nsIn K mainGlobals "isinstance" = some none
  z_abs : PySem.W.nsIn K mainGlobals "abs" = some none
  z_min : PySem.W.nsIn K mainGlobals "min" = some none
  z_max : PySem.W.nsIn K mainGlobals "max" = some none
  z_any : PySem.W.nsIn K mainGlobals "any" = some none
  z_all : PySem.W.nsIn K mainGlobals "all" = some none
  z_sum : PySem.W.nsIn K mainGlobals "sum" = some none
  z_sorted : PySem.W.nsIn K mainGlobals "sorted" = some none
  z_repr : PySem.W.nsIn K mainGlobals "repr" = some none
  z_range : PySem.W.nsIn K mainGlobals "range" = some none
  z_enumerate : PySem.W.nsIn K mainGlobals "enumerate" = some none
  z_zip : PySem.W.nsIn K mainGlobals "zip" = some none
  z_reversed : PySem.W.nsIn K mainGlobals "reversed" = some none
  z_ValueError : PySem.W.nsIn K mainGlobals "ValueError" = some none
theorem BiAt.bi {G : Gb} {h : Heap} (b : BiAt G.K) (X : G.K.In h) (M : h.Ns mainGlobals G.mg) : Bi G.mg where
  b_int := PySem.W.mg_none_of X M b.z_int
  b_bool := PySem.W.mg_none_of X M b.z_bool
  b_str := PySem.W.mg_none_of X M b.z_str
  b_list := PySem.W.mg_none_of X M b.z_list
  b_tuple := PySem.W.mg_none_of X M b.z_tuple
  b_set := PySem.W.mg_none_of X M b.z_set
  b_dict := PySem.W.mg_none_of X M b.z_dict
  b_type := PySem.W.mg_none_of X M b.z_type
  b_len := PySem.W.mg_none_of X M b.z_len
  b_isinstance := PySem.W.mg_none_of X M b.z_isinstance
  b_abs := PySem.W.mg_none_of X M b.z_abs
  b_min := PySem.W.mg_none_of X M b.z_min
  b_max := PySem.W.mg_none_of X M b.z_max
  b_any := PySem.W.mg_none_of X M b.z_any
  b_all := PySem.W.mg_none_of X M b.z_all
  b_sum := PySem.W.mg_none_of X M b.z_sum
  b_sorted := PySem.W.mg_none_of X M b.z_sorted
  b_repr := PySem.W.mg_none_of X M b.z_repr
  b_range := PySem.W.mg_none_of X M b.z_range
  b_enumerate := PySem.W.mg_none_of X M b.z_enumerate
  b_zip := PySem.W.mg_none_of X M b.z_zip
  b_reversed := PySem.W.mg_none_of X M b.z_reversed
  b_ValueError := PySem.W.mg_none_of X M b.z_ValueError
/-- a tuple of texts stands at its name -/
def strsB : List Str → List Value → Bool
  | [], [] => true
  | z :: zs, .str y _ :: us => z == y && strsB zs us
  | _, _ => false
theorem strsB_vals : ∀ {ss : List Str} {us : List Value}, strsB ss us = true → Vals (ss.map V.str) us
  | [], [], _ => .nil
  | [], _ :: _, h => by cases h
  | _ :: _, [], h => by cases h
  | z :: zs, u :: us, h => by
    cases u with
    | str y t =>
      obtain ⟨h1, h2⟩ := Bool.and_eq_true_iff.mp (show (z == y && strsB zs us) = true from h)
      rw [← beq_iff_eq.mp h1]
      exact .cons ⟨t, rfl⟩ (strsB_vals h2)
    | _ => cases h
structure TupAt (K : PySem.W.Frag) (x : Str) (ss : List Str) : Prop where
  is : ∃ (a : Addr) (od : Option Addr) (its : Array Value) (n : Nat) (sl : Array (Option Value)), PySem.W.nsIn K mainGlobals x = some (some (.ref a)) ∧ K.lookup a = some ⟨.type "tuple", od, .seq its n, sl⟩ ∧ (decide (its.size ≤ 1000) && strsB ss its.toList) = true
theorem tupAt_mk {K : PySem.W.Frag} {x : Str} {ss : List Str} {a : Addr} {od : Option Addr} {its : Array Value} {n : Nat} {sl : Array (Option Value)} (h1 : PySem.W.nsIn K mainGlobals x = some (some (.ref a))) (h2 : K.lookup a = some ⟨.type "tuple", od, .seq its n, sl⟩) (h3 : (decide (its.size ≤ 1000) && strsB ss its.toList) = true) : TupAt K x ss := ⟨a, od, its, n, sl, h1, h2, h3⟩
theorem TupAt.tup {G : Gb} {x : Str} {ss : List Str} {h : Heap} (t : TupAt G.K x ss) (X : G.K.In h) (M : h.Ns mainGlobals G.mg) : TupG G x ss := by
  obtain ⟨a, od, its, n, sl, h1, h2, h3⟩ := t.is
  obtain ⟨h4, h5⟩ := Bool.and_eq_true_iff.mp h3
  exact ⟨⟨a, PySem.W.mg_of X M h1, fun H => .inr ⟨_, its, n, h2, rfl, rfl, len_le (Nat.le_trans (of_decide_eq_true h4) (by decide)), strsB_vals h5⟩⟩⟩
/-- a whole number stands at its name -/
def intB (i : Int) : Value → Bool
  | .int j _ => i == j
  | _ => false
structure IntAt (K : PySem.W.Frag) (x : Str) (i : Int) : Prop where
  is : ∃ u : Value, PySem.W.nsIn K mainGlobals x = some (some u) ∧ intB i u = true
theorem intAt_mk {K : PySem.W.Frag} {x : Str} {i : Int} {u : Value} (h1 : PySem.W.nsIn K mainGlobals x = some (some u)) (h2 : intB i u = true) : IntAt K x i := ⟨u, h1, h2⟩
theorem IntAt.int {G : Gb} {x : Str} {i : Int} {h : Heap} (t : IntAt G.K x i) (X : G.K.In h) (M : h.Ns mainGlobals G.mg) : IntG G x i := by
  obtain ⟨u, h1, h2⟩ := t.is
  refine ⟨u, PySem.W.mg_of X M h1, ?_⟩
  cases u with
  | int j t =>
    rw [beq_iff_eq.mp (show (i == j) = true from h2)]
    exact ⟨t, rfl⟩
  | _ => cases h2
/-- a dict from texts to texts stands at its name -/
structure FormAt (K : PySem.W.Frag) (w : World) (x : Str) (fs : List (Str × Str)) : Prop where
  is : ∃ (a : Addr) (es : Array DictEntry) (n : Nat), PySem.W.nsIn K mainGlobals x = some (some (.ref a)) ∧ K.lookup a = some ⟨.type "dict", none, .dict es n, #[]⟩ ∧ PySem.W.KeysLit w.params es.toList ∧ (a == sysModules) = false ∧ formB fs es.toList = true
theorem formAt_mk {K : PySem.W.Frag} {w : World} {x : Str} {fs : List (Str × Str)} {a : Addr} {es : Array DictEntry} {n : Nat} (h1 : PySem.W.nsIn K mainGlobals x = some (some (.ref a))) (h2 : K.lookup a = some ⟨.type "dict", none, .dict es n, #[]⟩) (h3 : PySem.W.KeysLit w.params es.toList) (h4 : (a == sysModules) = false) (h5 : formB fs es.toList = true) : FormAt K w x fs := ⟨a, es, n, h1, h2, h3, h4, h5⟩
theorem FormAt.form {G : Gb} {x : Str} {fs : List (Str × Str)} {h : Heap} (t : FormAt G.K G.w x fs) (X : G.K.In h) (M : h.Ns mainGlobals G.mg) : FormsG G x fs := by
  obtain ⟨a, es, n, h1, h2, h3, h4, h5⟩ := t.is
  exact ⟨a, es, n, PySem.W.mg_of X M h1, ⟨h2, h3, h4⟩, h5⟩
theorem rel_oneJ {vs : List V} {us : List Value} {zs : List V} {ws : List Value} (a : Vals vs us) (r : Vals zs ws) : Vals (gOneJ vs zs) (gOneJ us ws) := by
  cases a with
  | nil => exact r
  | cons _ _ => exact .nil
theorem k_judge {x : Str} {i : Nat} {j : Nat} {sp : Sp} (T : Top G x (top i) ["thing"]) (F : Fn G x 1 j sp) (hb : ∀ (kV doc pm : Value) (an : Option Addr) (cdv ct : Value) (v : Value), bindArgs (PySem.W.fnOf x x (defArgs (top i)) (defBody (top i)) (defScope (top i)) .none kV doc pm an cdv ct) { pos := [], kw := [(("thing" : Str), v)] } = pure [(("thing" : Str), v)]) : FnK G x ["thing"] gOneJ j sp := by
  refine T.fnk F gOneJ (fun kV doc pm an cdv ct us ws hl => ?_) rel_oneJ
  match us, ws, hl with
  | [], [v], _ => exact hb kV doc pm an cdv ct v
  | [], [], h => cases h
  | [], _ :: _ :: _, h => cases h
  | _ :: _, _, h => cases h
/-- what the text's top has written -/
structure AllAt (K : PySem.W.Frag) (w : World) : Prop where
  b : BiAt K
  h1 : DefAt K "is_number" (top 1)
  h2 : DefAt K "is_number_from" (top 2)
  h3 : DefAt K "is_tuple_of" (top 3)
  h4 : DefAt K "is_rising" (top 4)
  h7 : DefAt K "is_name" (top 7)
  h8 : DefAt K "is_small" (top 8)
  h16 : DefAt K "is_shaped" (top 16)
  h17 : DefAt K "fits_slot" (top 17)
  h18 : DefAt K "are_pairs" (top 18)
  h19 : DefAt K "parts_of" (top 19)
  h21 : DefAt K "is_expression" (top 21)
  h22 : DefAt K "is_cell" (top 22)
  h23 : DefAt K "is_sheet" (top 23)
  h24 : DefAt K "is_whole" (top 24)
  h26 : DefAt K "_law_begun" (top 26)
  h27 : DefAt K "_law_mixed" (top 27)
  h28 : DefAt K "_law_take" (top 28)
  h29 : DefAt K "_law_pick" (top 29)
  h30 : DefAt K "_law_shuffled" (top 30)
  h31 : DefAt K "_law_names" (top 31)
  h32 : DefAt K "_law_any_sheet" (top 32)
  h33 : DefAt K "_law_kept" (top 33)
  h34 : DefAt K "_law_is_small" (top 34)
  h35 : DefAt K "_law_is_name" (top 35)
  h36 : DefAt K "_law_any_number" (top 36)
  h37 : DefAt K "_law_any_expression" (top 37)
  h38 : DefAt K "_law_placeless" (top 38)
  h39 : DefAt K "_law_any_cell" (top 39)
  h40 : DefAt K "_law_table" (top 40)
  h41 : DefAt K "_law_all_fit" (top 41)
  h42 : DefAt K "_law_is_free" (top 42)
  h43 : DefAt K "_law_rises" (top 43)
  h44 : DefAt K "_law_fits" (top 44)
  h45 : DefAt K "_law_is_within" (top 45)
  h46 : DefAt K "_law_odd" (top 46)
  h47 : DefAt K "_law_spoilt" (top 47)
  h48 : DefAt K "law" (top 48)
  t6 : TupAt K "KEPT" keptS
  t13 : TupAt K "CELLS" cellS
  t14 : TupAt K "RANGED" ["input", "settle"]
  t15 : TupAt K "IN_ROWS" rowS
  n10 : IntAt K "LEAST" (-999)
  n11 : IntAt K "GREATEST" 999
  m12 : FormAt K w "FORMS" forms
theorem law_all {h : Heap} (X : G.K.In h) (M : h.Ns mainGlobals G.mg) (A : AllAt G.K G.w) : FnR G "law" 1 231 (spLaw G.K) := by
  have b := A.b.bi X M
  have T1 : Top G "is_number" (top 1) ["thing"] := A.h1.top X M (fun _ _ _ _ _ _ us hl => match us, hl with | [_], _ => rfl) rfl
  have T2 : Top G "is_number_from" (top 2) ["thing", "low", "high"] := A.h2.top X M (fun _ _ _ _ _ _ us hl => match us, hl with | [_, _, _], _ => rfl) rfl
  have T3 : Top G "is_tuple_of" (top 3) ["thing", "count"] := A.h3.top X M (fun _ _ _ _ _ _ us hl => match us, hl with | [_, _], _ => rfl) rfl
  have T4 : Top G "is_rising" (top 4) ["numbers"] := A.h4.top X M (fun _ _ _ _ _ _ us hl => match us, hl with | [_], _ => rfl) rfl
  have T7 : Top G "is_name" (top 7) ["thing"] := A.h7.top X M (fun _ _ _ _ _ _ us hl => match us, hl with | [_], _ => rfl) rfl
  have T8 : Top G "is_small" (top 8) ["sign"] := A.h8.top X M (fun _ _ _ _ _ _ us hl => match us, hl with | [_], _ => rfl) rfl
  have T16 : Top G "is_shaped" (top 16) ["thing"] := A.h16.top X M (fun _ _ _ _ _ _ us hl => match us, hl with | [_], _ => rfl) rfl
  have T17 : Top G "fits_slot" (top 17) ["slot", "thing"] := A.h17.top X M (fun _ _ _ _ _ _ us hl => match us, hl with | [_, _], _ => rfl) rfl
  have T18 : Top G "are_pairs" (top 18) ["thing"] := A.h18.top X M (fun _ _ _ _ _ _ us hl => match us, hl with | [_], _ => rfl) rfl
  have T19 : Top G "parts_of" (top 19) ["thing"] := A.h19.top X M (fun _ _ _ _ _ _ us hl => match us, hl with | [_], _ => rfl) rfl
  have T21 : Top G "is_expression" (top 21) ["thing"] := A.h21.top X M (fun _ _ _ _ _ _ us hl => match us, hl with | [_], _ => rfl) rfl
  have T22 : Top G "is_cell" (top 22) ["thing"] := A.h22.top X M (fun _ _ _ _ _ _ us hl => match us, hl with | [_], _ => rfl) rfl
  have T23 : Top G "is_sheet" (top 23) ["thing"] := A.h23.top X M (fun _ _ _ _ _ _ us hl => match us, hl with | [_], _ => rfl) rfl
  have T24 : Top G "is_whole" (top 24) ["thing", "in_row"] := A.h24.top X M (fun _ _ _ _ _ _ us hl => match us, hl with | [_, _], _ => rfl) rfl
  have T26 : Top G "_law_begun" (top 26) ["_law_script"] := A.h26.top X M (fun _ _ _ _ _ _ us hl => match us, hl with | [_], _ => rfl) rfl
  have T27 : Top G "_law_mixed" (top 27) ["_law_draw"] := A.h27.top X M (fun _ _ _ _ _ _ us hl => match us, hl with | [_], _ => rfl) rfl
  have T28 : Top G "_law_take" (top 28) ["_law_draw", "_law_many"] := A.h28.top X M (fun _ _ _ _ _ _ us hl => match us, hl with | [_, _], _ => rfl) rfl
  have T29 : Top G "_law_pick" (top 29) ["_law_draw", "_law_some"] := A.h29.top X M (fun _ _ _ _ _ _ us hl => match us, hl with | [_, _], _ => rfl) rfl
  have T30 : Top G "_law_shuffled" (top 30) ["_law_draw", "_law_some"] := A.h30.top X M (fun _ _ _ _ _ _ us hl => match us, hl with | [_, _], _ => rfl) rfl
  have T31 : Top G "_law_names" (top 31) ["_law_draw", "_law_many"] := A.h31.top X M (fun _ _ _ _ _ _ us hl => match us, hl with | [_, _], _ => rfl) rfl
  have T32 : Top G "_law_any_sheet" (top 32) ["_law_draw", "_law_most", "_law_deep"] := A.h32.top X M (fun _ _ _ _ _ _ us hl => match us, hl with | [_, _, _], _ => rfl) rfl
  have T33 : Top G "_law_kept" (top 33) [] := A.h33.top X M (fun _ _ _ _ _ _ us hl => match us, hl with | [], _ => rfl) rfl
  have T34 : Top G "_law_is_small" (top 34) ["_law_word"] := A.h34.top X M (fun _ _ _ _ _ _ us hl => match us, hl with | [_], _ => rfl) rfl
  have T35 : Top G "_law_is_name" (top 35) ["_law_matter"] := A.h35.top X M (fun _ _ _ _ _ _ us hl => match us, hl with | [_], _ => rfl) rfl
  have T36 : Top G "_law_any_number" (top 36) ["_law_draw"] := A.h36.top X M (fun _ _ _ _ _ _ us hl => match us, hl with | [_], _ => rfl) rfl
  have T37 : Top G "_law_any_expression" (top 37) ["_law_draw", "_law_names_here", "_law_deep"] := A.h37.top X M (fun _ _ _ _ _ _ us hl => match us, hl with | [_, _, _], _ => rfl) rfl
  have T38 : Top G "_law_placeless" (top 38) ["_law_tree"] := A.h38.top X M (fun _ _ _ _ _ _ us hl => match us, hl with | [_], _ => rfl) rfl
  have T39 : Top G "_law_any_cell" (top 39) ["_law_draw", "_law_names_here", "_law_deep", "_law_word"] := A.h39.top X M (fun _ _ _ _ _ _ us hl => match us, hl with | [_, _, _, _], _ => rfl) rfl
  have T40 : Top G "_law_table" (top 40) [] := A.h40.top X M (fun _ _ _ _ _ _ us hl => match us, hl with | [], _ => rfl) rfl
  have T41 : Top G "_law_all_fit" (top 41) ["_law_table_here", "_law_sorts", "_law_parts"] := A.h41.top X M (fun _ _ _ _ _ _ us hl => match us, hl with | [_, _, _], _ => rfl) rfl
  have T42 : Top G "_law_is_free" (top 42) ["_law_tree"] := A.h42.top X M (fun _ _ _ _ _ _ us hl => match us, hl with | [_], _ => rfl) rfl
  have T43 : Top G "_law_rises" (top 43) ["_law_matter"] := A.h43.top X M (fun _ _ _ _ _ _ us hl => match us, hl with | [_], _ => rfl) rfl
  have T44 : Top G "_law_fits" (top 44) ["_law_table_here", "_law_sort", "_law_matter"] := A.h44.top X M (fun _ _ _ _ _ _ us hl => match us, hl with | [_, _, _], _ => rfl) rfl
  have T45 : Top G "_law_is_within" (top 45) ["_law_matter"] := A.h45.top X M (fun _ _ _ _ _ _ us hl => match us, hl with | [_], _ => rfl) rfl
  have T46 : Top G "_law_odd" (top 46) ["_law_draw"] := A.h46.top X M (fun _ _ _ _ _ _ us hl => match us, hl with | [_], _ => rfl) rfl
  have T47 : Top G "_law_spoilt" (top 47) ["_law_draw", "_law_matter", "_law_spare"] := A.h47.top X M (fun _ _ _ _ _ _ us hl => match us, hl with | [_, _, _], _ => rfl) rfl
  have T48 : Top G "law" (top 48) ["_law_script"] := A.h48.top X M (fun _ _ _ _ _ _ us hl => match us, hl with | [_], _ => rfl) rfl
  have PK := A.t6.tup X M
  have PC := A.t13.tup X M
  have PR := A.t14.tup X M
  have PI := A.t15.tup X M
  have gL := A.n10.int X M
  have gG := A.n11.int X M
  have PF := A.m12.form X M
  have FNu := fn_num b T1
  have FFr := fn_from FNu T2
  have FTu := fn_tup b T3
  have FRi := fn_rising b T4
  have FSm := fn_small T8
  have FNa := fn_nameM b FSm PK T7
  have FPa := fn_pairs b FFr FTu FRi gL gG T18
  have FSl := fn_slot FNa FFr FPa gL gG T17
  have FSh := fn_shaped b FSl PF PR T16
  have FPt := fn_parts b PF T19
  have FWh := fn_whole FSh FPt PC PI T24
  have FEx := fn_expr FWh T21
  have FCe := fn_cell FSh FPt FWh b PC T22
  have FSt := fn_sheet b FTu FSh FCe T23
  have FM := fn_mixed b T27
  have FT := fn_take b FM T28
  have FP := fn_pick b FT T29
  have FKe := fn_kept T33
  have FLs := fn_lsmall b T34
  have FLn := fn_lnameM b FKe FLs T35
  have FSf := fn_shuffled b FT T30
  have FNm := fn_names b FT FP FSf T31
  have FAn := fn_anynum FT FP T36
  have FE := fn_expr' b FT FP FAn T37
  have FPl := fn_placeless b T38 12
  have FAc := fn_any_cell FT FP (FE 3) (FE 2) FPl T39
  have FAs := fn_any_sheet b FT FP FNm FAc T32
  have FRs := fn_rises b T43
  have FFe := fn_free b T42 45
  have FFi := fn_fits b FLn FRs FFe T41 T44 89
  have FOd := fn_odd FP T46
  have FSp := fn_spoilt b FT FOd T47 60
  have FWc := fn_withinC T45
  have FWs := fn_withinS b FWc T45
  obtain ⟨f1, _, g1, _⟩ := T21.is
  obtain ⟨f2, _, g2, _⟩ := T22.is
  obtain ⟨f3, _, g3, _⟩ := T23.is
  exact fn_law ⟨b, fn_begun b T26, fn_tableF T40, FT, FP, FNm, FAs, FE 4, FE 2, FAc, FOd, FFi, FSp, FWs⟩ ⟨g1, ⟨⟨_, _, g1, FEx, k_judge T21 FEx (fun _ _ _ _ _ _ _ => rfl), by decide⟩⟩⟩ ⟨g2, ⟨⟨_, _, g2, FCe, k_judge T22 FCe (fun _ _ _ _ _ _ _ => rfl), by decide⟩⟩⟩ ⟨g3, ⟨⟨_, _, g3, FSt, k_judge T23 FSt (fun _ _ _ _ _ _ _ => rfl), by decide⟩⟩⟩ T48
theorem all_mk {l : PySem.W.OpenLaw} {w : World} {K : PySem.W.Frag} {h : Heap} {mg : Str → Option Value} {fa : Addr} (X : K.In h) (M : h.Ns mainGlobals mg) (hfa : mg "law" = some (.ref fa)) (A : AllAt K w) :
    ∃ (fd : FuncData), (∀ (s : Shared) (v : Value), BindsTo s fd ⟨[v], []⟩ [("_law_script", v)]) ∧ ∀ base : Heap, K.In base → base.Ns mainGlobals mg → FnG l.prog w K mg base 231 fa fd ["_law_script"] (spLaw K) := by
  obtain ⟨f, oc, od, kV, dc, pm, an, cd, ct, sl, a, lk, cc, k⟩ := A.h48.is
  have ef := hfa.symm.trans (PySem.W.mg_of X M a)
  cases ef
  refine ⟨PySem.W.fnOf "law" "law" (defArgs (top 48)) (defBody (top 48)) (defScope (top 48)) .none kV dc pm an cd ct, fun s v => .of_eq rfl, fun base X' M' => ?_⟩
  obtain ⟨f', fd', ps', h1, kp, ok, _, _, ep, st', F2⟩ := (law_all (G := ⟨l.prog, w, K, mg, base⟩) (h := base) X' M' A).is
  have F1 := fun_mk (st := top 48) lk cc k
  have ef := hfa.symm.trans h1
  injection ef with ef
  injection ef with ef
  subst ef
  have e3 := fun_one F1 F2
  subst e3
  have e4 : ps' = [("_law_script" : Str)] := ep
  subst e4
  exact ok
theorem walk {l : PySem.W.OpenLaw} {q : Program} {loose : List Str} {XP : (Str → Option Value) → Heap → Prop} {YP : World → Heap → Prop} {d : DefRec} {K : Params → PySem.W.Frag} (hn : l.most = some 63) (hdf : d.params.defaults = [])
    (hY : ∀ (w : World) (h : Heap), YP w h → (K w.params).In h)
    (F : ∀ (w : World) (mg : Str → Option Value) (fa : Addr) (h : Heap), (K w.params).In h → h.Ns mainGlobals mg → mg d.name = some (.ref fa) →
      ∃ (fd : FuncData), (∀ (s : Shared) (u : Value), BindsTo s fd ⟨[u], []⟩ [("_law_script", u)]) ∧ ∀ base : Heap, (K w.params).In base → base.Ns mainGlobals mg → FnG l.prog w (K w.params) mg base 231 fa fd ["_law_script"] (spLaw (K w.params))) :
    PySem.W.WalkO q loose XP YP l.row.toRowW d [] (fun f vs => PySem.call f vs) := by
  refine Att.attach_callB hn hdf fun w s₀ s₁ mg mb fa o pm cd doc a vs ns G Y ho hd hcd hmg hobj hints hlen hbits hg => ?_
  have KX := hY w _ Y
  obtain ⟨fd, hb, hF⟩ := F w mg fa _ KX G.T.g hmg
  refine law_run (cs := []) (k := 231) KX G.T.g G.T.b G.T.builtins G.T.nolimit hg (fun p hp => nomatch hp) (fun p hp => nomatch hp) (fun p hp => nomatch hp) G.T.bmain hobj hints (Nat.le_trans hlen (by decide)) ⟨rfl, by decide, by decide⟩ (fun base X' M' TB => hF base X' M') hb (fun H hH hS => ⟨a, ns, rfl, hS, hlen, fun _ => rfl⟩) fun H e s' h => ?_
  obtain ⟨_, _, _, _, _, _, _, _, _, _, _, _, z⟩ := h
  exact z
end K02

end

open PySem PySem.W PyProof.Rows in
set_option maxRecDepth 100000 in
set_option maxHeartbeats 0 in
theorem PySem.Challenge.cw_whysheets_k02_trees_judged_holds : PySem.Challenge.rw_whysheets_k02_trees_judged.Holds := by
  w_on; o_law; k_head; (case hw => w_witness2)
  k_fill
  refine K02.walk (l := PySem.Challenge.rw_whysheets_k02_trees_judged) rfl rfl (fun w h Y => by first | exact PySem.W.km_in_of Y | exact PySem.W.kIn_of Y) ?F
  case F =>
    intro w mg fa h KX G hmg
    refine' K02.all_mk KX G hmg ?A
    case A =>
      refine' K02.AllAt.mk ?b ?h1 ?h2 ?h3 ?h4 ?h7 ?h8 ?h16 ?h17 ?h18 ?h19 ?h21 ?h22 ?h23 ?h24 ?h26 ?h27 ?h28 ?h29 ?h30 ?h31 ?h32 ?h33 ?h34 ?h35 ?h36 ?h37 ?h38 ?h39 ?h40 ?h41 ?h42 ?h43 ?h44 ?h45 ?h46 ?h47 ?h48 ?t6 ?t13 ?t14 ?t15 ?n10 ?n11 ?m12
      (case b => (refine' K02.BiAt.mk ?zint ?zbool ?zstr ?zlist ?ztuple ?zset ?zdict ?ztype ?zlen ?zisinstance ?zabs ?zmin ?zmax ?zany ?zall ?zsum ?zsorted ?zrepr ?zrange ?zenumerate ?zzip ?zreversed ?zValueError; (case zint => k_is); (case zbool => k_is); (case zstr => k_is); (case zlist => k_is); (case ztuple => k_is); (case zset => k_is); (case zdict => k_is); (case ztype => k_is); (case zlen => k_is); (case zisinstance => k_is); (case zabs => k_is); (case zmin => k_is); (case zmax => k_is); (case zany => k_is); (case zall => k_is); (case zsum => k_is); (case zsorted => k_is); (case zrepr => k_is); (case zrange => k_is); (case zenumerate => k_is); (case zzip => k_is); (case zreversed => k_is); (case zValueError => k_is)))
      (case h1 => (refine' K02.at_mk ?a ?l ?c ?k; (case a => k_is); (case l => k_is); (case c => k_is); (case k => k_is)))
      (case h2 => (refine' K02.at_mk ?a ?l ?c ?k; (case a => k_is); (case l => k_is); (case c => k_is); (case k => k_is)))
      (case h3 => (refine' K02.at_mk ?a ?l ?c ?k; (case a => k_is); (case l => k_is); (case c => k_is); (case k => k_is)))
      (case h4 => (refine' K02.at_mk ?a ?l ?c ?k; (case a => k_is); (case l => k_is); (case c => k_is); (case k => k_is)))
      (case h7 => (refine' K02.at_mk ?a ?l ?c ?k; (case a => k_is); (case l => k_is); (case c => k_is); (case k => k_is)))
      (case h8 => (refine' K02.at_mk ?a ?l ?c ?k; (case a => k_is); (case l => k_is); (case c => k_is); (case k => k_is)))
      (case h16 => (refine' K02.at_mk ?a ?l ?c ?k; (case a => k_is); (case l => k_is); (case c => k_is); (case k => k_is)))
      (case h17 => (refine' K02.at_mk ?a ?l ?c ?k; (case a => k_is); (case l => k_is); (case c => k_is); (case k => k_is)))
      (case h18 => (refine' K02.at_mk ?a ?l ?c ?k; (case a => k_is); (case l => k_is); (case c => k_is); (case k => k_is)))
      (case h19 => (refine' K02.at_mk ?a ?l ?c ?k; (case a => k_is); (case l => k_is); (case c => k_is); (case k => k_is)))
      (case h21 => (refine' K02.at_mk ?a ?l ?c ?k; (case a => k_is); (case l => k_is); (case c => k_is); (case k => k_is)))
      (case h22 => (refine' K02.at_mk ?a ?l ?c ?k; (case a => k_is); (case l => k_is); (case c => k_is); (case k => k_is)))
      (case h23 => (refine' K02.at_mk ?a ?l ?c ?k; (case a => k_is); (case l => k_is); (case c => k_is); (case k => k_is)))
      (case h24 => (refine' K02.at_mk ?a ?l ?c ?k; (case a => k_is); (case l => k_is); (case c => k_is); (case k => k_is)))
      (case h26 => (refine' K02.at_mk ?a ?l ?c ?k; (case a => k_is); (case l => k_is); (case c => k_is); (case k => k_is)))
      (case h27 => (refine' K02.at_mk ?a ?l ?c ?k; (case a => k_is); (case l => k_is); (case c => k_is); (case k => k_is)))
      (case h28 => (refine' K02.at_mk ?a ?l ?c ?k; (case a => k_is); (case l => k_is); (case c => k_is); (case k => k_is)))
      (case h29 => (refine' K02.at_mk ?a ?l ?c ?k; (case a => k_is); (case l => k_is); (case c => k_is); (case k => k_is)))
      (case h30 => (refine' K02.at_mk ?a ?l ?c ?k; (case a => k_is); (case l => k_is); (case c => k_is); (case k => k_is)))
      (case h31 => (refine' K02.at_mk ?a ?l ?c ?k; (case a => k_is); (case l => k_is); (case c => k_is); (case k => k_is)))
      (case h32 => (refine' K02.at_mk ?a ?l ?c ?k; (case a => k_is); (case l => k_is); (case c => k_is); (case k => k_is)))
      (case h33 => (refine' K02.at_mk ?a ?l ?c ?k; (case a => k_is); (case l => k_is); (case c => k_is); (case k => k_is)))
      (case h34 => (refine' K02.at_mk ?a ?l ?c ?k; (case a => k_is); (case l => k_is); (case c => k_is); (case k => k_is)))
      (case h35 => (refine' K02.at_mk ?a ?l ?c ?k; (case a => k_is); (case l => k_is); (case c => k_is); (case k => k_is)))
      (case h36 => (refine' K02.at_mk ?a ?l ?c ?k; (case a => k_is); (case l => k_is); (case c => k_is); (case k => k_is)))
      (case h37 => (refine' K02.at_mk ?a ?l ?c ?k; (case a => k_is); (case l => k_is); (case c => k_is); (case k => k_is)))
      (case h38 => (refine' K02.at_mk ?a ?l ?c ?k; (case a => k_is); (case l => k_is); (case c => k_is); (case k => k_is)))
      (case h39 => (refine' K02.at_mk ?a ?l ?c ?k; (case a => k_is); (case l => k_is); (case c => k_is); (case k => k_is)))
      (case h40 => (refine' K02.at_mk ?a ?l ?c ?k; (case a => k_is); (case l => k_is); (case c => k_is); (case k => k_is)))
      (case h41 => (refine' K02.at_mk ?a ?l ?c ?k; (case a => k_is); (case l => k_is); (case c => k_is); (case k => k_is)))
      (case h42 => (refine' K02.at_mk ?a ?l ?c ?k; (case a => k_is); (case l => k_is); (case c => k_is); (case k => k_is)))
      (case h43 => (refine' K02.at_mk ?a ?l ?c ?k; (case a => k_is); (case l => k_is); (case c => k_is); (case k => k_is)))
      (case h44 => (refine' K02.at_mk ?a ?l ?c ?k; (case a => k_is); (case l => k_is); (case c => k_is); (case k => k_is)))
      (case h45 => (refine' K02.at_mk ?a ?l ?c ?k; (case a => k_is); (case l => k_is); (case c => k_is); (case k => k_is)))
      (case h46 => (refine' K02.at_mk ?a ?l ?c ?k; (case a => k_is); (case l => k_is); (case c => k_is); (case k => k_is)))
      (case h47 => (refine' K02.at_mk ?a ?l ?c ?k; (case a => k_is); (case l => k_is); (case c => k_is); (case k => k_is)))
      (case h48 => (refine' K02.at_mk ?a ?l ?c ?k; (case a => k_is); (case l => k_is); (case c => k_is); (case k => k_is)))
      (case t6 => (refine' K02.tupAt_mk ?a ?l ?k; (case a => k_is); (case l => k_is); (case k => rfl)))
      (case t13 => (refine' K02.tupAt_mk ?a ?l ?k; (case a => k_is); (case l => k_is); (case k => rfl)))
      (case t14 => (refine' K02.tupAt_mk ?a ?l ?k; (case a => k_is); (case l => k_is); (case k => rfl)))
      (case t15 => (refine' K02.tupAt_mk ?a ?l ?k; (case a => k_is); (case l => k_is); (case k => rfl)))
      (case n10 => (refine' K02.intAt_mk ?a ?k; (case a => k_is); (case k => rfl)))
      (case n11 => (refine' K02.intAt_mk ?a ?k; (case a => k_is); (case k => rfl)))
      (case m12 => (refine' K02.formAt_mk ?a ?l ?c ?d ?k; (case a => k_is); (case l => k_is); (case c => (repeat' (first | exact True.intro | refine ⟨⟨_, _, rfl, rfl⟩, ?_⟩))); (case d => rfl); (case k => rfl)))
