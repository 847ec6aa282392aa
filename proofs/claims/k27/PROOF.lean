import PyProof.Rows.All
import Wide.All
import OpenK.AllK
import Wide.FinOn
import PyProof.EqAt
import PyProof.EqKinds
import PyProof.TupleCall
import HandS.ForMost
import HandS.ForExc
import HandS.IsInst
import HandS.Flow
import HandS.More
import HandS.ExcIs
import HandS.Defaults
import HandS.Wide
import HandS.Conv
import PySem.Challenge.RW_whysheets_k27_stretches_by_themselves
set_option Elab.async false
set_option linter.all false
set_option maxRecDepth 100000
set_option maxHeartbeats 4000000
/-! A weakest-wish reading of the hand layer: what an expression, a test, a statement must show, said of the syntax itself; the rule of an operator is chosen by the values that are met. -/
namespace Wx
open PySem L2

def WE (X : Cx) (e : Expr) (σ : L2.St) (H : Hp) (Q : VK) : Prop :=
  ∀ (pins : List (Addr × Obj)) (s : Shared), Inv X pins σ H s → wpAny (model X.prog X.w) X.A (eval e X.env) (EP X pins σ Q) X.xe s
def WT (X : Cx) (e : Expr) (σ : L2.St) (H : Hp) (Q : Bool → Hp → Prop) : Prop :=
  ∀ (pins : List (Addr × Obj)) (s : Shared), Inv X pins σ H s → wpAny (model X.prog X.w) X.A (isTrue e X.env (eval e X.env)) (TP X pins σ Q) X.xe s
def WW (X : Cx) (e : Expr) (σ : L2.St) (H : Hp) (Q : Bool → Hp → Prop) : Prop :=
  ∀ (whole : Sem Value) (pins : List (Addr × Obj)) (s : Shared), Inv X pins σ H s → wpAny (model X.prog X.w) X.A (isTrue e X.env whole) (TP X pins σ Q) X.xe s
def WA (X : Cx) (es : List Expr) (σ : L2.St) (H : Hp) (Q : List V → Hp → Prop) : Prop :=
  ∀ (pos : Pos) (pins : List (Addr × Obj)) (s : Shared), Inv X pins σ H s → wpAny (model X.prog X.w) X.A (spliced (backTo pos (starEach es X.env))) (AP X pins σ Q) X.xe s
def WK (X : Cx) (ks : List Keyword) (σ : L2.St) (H : Hp) (Q : List V → Hp → Prop) : Prop :=
  ∀ (pos : Pos) (pins : List (Addr × Obj)) (s : Shared), Inv X pins σ H s → wpAny (model X.prog X.w) X.A (evalAll ((backToKw pos (keywordEach ks X.env)).map (·.2))) (AP X pins σ Q) X.xe s
def WS (X : Cx) (st : Stmt) (D : Ends) (σ : L2.St) (H : Hp) : Prop :=
  ∀ (pins : List (Addr × Obj)) (s : Shared), Inv X pins σ H s → wpAny (model X.prog X.w) X.A (exec st X.env) (SP X pins D) X.xe s
def WB (X : Cx) (sts : List Stmt) (D : Ends) (σ : L2.St) (H : Hp) : Prop :=
  ∀ (pins : List (Addr × Obj)) (s : Shared), Inv X pins σ H s → wpAny (model X.prog X.w) X.A (execs sts X.env) (SP X pins D) X.xe s

section
variable {X : Cx} {e a b c : Expr} {es : List Expr} {st : Stmt} {sts rest : List Stmt} {σ : L2.St} {H : Hp} {Q : VK} {QT : Bool → Hp → Prop} {QA : List V → Hp → Prop} {D : Ends} {pos p : Pos} {x : Str} {v : V}
theorem pe_we : PE X e (WE X e) := ⟨fun pins s σ H Q I h => h pins s I⟩
theorem pt_wt : PT X e (WT X e) := ⟨fun pins s σ H Q I h => h pins s I⟩
theorem pw_ww : PW X e (WW X e) := ⟨fun wh pins s σ H Q I h => h wh pins s I⟩
theorem pa_wa : PA X es (WA X es) := ⟨fun pos pins s σ H Q I h => h pos pins s I⟩
theorem pk_wk {ks : List Keyword} : PK X ks (WK X ks) := ⟨fun pos pins s σ H Q I h => h pos pins s I⟩
theorem ps_ws : PS X st (WS X st) := ⟨fun pins s σ H D I h => h pins s I⟩
theorem pss_wb : PSs X sts (WB X sts) := ⟨fun pins s σ H D I h => h pins s I⟩
theorem we_of {t : TE} (h : PE X e t) (q : t σ H Q) : WE X e σ H Q := fun pins s I => h.run pins s σ H Q I q
theorem wt_of {t : TT} (h : PT X e t) (q : t σ H QT) : WT X e σ H QT := fun pins s I => h.run pins s σ H QT I q
theorem ww_of {t : TT} (h : PW X e t) (q : t σ H QT) : WW X e σ H QT := fun wh pins s I => h.run wh pins s σ H QT I q
theorem wa_of {t : TA} (h : PA X es t) (q : t σ H QA) : WA X es σ H QA := fun pos pins s I => h.run pos pins s σ H QA I q
theorem wk_of {ks : List Keyword} {t : TA} (h : PK X ks t) (q : t σ H QA) : WK X ks σ H QA := fun pos pins s I => h.run pos pins s σ H QA I q
theorem ws_of {t : TS} (h : PS X st t) (q : t D σ H) : WS X st D σ H := fun pins s I => h.run pins s σ H D I q
theorem wb_of {t : TS} (h : PSs X sts t) (q : t D σ H) : WB X sts D σ H := fun pins s I => h.run pins s σ H D I q

/-! ### names and constants -/
def visB (sc : Scope) (x : Str) : Bool := match sc.names.lookup x with | some .local => true | some .cell => true | some .free => true | _ => false
theorem vis_of {sc : Scope} (h : visB sc x = true) : Vis sc x := by
  unfold visB at h
  unfold Vis
  split at h
  · exact .inl (by assumption)
  · exact .inr (.inl (by assumption))
  · exact .inr (.inr (by assumption))
  · cases h
def locB (sc : Scope) (x : Str) : Bool := match sc.names.lookup x with | some .local => true | _ => false
theorem loc_of {sc : Scope} (h : locB sc x = true) : sc.names.lookup x = some .local := by
  unfold locB at h
  split at h
  · assumption
  · cases h
def glB (sc : Scope) (x : Str) : Bool := match sc.names.lookup x with | some .globalImplicit => true | _ => false
/-- what the program's top has left, of which every def's body speaks -/
structure Gb where
  prog : Program
  w : World
  K : PySem.W.Frag
  mg : Str → Option Value
  base : Heap
/-- what the walk knows of the def (or the block of a comprehension) whose body runs -/
structure Def (X : Cx) (G : Gb) (N : List Str) (sc : Scope) (k : Nat) : Prop where
  prog : X.prog = G.prog
  w : X.w = G.w
  K : X.K = G.K
  mg : X.mg = G.mg
  base : X.base = G.base
  n : X.N = N
  sc : X.env.scope = sc
  nd : N.Nodup
  calm : X.calm = true
  room : Room k X.A
/-- the same of a def's own frame: W is what is wanted of an exception that leaves it -/
structure Fr (X : Cx) (G : Gb) (N : List Str) (sc : Scope) (k : Nat) (W : WX) : Prop extends Def X G N sc k where
  fn : ∀ x, X.fn x = true
  own : PassesOwn (model X.prog X.w) X.A X.env X.xe
  tk : Takes X W
  stk : X.stack = X.env :: X.outer
  frm : X.env.frame = some X.env.locals
  ex : X.ex = []
variable {G : Gb} {N : List Str} {sc : Scope} {k : Nat} {W : WX}
theorem Def.gl (d : Def X G N sc k) (h : glB sc x = true) : Gl X x := by
  unfold Gl Env.kindOf
  rw [d.sc]
  unfold glB at h
  split at h
  · assumption
  · cases h
theorem Def.hu (d : Def X G N sc k) : X.A.units + 1 < cLine := hu_of d.room
theorem we_name (d : Def X G N sc k) (i : Nat) (h1 : N[i]? = some x) (h2 : visB sc x = true) (h3 : σ[i]? = some (some v)) (q : Q v H) (hd : (x == ("__debug__" : Str)) = false := by decide +kernel) (hc : (x == ("__classdict__" : Str)) = false := by decide +kernel) :
    WE X (.Name x pos) σ H Q := we_of (pe_var (i := i) (by rw [d.n]; exact h1) (by rw [d.sc]; exact vis_of h2) hd hc) ⟨v, h3, q⟩
theorem we_blt (d : Def X G N sc k) {u : Value} (hg : glB sc x = true) (hm : G.mg x = none) (hv : bootBuiltins x = some u) (r : RelV v u) (q : Q v H) (hn : x ≠ "__name__" := by decide +kernel) (hd : (x == ("__debug__" : Str)) = false := by decide +kernel) :
    WE X (.Name x pos) σ H Q := we_of (pe_bltn (d.gl hg) (by rw [d.mg]; exact hm) hv r hn hd) q
theorem we_glob (d : Def X G N sc k) {u : Value} (hg : glB sc x = true) (hm : G.mg x = some u) (r : RelV v u) (q : Q v H) (hd : (x == ("__debug__" : Str)) = false := by decide +kernel) :
    WE X (.Name x pos) σ H Q := we_of (pe_glob (d.gl hg) (by rw [d.mg]; exact hm) r hd) q
theorem we_int {i : Int} {j} (q : Q (.int i) H) : WE X (.Constant (.int i) j pos) σ H Q := we_of pe_int q
theorem we_bl {i : Bool} {j} (q : Q (.bl i) H) : WE X (.Constant (.bool i) j pos) σ H Q := we_of pe_bl q
theorem we_non {j} (q : Q .non H) : WE X (.Constant .none j pos) σ H Q := we_of pe_non q
theorem we_str {z : Str} {j} (q : Q (.str z) H) : WE X (.Constant (.str z) j pos) σ H Q := we_of pe_str q

/-! ### operators: the rule is chosen by the values -/
def RO (X : Cx) (f : Value → Value → Sem Value) (x y : V) (H : Hp) (Q : VK) : Prop := ∃ r, OpR X f r ∧ r x y H Q
theorem ro_ok {f : Value → Value → Sem Value} : OpR X f (RO X f) := by
  intro pins s σ H x y v u Q I rx ry h
  obtain ⟨r, ho, hr⟩ := h
  exact ho pins s σ H x y v u Q I rx ry hr
theorem we_bin {op : Operator} (h : WE X a σ H fun x H1 => WE X b σ H1 fun y H2 => RO X (binaryOp op) x y H2 Q) : WE X (.BinOp a op b pos) σ H Q := we_of (pe_op ro_ok pe_we pe_we) h
theorem we_cmp {op : CmpOp} (hm : behindInMarks op b = false) (h : WE X a σ H fun x H1 => WE X b σ H1 fun y H2 => RO X (compareOp op) x y H2 Q) : WE X (.Compare a [op] [b] pos) σ H Q := we_of (pe_cmpR ro_ok pe_we pe_we hm) h
theorem wt_cmp {op : CmpOp} (hm : behindInMarks op b = false) (h : WE X a σ H fun x H1 => WE X b σ H1 fun y H2 => RO X (compareOp op) x y H2 fun z H3 => ∃ k, z = .bl k ∧ QT k H3) : WT X (.Compare a [op] [b] pos) σ H QT := wt_of (pt_cmpR ro_ok pe_we pe_we hm) h
def RU (X : Cx) (f : Value → Sem Value) (x : V) (H : Hp) (Q : VK) : Prop := ∃ r, UnR X f r ∧ r x H Q
theorem ru_ok {f : Value → Sem Value} : UnR X f (RU X f) := by
  intro pins s σ H x v Q I rx h
  obtain ⟨r, ho, hr⟩ := h
  exact ho pins s σ H x v Q I rx hr
theorem we_un {op : UnaryOp} (h : WE X a σ H fun x H1 => RU X (unaryOp op) x H1 Q) : WE X (.UnaryOp op a pos) σ H Q := we_of (pe_un ru_ok pe_we) h

/-! ### tests -/
theorem wt_not (h : WT X a σ H fun k H1 => QT (!k) H1) : WT X (.UnaryOp .Not a pos) σ H QT := wt_of (pt_not pt_wt) h
theorem wt_ww (h : WW X e σ H QT) : WT X e σ H QT := wt_of pw_ww.pt h
theorem ww_and (h : WT X a σ H fun k H1 => if k = true then WW X (.BoolOp .And (b :: es) pos) σ H1 QT else QT false H1) : WW X (.BoolOp .And (a :: b :: es) pos) σ H QT := ww_of (pw_and pt_wt pw_ww) h
theorem ww_or (h : WT X a σ H fun k H1 => if k = true then QT true H1 else WW X (.BoolOp .Or (b :: es) pos) σ H1 QT) : WW X (.BoolOp .Or (a :: b :: es) pos) σ H QT := ww_of (pw_or pt_wt pw_ww) h
theorem ww_and1 (h : WT X a σ H QT) : WW X (.BoolOp .And [a] pos) σ H QT := ww_of (pw_and1 pt_wt) h
theorem ww_or1 (h : WT X a σ H QT) : WW X (.BoolOp .Or [a] pos) σ H QT := ww_of (pw_or1 pt_wt) h
theorem wt_truth (he : ∀ whole, isTrue a X.env whole = (do let v ← whole; standAt a.pos; holding [v] (truthy v))) (h : WE X a σ H fun x H1 => ∃ k, TruV X.K x H1 k ∧ QT k H1) : WT X a σ H QT := wt_of (pt_truth pe_we he) h
theorem we_if (h : WT X c σ H fun k H1 => if k = true then WE X a σ H1 Q else WE X b σ H1 Q) : WE X (.IfExp c a b pos) σ H Q := we_of (pe_ifExp pt_wt pe_we pe_we) h
theorem we_and (h : WE X a σ H fun x H1 => ∃ k, x = .bl k ∧ if k = true then WE X (.BoolOp .And (b :: es) pos) σ H1 Q else Q (.bl false) H1) : WE X (.BoolOp .And (a :: b :: es) pos) σ H Q := we_of (pe_and pe_we pe_we) h
theorem we_or (h : WE X a σ H fun x H1 => ∃ k, x = .bl k ∧ if k = true then Q (.bl true) H1 else WE X (.BoolOp .Or (b :: es) pos) σ H1 Q) : WE X (.BoolOp .Or (a :: b :: es) pos) σ H Q := we_of (pe_or pe_we pe_we) h
theorem we_one {op : BoolOp} (h : WE X a σ H Q) : WE X (.BoolOp op [a] pos) σ H Q := we_of (pe_one pe_we) h
theorem we_not (h : WE X a σ H fun x H1 => ∃ k, x = .bl k ∧ Q (.bl (!k)) H1) : WE X (.UnaryOp .Not a pos) σ H Q := we_of (pe_not pe_we) h
theorem we_notT (h : WE X a σ H fun x H1 => ∃ k, TruV X.K x H1 k ∧ Q (.bl (!k)) H1) : WE X (.UnaryOp .Not a pos) σ H Q := we_of (pe_notT pe_we) h

/-! ### arguments, displays -/
/-- no star -/
def ns : Expr → Bool
  | .Starred _ _ => false
  | _ => true
def nss : List Expr → Bool
  | [] => true
  | e :: es => ns e && nss es
theorem star_ns {env : Env} {e : Expr} {es : List Expr} (h : ns e = true) : starEach (e :: es) env = (false, eval e env) :: starEach es env := by
  cases e with
  | Starred _ _ => cases h
  | _ => rfl
theorem hpl_ns {env : Env} {pos : Pos} : ∀ {es : List Expr}, nss es = true → (backTo pos (starEach es env)).any (·.1) = false
  | [], _ => rfl
  | e :: es, h => by
    have h' := Bool.and_eq_true_iff.mp h
    rw [star_ns h'.1]
    have ih := hpl_ns (env := env) (pos := pos) h'.2
    show (false || (backTo pos (starEach es env)).any (·.1)) = false
    rw [ih] <;> rfl
theorem all_ns {env : Env} {pos : Pos} : ∀ {es : List Expr}, nss es = true → (backTo pos (starEach es env)).all (fun x => !x.1) = true
  | [], _ => rfl
  | e :: es, h => by
    have h' := Bool.and_eq_true_iff.mp h
    rw [star_ns h'.1]
    have ih := all_ns (env := env) (pos := pos) h'.2
    show (true && (backTo pos (starEach es env)).all (fun x => !x.1)) = true
    rw [ih] <;> rfl
theorem wa_nil (q : QA [] H) : WA X [] σ H QA := wa_of pa_nil q
theorem wa_cons (hs : ns e = true) (h : WE X e σ H fun x H1 => WA X es σ H1 fun xs H2 => QA (x :: xs) H2) : WA X (e :: es) σ H QA := wa_of (pa_cons pe_we pa_wa (star_ns hs)) h
theorem we_tup {x1} (h : WA X es σ H fun xs H1 => xs.length ≤ sizeLine ∧ ∀ p, H1 p = none → Q (.ref p) (upd H1 p (.tup xs))) : WE X (.Tuple es x1 pos) σ H Q := we_of (pe_tup pa_wa) h
theorem we_lst (h : WA X es σ H fun xs H1 => xs.length ≤ sizeLine ∧ ∀ p, H1 p = none → Q (.ref p) (upd H1 p (.lst xs))) : WE X (.List es pos) σ H Q := we_of (pe_lst pa_wa) h

/-! ### statements -/
theorem wb_nil (q : D.nx σ H) : WB X [] D σ H := wb_of pss_nil q
theorem wb_one (h : WS X st D σ H) : WB X [st] D σ H := wb_of (pss_one ps_ws) h
theorem wb_cons (h : WS X st { D with nx := WB X rest D } σ H) : WB X (st :: rest) D σ H := wb_of (pss_cons ps_ws pss_wb) h
theorem ws_pass (q : D.nx σ H) : WS X (.Pass pos) D σ H := ws_of ps_pass q
theorem ws_break (q : D.bk σ H) : WS X (.Break pos) D σ H := ws_of ps_break q
theorem ws_continue (q : D.ct σ H) : WS X (.Continue pos) D σ H := ws_of ps_continue q
theorem ws_expr (hs : swapsWith e none pos.line X.env = pure false) (h : WE X e σ H fun _ H1 => D.nx σ H1) : WS X (.Expr e pos) D σ H := ws_of (ps_expr pe_we hs) h
theorem ws_ret (h : WE X e σ H D.rt) : WS X (.Return (some e) pos) D σ H := ws_of (ps_ret pe_we) h
theorem ws_retN (q : D.rt .non H) : WS X (.Return none pos) D σ H := ws_of ps_retN q
theorem ws_if {t u : List Stmt} (h : WT X c σ H fun k H1 => if k = true then WB X t D σ H1 else WB X u D σ H1) : WS X (.If c t u pos) D σ H := ws_of (ps_if pt_wt pss_wb pss_wb) h
theorem ws_set (d : Fr X G N sc k W) (i : Nat) {pos' : Pos} (h1 : N[i]? = some x) (hl : Loc sc x) (hs : swapsWith e (some (.Name x pos')) pos.line X.env = pure false) (h : WE X e σ H fun v H1 => D.nx (σ.set i (some v)) H1) :
    WS X (.Assign [.Name x pos'] e pos) D σ H :=
  ws_of (ps_set (i := i) (by rw [d.n]; exact d.nd) (by rw [d.n]; exact h1) (by rw [d.sc]; exact hl) pe_we hs (.inl (d.fn x))) h
/-! ### targets -/
def WG (X : Cx) (tg : Expr) (v : V) (σ : L2.St) (H : Hp) (R : L2.St → Hp → Prop) : Prop :=
  ∀ (pins : List (Addr × Obj)) (s : Shared) (u : Value), Inv X pins σ H s → RelV v u → wpAny (model X.prog X.w) X.A (assign tg X.env u) (fun _ s' => ∃ σ' H', Inv X pins σ' H' s' ∧ R σ' H') X.xe s
def WGs (X : Cx) (tgs : List Expr) (vs : List V) (σ : L2.St) (H : Hp) (R : L2.St → Hp → Prop) : Prop :=
  ∀ (pins : List (Addr × Obj)) (s : Shared) (us : List Value), Inv X pins σ H s → Vals vs us → wpAny (model X.prog X.w) X.A (assignInOrder ((assignEach tgs X.env).map (·.2)) us) (fun _ s' => ∃ σ' H', Inv X pins σ' H' s' ∧ R σ' H') X.xe s
variable {R : L2.St → Hp → Prop} {tg : Expr} {tgs : List Expr}
theorem pg_wg : PG X tg (fun v σ H R => WG X tg v σ H R) := ⟨fun pins s σ H v u R I r h => h pins s u I r⟩
theorem pgs_wgs : PGs X tgs (fun v σ H R => WGs X tgs v σ H R) := ⟨fun pins s σ H v u R I r h => h pins s u I r⟩
theorem wg_of {t : TG} (h : PG X tg t) (q : t v σ H R) : WG X tg v σ H R := fun pins s u I r => h.run pins s σ H v u R I r q
theorem wgs_of {t : TGs} {vs : List V} (h : PGs X tgs t) (q : t vs σ H R) : WGs X tgs vs σ H R := fun pins s u I r => h.run pins s σ H vs u R I r q
theorem wg_name (d : Def X G N sc k) (i : Nat) (h1 : N[i]? = some x) (hl : Loc sc x) (hf : X.fn x = true ∨ sc.names.lookup x = some .local) (q : R (σ.set i (some v)) H) : WG X (.Name x pos) v σ H R :=
  wg_of (pg_name (i := i) (by rw [d.n]; exact d.nd) (by rw [d.n]; exact h1) (by rw [d.sc]; exact hl) (by rw [d.sc]; exact hf)) q
theorem wgs_nil (q : R σ H) : WGs X [] [] σ H R := wgs_of pgs_nil ⟨rfl, q⟩
theorem wgs_cons {vs : List V} (hs : (assignEach (tg :: tgs) X.env).map (·.2) = assign tg X.env :: (assignEach tgs X.env).map (·.2)) (h : WG X tg v σ H fun σ1 H1 => WGs X tgs vs σ1 H1 R) : WGs X (tg :: tgs) (v :: vs) σ H R :=
  wgs_of (pgs_cons pg_wg pgs_wgs hs) ⟨v, vs, rfl, h⟩
theorem wg_tup (d : Def X G N sc k) {kk : Nat} {a : Addr} {vs : List V} (ht : SqT G.K H a vs) (hn : (assignEach tgs X.env).length = vs.length) (hst : (assignEach tgs X.env).findIdx? (·.1) = none) (h : WGs X tgs vs σ H R) : WG X (.Tuple tgs kk pos) (.ref a) σ H R :=
  wg_of (pg_tup (n := vs.length) d.calm pgs_wgs hn hst) ⟨a, vs, rfl, by rw [d.K]; exact ht, rfl, h⟩
theorem ws_asg (hs : swapsWithSole [tg] e pos.line X.env = pure false) (hw : swappedStores [tg] e X.env = pure none) (h1 : (assignEach [tg] X.env).map (·.2) = [assign tg X.env]) (h : WE X e σ H fun v H1 => WG X tg v σ H1 D.nx) : WS X (.Assign [tg] e pos) D σ H :=
  ws_of (ps_asg pe_we pg_wg hs hw h1) h
/-- a, b = e1, e2 -/
theorem ws_par (d : Fr X G N sc k W) (i j : Nat) {y : Str} {px py pt : Pos} {kt k2 pt2} (h1 : N[i]? = some x) (h2 : N[j]? = some y) (hij : i ≠ j) (hx : sc.names.lookup x = some .local) (hy : sc.names.lookup y = some .local)
    (hpar : PS X (.Assign [.Tuple [.Name x px, .Name y py] kt pt] (.Tuple [a, b] k2 pt2) pos) (tPar i j (WA X [a, b])))
    (h : WA X [a, b] σ H fun vs H1 => ∃ v w, vs = [v, w] ∧ D.nx ((σ.set i (some v)).set j (some w)) H1) : WS X (.Assign [.Tuple [.Name x px, .Name y py] kt pt] (.Tuple [a, b] k2 pt2) pos) D σ H := ws_of hpar h

/-! ### loops -/
theorem ws_forL (d : Fr X G N sc k W) {iter : Expr} {body : List Stmt} (hs : ∀ x, foldedSetIterable iter X.env x = pure x)
    (h : WE X iter σ H fun y H1 => ∃ (a : Addr) (xs : List V), y = .ref a ∧ SqL G.K H1 a xs ∧ ∃ Pv : Nat → L2.St → Hp → Prop, Pv 0 σ H1 ∧ (∀ i σ H, i ≤ xs.length → Pv i σ H → SqL G.K H a xs) ∧
      (∀ i x σ H, xs[i]? = some x → Pv i σ H → WG X tg x σ H fun σ2 H2 => WB X body { D with nx := Pv (i + 1), ct := Pv (i + 1), bk := D.nx } σ2 H2) ∧ ∀ σ H, Pv xs.length σ H → D.nx σ H) :
    WS X (.For tg iter body [] pos) D σ H := by
  refine ws_of (ps_for d.own d.calm (pi_list pe_we) pg_wg pss_wb hs) (t := tFor _ _ _) ?_
  show WE X iter σ H _
  intro pins s I
  refine thn (h pins s I) fun u s1 ⟨y, H1, I1, r1, a, xs, e, hq, Pv, h0, hl, hst, hd⟩ => ⟨y, H1, I1, r1, a, e, ⟨xs, by rw [d.K]; exact hq⟩, ?_⟩
  rw [d.K]
  exact for_list Pv h0 hl hst hd
theorem ws_forT (d : Fr X G N sc k W) {iter : Expr} {body : List Stmt} (hs : ∀ x, foldedSetIterable iter X.env x = pure x)
    (h : WE X iter σ H fun y H1 => ∃ (a : Addr) (xs : List V), y = .ref a ∧ SqT G.K H1 a xs ∧ ∃ Pv : Nat → L2.St → Hp → Prop, Pv 0 σ H1 ∧ (∀ i σ H, i ≤ xs.length → Pv i σ H → SqT G.K H a xs) ∧
      (∀ i x σ H, xs[i]? = some x → Pv i σ H → WG X tg x σ H fun σ2 H2 => WB X body { D with nx := Pv (i + 1), ct := Pv (i + 1), bk := D.nx } σ2 H2) ∧ ∀ σ H, Pv xs.length σ H → D.nx σ H) :
    WS X (.For tg iter body [] pos) D σ H := by
  refine ws_of (ps_for d.own d.calm (pi_tup pe_we) pg_wg pss_wb hs) (t := tFor _ _ _) ?_
  show WE X iter σ H _
  intro pins s I
  refine thn (h pins s I) fun u s1 ⟨y, H1, I1, r1, a, xs, e, hq, Pv, h0, hl, hst, hd⟩ => ⟨y, H1, I1, r1, a, e, ⟨xs, by rw [d.K]; exact hq⟩, ?_⟩
  rw [d.K]
  exact for_tup Pv h0 hl hst hd
theorem ws_forR (d : Fr X G N sc k W) {n : Expr} {body : List Stmt} {rp : Pos} (hg : glB sc "range" = true) (hm : G.mg "range" = none) (ha : ns n = true) (hs : ∀ x, foldedSetIterable (.Call (.Name "range" rp) [n] [] p) X.env x = pure x)
    (h : WE X n σ H fun y H1 => ∃ j : Int, y = .int j ∧ -(2 ^ 62) ≤ j ∧ j < 2 ^ 62 ∧ ∃ Pv : Nat → L2.St → Hp → Prop, Pv 0 σ H1 ∧
      (∀ i σ H, i < j.toNat → Pv i σ H → WG X tg (.int i) σ H fun σ2 H2 => WB X body { D with nx := Pv (i + 1), ct := Pv (i + 1), bk := D.nx } σ2 H2) ∧ ∀ σ H, Pv j.toNat σ H → D.nx σ H) :
    WS X (.For tg (.Call (.Name "range" rp) [n] [] p) body [] pos) D σ H := by
  refine ws_of (ps_for d.own d.calm (pi_range1 (d.gl hg) (by rw [d.mg]; exact hm) pa_wa (star_ns ha)) pg_wg pss_wb hs) (t := tFor _ _ _) ?_
  show WA X [n] σ H _
  refine wa_cons ha ?_
  intro pins s I
  refine thn (h pins s I) fun u s1 ⟨y, H1, I1, r1, j, e, b1, b2, Pv, h0, hst, hd⟩ => ⟨y, H1, I1, r1, ?_⟩
  refine wa_nil ⟨j, by rw [e], b1, b2, ?_⟩
  refine for_range (lo := 0) (n := j.toNat) Pv h0 (fun i σ H hi hp => ?_) hd
  rw [Int.zero_add]
  exact hst i σ H hi hp
theorem wt_mono {Q' : Bool → Hp → Prop} (h : ∀ b H1, QT b H1 → Q' b H1) (q : WT X e σ H QT) : WT X e σ H Q' := fun pins s I => thn (q pins s I) fun u s1 ⟨H1, I1, q1⟩ => ⟨H1, I1, h _ _ q1⟩
theorem we_mono {Q' : VK} (h : ∀ b H1, Q b H1 → Q' b H1) (q : WE X e σ H Q) : WE X e σ H Q' := fun pins s I => thn (q pins s I) fun u s1 ⟨v, H1, I1, r, q1⟩ => ⟨v, H1, I1, r, h _ _ q1⟩
theorem wa_mono {Q' : List V → Hp → Prop} (h : ∀ b H1, QA b H1 → Q' b H1) (q : WA X es σ H QA) : WA X es σ H Q' := fun pos pins s I => thn (q pos pins s I) fun u s1 ⟨v, H1, I1, r, q1⟩ => ⟨v, H1, I1, r, h _ _ q1⟩
theorem ws_while (d : Fr X G N sc k W) {body : List Stmt} (Pv : L2.St → Hp → Prop) (μ : L2.St → Hp → Nat) (h0 : Pv σ H)
    (h : ∀ σ H, Pv σ H → WT X c σ H fun b H1 => if b = true then WB X body { D with nx := fun σ' H' => Pv σ' H' ∧ μ σ' H' < μ σ H, ct := fun σ' H' => Pv σ' H' ∧ μ σ' H' < μ σ H, bk := D.nx } σ H1 else D.nx σ H1) :
    WS X (.While c body [] pos) D σ H :=
  ws_of (ps_while d.own pt_wt pss_wb) (while_by (c := WT X c) (tb := WB X body) Pv μ h0 h fun σ H Q Q' m q => wt_mono m q)
theorem ends_mono {D D' : Ends} (h1 : ∀ σ H, D.nx σ H → D'.nx σ H) (h2 : ∀ v H, D.rt v H → D'.rt v H) (h3 : ∀ σ H, D.bk σ H → D'.bk σ H) (h4 : ∀ σ H, D.ct σ H → D'.ct σ H) (q : WB X sts D σ H) : WB X sts D' σ H := fun pins s I => thn (q pins s I) fun f s1 z => by
  cases f with
  | next => obtain ⟨a, b, c, e⟩ := z; exact ⟨a, b, c, h1 _ _ e⟩
  | brk => obtain ⟨a, b, c, e⟩ := z; exact ⟨a, b, c, h3 _ _ e⟩
  | cont => obtain ⟨a, b, c, e⟩ := z; exact ⟨a, b, c, h4 _ _ e⟩
  | ret u => obtain ⟨w, a, b, c, r, e⟩ := z; exact ⟨w, a, b, c, r, h2 _ _ e⟩
theorem ws_mono {D D' : Ends} (h1 : ∀ σ H, D.nx σ H → D'.nx σ H) (h2 : ∀ v H, D.rt v H → D'.rt v H) (h3 : ∀ σ H, D.bk σ H → D'.bk σ H) (h4 : ∀ σ H, D.ct σ H → D'.ct σ H) (q : WS X st D σ H) : WS X st D' σ H := fun pins s I => thn (q pins s I) fun f s1 z => by
  cases f with
  | next => obtain ⟨a, b, c, e⟩ := z; exact ⟨a, b, c, h1 _ _ e⟩
  | brk => obtain ⟨a, b, c, e⟩ := z; exact ⟨a, b, c, h3 _ _ e⟩
  | cont => obtain ⟨a, b, c, e⟩ := z; exact ⟨a, b, c, h4 _ _ e⟩
  | ret u => obtain ⟨w, a, b, c, r, e⟩ := z; exact ⟨w, a, b, c, r, h2 _ _ e⟩

/-! ### calls -/
/-- a def of the text stands at the module's name x and keeps the promise sp, by level k -/
structure Fn (G : Gb) (x : Str) (n k : Nat) (sp : Sp) : Prop where
  is : ∃ (f : Addr) (fd : FuncData) (ps : List Str), G.mg x = some (.ref f) ∧ PySem.W.keepIn G.K (.ref f) = true ∧ FnOk G.prog G.w G.K G.mg G.base (L2.CX G.prog G.w) k f fd ps sp ∧ Binds G.K fd ps [] ∧ ps.length = n ∧ ps = fd.params.args.map (·.arg) ∧ ∃ st, Fun G.K x x st f fd
theorem Fn.imp {n j : Nat} {sp sp' : Sp} (F : Fn G x n j sp) (h : ∀ vs H Q E, sp' vs H Q E → sp vs H Q E) : Fn G x n j sp' := by
  obtain ⟨f, fd, ps, h1, h2, h3, h4, h5⟩ := F.is
  exact ⟨f, fd, ps, h1, h2, h3.imp h, h4, h5⟩
theorem we_callE {E : XK} (d : Def X G N sc k) {n j : Nat} {sp : Sp} (F : Fn G x n j sp) (hj : j ≤ k) (hg : glB sc x = true) (hx : Passes (L2.CX G.prog G.w) X E)
    (he : ns e = true) (hpl : nss es = true) (h : WA X (e :: es) σ H fun vs H1 => sp vs H1 Q E) (hdb : (x == ("__debug__" : Str)) = false := by decide +kernel) :
    WE X (.Call (.Name x p) (e :: es) [] pos) σ H Q := by
  obtain ⟨f, fd, ps, h1, h2, h3, h4, _⟩ := F.is
  refine we_of (pe_call (ds := []) (dvs := []) (E := E) (k := j) (f := f) (fd := fd) (ps := ps) (sp := sp) (CX := L2.CX G.prog G.w) ?_ (d.room.mono hj) (d.gl hg) (by rw [d.mg]; exact h1) (by rw [d.K]; exact h2) (by rw [d.K]; exact h4) .nil hx pa_wa hdb (star_ns he) (hpl_ns hpl)) ?_
  · rw [d.prog, d.w, d.K, d.mg, d.base]
    exact h3
  · show WA X (e :: es) σ H _
    refine wa_mono (fun vs H1 q => ?_) h
    rw [List.append_nil]
    exact q
/-- .. of which nothing may leave -/
theorem we_call (d : Def X G N sc k) {n j : Nat} {sp : Sp} (F : Fn G x n j sp) (hj : j ≤ k) (hg : glB sc x = true)
    (he : ns e = true) (hpl : nss es = true) (h : WA X (e :: es) σ H fun vs H1 => sp vs H1 Q E0) (hdb : (x == ("__debug__" : Str)) = false := by decide +kernel) :
    WE X (.Call (.Name x p) (e :: es) [] pos) σ H Q := we_callE d F hj hg (by rw [← d.prog, ← d.w]; exact passL) he hpl h hdb
theorem we_call0E {E : XK} (d : Def X G N sc k) {n j : Nat} {sp : Sp} (F : Fn G x n j sp) (hj : j ≤ k) (hg : glB sc x = true) (hx : Passes (L2.CX G.prog G.w) X E) (h : sp [] H Q E) (hdb : (x == ("__debug__" : Str)) = false := by decide +kernel) :
    WE X (.Call (.Name x p) [] [] pos) σ H Q := by
  obtain ⟨f, fd, ps, h1, h2, h3, h4, _⟩ := F.is
  refine we_of (pe_call0 (ds := []) (dvs := []) (E := E) (k := j) (f := f) (fd := fd) (ps := ps) (sp := sp) (CX := L2.CX G.prog G.w) ?_ (d.room.mono hj) (d.gl hg) (by rw [d.mg]; exact h1) (by rw [d.K]; exact h2) (by rw [d.K]; exact h4) .nil hx hdb) h
  rw [d.prog, d.w, d.K, d.mg, d.base]
  exact h3
theorem we_call0 (d : Def X G N sc k) {n j : Nat} {sp : Sp} (F : Fn G x n j sp) (hj : j ≤ k) (hg : glB sc x = true) (h : sp [] H Q E0) (hdb : (x == ("__debug__" : Str)) = false := by decide +kernel) :
    WE X (.Call (.Name x p) [] [] pos) σ H Q := we_call0E d F hj hg (by rw [← d.prog, ← d.w]; exact passL) h hdb
/-- .. from a def's frame: what leaves the callee is wished for at the slots as they stand -/
theorem we_callW (d : Fr X G N sc k W) {n j : Nat} {sp : Sp} (F : Fn G x n j sp) (hj : j ≤ k) (hg : glB sc x = true)
    (he : ns e = true) (hpl : nss es = true) (h : WA X (e :: es) σ H fun vs H1 => sp vs H1 Q fun c o H' => W c o σ H') (hdb : (x == ("__debug__" : Str)) = false := by decide +kernel) :
    WE X (.Call (.Name x p) (e :: es) [] pos) σ H Q := by
  obtain ⟨f, fd, ps, h1, h2, h3, h4, _⟩ := F.is
  refine we_of (pe_callS (E := fun τ c o H' => W c o τ H') (k := j) (f := f) (fd := fd) (ps := ps) (sp := sp) (CX := L2.CX G.prog G.w) ?_ (d.room.mono hj) (d.gl hg) (by rw [d.mg]; exact h1) (by rw [d.K]; exact h2) (by rw [d.K]; exact h4) (fun τ => ?_) pa_wa hdb (star_ns he) (hpl_ns hpl)) h
  · rw [d.prog, d.w, d.K, d.mg, d.base]
    exact h3
  · rw [← d.prog, ← d.w]
    exact passAt d.tk τ
/-- a built-in function, a built-in type, by values -/
def RC (X : Cx) (f : Value) (vs : List V) (H : Hp) (Q : VK) : Prop := ∃ r, CallR X f r ∧ r vs H Q
theorem rc_ok {f : Value} : CallR X f (RC X f) := by
  intro pins s σ H xs us Q I r h
  obtain ⟨r0, ho, hr⟩ := h
  exact ho pins s σ H xs us Q I r hr
theorem we_callB (d : Def X G N sc k) {id : String} (hg : glB sc x = true) (hm : G.mg x = none) (hv : bootBuiltins x = some (.builtin id))
    (he : ns e = true) (hpl : nss es = true) (h : WA X (e :: es) σ H fun vs H1 => RC X (.builtin id) vs H1 Q) (hn : x ≠ "__name__" := by decide +kernel) (hdb : (x == ("__debug__" : Str)) = false := by decide +kernel) :
    WE X (.Call (.Name x p) (e :: es) [] pos) σ H Q := we_of (pe_callB rc_ok (d.gl hg) (by rw [d.mg]; exact hm) hv pa_wa hn hdb (star_ns he) (hpl_ns hpl)) h
theorem we_callTy (d : Def X G N sc k) {T : String} (hg : glB sc x = true) (hm : G.mg x = none) (hv : bootBuiltins x = some (.type T))
    (he : ns e = true) (hpl : nss es = true) (h : WA X (e :: es) σ H fun vs H1 => RC X (.type T) vs H1 Q) (hn : x ≠ "__name__" := by decide +kernel) (hdb : (x == ("__debug__" : Str)) = false := by decide +kernel) :
    WE X (.Call (.Name x p) (e :: es) [] pos) σ H Q := we_of (pe_callTy rc_ok (d.gl hg) (by rw [d.mg]; exact hm) hv pa_wa hn hdb (star_ns he) (hpl_ns hpl)) h

/-! ### subscripts -/
def RX (X : Cx) (x y : V) (H : Hp) (Q : VK) : Prop := ∃ r, IxR X r ∧ r x y H Q
theorem rx_ok : IxR X (RX X) := by
  intro value slice pins s σ H x y v u Q I rx ry h
  obtain ⟨r, ho, hr⟩ := h
  exact ho value slice pins s σ H x y v u Q I rx ry hr
theorem we_ix (hs : PlainIx b) (h : WE X a σ H fun x H1 => WE X b σ H1 fun y H2 => RX X x y H2 Q) : WE X (.Subscript a b pos) σ H Q := we_of (pe_ix rx_ok pe_we pe_we hs) h
theorem we_dget (d : Def X G N sc k) (hs : NoSl b) (h : WE X a σ H fun x H1 => WE X b σ H1 fun y H2 => ∃ (p : Addr) (v : V), x = .ref p ∧ DGet H2 p y (some v) ∧ Q v H2) : WE X (.Subscript a b pos) σ H Q := we_of (pe_dget d.hu pe_we pe_we hs) h
theorem ws_dput (d : Def X G N sc k) {pos' : Pos} (hs : swapsWith e (some (.Subscript a b pos')) pos.line X.env = pure false)
    (h : WE X e σ H fun v H1 => WE X a σ H1 fun x H2 => WE X b σ H2 fun y H3 => ∃ (p : Addr) (H4 : Hp), x = .ref p ∧ DPut H3 p y v H4 ∧ D.nx σ H4) : WS X (.Assign [.Subscript a b pos'] e pos) D σ H := ws_of (ps_dput d.hu pe_we pe_we pe_we hs) h
theorem rx_list (d : Def X G N sc k) {p : Addr} {xs : List V} {i : Int} (h : SqL G.K H p xs) (ha : atI xs i = some v) (q : Q v H) : RX X (.ref p) (.int i) H Q := ⟨_, ix_list, p, xs, i, v, rfl, rfl, by rw [d.K]; exact h, ha, q⟩
theorem rx_tup (d : Def X G N sc k) {p : Addr} {xs : List V} {i : Int} (h : SqT G.K H p xs) (ha : atI xs i = some v) (q : Q v H) : RX X (.ref p) (.int i) H Q := ⟨_, ix_tup, p, xs, i, v, rfl, rfl, by rw [d.K]; exact h, ha, q⟩
theorem rx_str {z : Str} {i : Int} {c : Nat} (hl : z.length ≤ sizeLine) (ha : atI z.cps.toList i = some c) (q : Q (.str ⟨#[c]⟩) H) : RX X (.str z) (.int i) H Q := ⟨_, ix_str, z, i, c, rfl, rfl, hl, ha, q⟩

/-! ### methods of built-in types -/
def RM (X : Cx) (id : String) (o : V) (vs : List V) (H : Hp) (Q : VK) : Prop := ∃ r, MtR X id r ∧ r o vs H Q
theorem rm_ok {id : String} : MtR X id (RM X id) := by
  intro pins s σ H x xs v us Q I rx rs h
  obtain ⟨r, ho, hr⟩ := h
  exact ho pins s σ H x xs v us Q I rx rs hr
theorem few_ns {env : Env} (h : (nss (e :: es) && decide (es.length < 28)) = true) : ((backTo pos (starEach (e :: es) env)).all (fun x => !x.1) && (backToKw pos (keywordEach [] env)).all (fun x => x.1.isSome)
      && decide ((e :: es).length + ([] : List Keyword).length + (if ([] : List Keyword).isEmpty then 0 else 1) < 30)) = true := by
  obtain ⟨h1, h2⟩ := Bool.and_eq_true_iff.mp h
  have h3 := of_decide_eq_true h2
  have e1 : decide ((e :: es).length + ([] : List Keyword).length + (if ([] : List Keyword).isEmpty then 0 else 1) < 30) = true := decide_eq_true (by
    show es.length + 1 + 0 + 0 < 30
    omega)
  rw [all_ns h1, e1] <;> rfl
theorem we_bm (d : Def X G N sc k) {o : Expr} {name : Str} {apos : Pos} {T id : String} (pa : PlainAttrs T) (slot : Slot T name id) (hty : typeOf (.builtin id) = pure (.type "method_descriptor"))
    (hbase : attributeBase o name X.env (eval o X.env) = eval o X.env)
    (hfew : (nss (e :: es) && decide (es.length < 28)) = true)
    (hline : (apos.endLine == pos.line) = true) (hs : ns e = true) (hplain : nss es = true)
    (h : WE X o σ H fun x H1 => tyV G.K T x H1 ∧ WA X (e :: es) σ H1 fun vs H2 => RM X id x vs H2 Q) : WE X (.Call (.Attribute o name apos) (e :: es) [] pos) σ H Q :=
  we_of (pe_bm pa slot hty rm_ok pe_we pa_wa hbase (few_ns hfew) hline (star_ns hs) (hpl_ns hplain)) (by rw [← d.K] at h; exact h)
end
end Wx

namespace Wx
open PySem L2
section
variable {X : Cx} {e a b c : Expr} {es : List Expr} {st : Stmt} {sts rest : List Stmt} {σ : L2.St} {H : Hp} {Q : VK} {QT : Bool → Hp → Prop} {QA : List V → Hp → Prop} {D : Ends} {pos p : Pos} {x : Str} {v : V} {G : Gb} {N : List Str} {sc scope : Scope} {k : Nat} {W : WX}
/-! ### chains of two comparisons -/
theorem we_chain {op op' : CmpOp} (hm : lastMarks [op, op'] [b, c] = false)
    (h : WE X a σ H fun x H1 => WE X b σ H1 fun y H2 => RO X (compareOp op) x y H2 fun z H3 => ∃ k, z = .bl k ∧ (if k = true then WE X c σ H3 fun w' H4 => RO X (compareOp op') y w' H4 Q else Q (.bl false) H3)) :
    WE X (.Compare a [op, op'] [b, c] pos) σ H Q := we_of (pe_chain ro_ok ro_ok pe_we pe_we pe_we hm) h
theorem wt_chain {op op' : CmpOp} (hm : lastMarks [op, op'] [b, c] = false)
    (h : WE X a σ H fun x H1 => WE X b σ H1 fun y H2 => RO X (compareOp op) x y H2 fun z H3 => ∃ k, z = .bl k ∧ (if k = true then WE X c σ H3 fun w' H4 => RO X (compareOp op') y w' H4 fun z2 H5 => ∃ k2, z2 = .bl k2 ∧ QT k2 H5 else QT false H3)) :
    WT X (.Compare a [op, op'] [b, c] pos) σ H QT := by
  refine wt_of (pt_chain ro_ok ro_ok pe_we pe_we pe_we hm) ?_
  show WE X a σ H _
  refine we_mono (fun x H1 q => we_mono (fun y H2 q => ?_) q) h
  obtain ⟨r, ho, hr⟩ := q
  refine ⟨fun x y H Q' => ∃ Q0 : VK, r x y H Q0 ∧ ∀ v H', Q0 v H' → Q' v H', ?_, _, hr, ?_⟩
  · intro pins s τ H3 x3 y3 v3 u3 Q3 I3 rx ry ⟨Q0, h0, m⟩
    refine thn (ho pins s τ H3 x3 y3 v3 u3 Q0 I3 rx ry h0) fun u s1 ⟨v1, H4, I4, r4, q4⟩ => ⟨v1, H4, I4, r4, m _ _ q4⟩
  · rintro z H3 ⟨kk, rfl, q⟩
    refine ⟨kk, rfl, ?_⟩
    cases kk with
    | true => exact q
    | false => exact ⟨false, rfl, q⟩

/-! ### keywords -/
theorem wk_nil (q : QA [] H) : WK X [] σ H QA := wk_of pk_nil q
theorem wk_cons {nm : Option Str} {kpos : Pos} {ks : List Keyword} (h : WE X e σ H fun y H1 => WK X ks σ H1 fun zs H2 => QA (y :: zs) H2) : WK X (⟨nm, e, kpos⟩ :: ks) σ H QA := wk_of (pk_cons pe_we pk_wk) h
/-- the def at the name x, called with the keywords ks; gV puts the written values and the keywords' in the parameters' order -/
structure FnK (G : Gb) (x : Str) (ks : List Str) (gV : List V → List V → List V) (k : Nat) (sp : Sp) : Prop where
  is : ∃ (f : Addr) (fd : FuncData) (ps : List Str) (g : List Value → List Value → List Value), G.mg x = some (.ref f) ∧ PySem.W.keepIn G.K (.ref f) = true ∧ FnOk G.prog G.w G.K G.mg G.base (L2.CX G.prog G.w) k f fd ps sp ∧ KBinds G.K fd ps ks g gV
theorem we_callK (d : Def X G N sc k) {ks : List Str} {gV : List V → List V → List V} {kws : List Keyword} {j : Nat} {sp : Sp} (F : FnK G x ks gV j sp) (hj : j ≤ k) (hg : glB sc x = true)
    (hall : (backToKw pos (keywordEach kws X.env)).all (·.1.isSome) = true) (hks : (backToKw pos (keywordEach kws X.env)).filterMap (·.1) = ks)
    (he : ns e = true) (hpl : ((backTo pos (starEach (e :: es) X.env)).any (·.1) || (backToKw pos (keywordEach kws X.env)).any (·.1.isNone)) = false)
    (h : WA X (e :: es) σ H fun vs H1 => WK X kws σ H1 fun zs H2 => sp (gV vs zs) H2 Q E0) (hdb : (x == ("__debug__" : Str)) = false := by decide +kernel) : WE X (.Call (.Name x p) (e :: es) kws pos) σ H Q := by
  obtain ⟨f, fd, ps, g, h1, h2, h3, h4⟩ := F.is
  refine we_of (pe_callK (E := E0) (k := j) (f := f) (fd := fd) (ps := ps) (ks := ks) (g := g) (gV := gV) (sp := sp) (CX := L2.CX G.prog G.w) ?_ (d.room.mono hj) (d.gl hg) (by rw [d.mg]; exact h1) (by rw [d.K]; exact h2) (by rw [d.K]; exact h4) (by rw [← d.prog, ← d.w]; exact passL) pa_wa pk_wk hall hks hdb (star_ns he) hpl) h
  rw [d.prog, d.w, d.K, d.mg, d.base]
  exact h3
/-- f(k = v, ..) -/
theorem we_callK0 (d : Def X G N sc k) {ks : List Str} {gV : List V → List V → List V} {kws : List Keyword} {j : Nat} {sp : Sp} (F : FnK G x ks gV j sp) (hj : j ≤ k) (hg : glB sc x = true)
    (hall : (backToKw pos (keywordEach kws X.env)).all (·.1.isSome) = true) (hks : (backToKw pos (keywordEach kws X.env)).filterMap (·.1) = ks)
    (hpl : ((backTo pos (starEach [] X.env)).any (·.1) || (backToKw pos (keywordEach kws X.env)).any (·.1.isNone)) = false)
    (h : WK X kws σ H fun zs H2 => sp (gV [] zs) H2 Q E0) (hdb : (x == ("__debug__" : Str)) = false := by decide +kernel) : WE X (.Call (.Name x p) [] kws pos) σ H Q := by
  obtain ⟨f, fd, ps, g, h1, h2, h3, h4⟩ := F.is
  intro pins s I
  have F' : FnOk X.prog X.w X.K X.mg X.base (L2.CX G.prog G.w) j f fd ps sp := by
    rw [d.prog, d.w, d.K, d.mg, d.base]
    exact h3
  refine PySem.wpAny_Call_Name_kw (ld_glob I (d.gl hg) (by rw [d.mg]; exact h1) ?_ hdb)
  refine PySem.W.callWith_KW0 (h₀ := X.base) I.ok.mod.kin (by rw [d.K]; exact h2) hall ?_ hpl
  refine thn (h pos pins s I) fun ws s2 ⟨zs, H2, I2, rz, q2⟩ => ⟨I2.kIn, ?_⟩
  rw [hks]
  exact run_fnk (us := []) (vs := []) F' (d.room.mono hj) (by rw [d.K]; exact h4) (by rw [← d.prog, ← d.w]; exact passL) I2 .nil rz q2

/-! ### comprehensions of one clause -/
def WTs (X : Cx) (ifs : List Expr) (σ : L2.St) (H : Hp) (Q : Bool → Hp → Prop) : Prop :=
  ∀ (pins : List (Addr × Obj)) (s : Shared), Inv X pins σ H s → wpAny (model X.prog X.w) X.A (forIn ifs true fun c r => if r = true then do let ok ← isTrue c X.env (eval c X.env); pure (ForInStep.yield ok) else pure (ForInStep.yield r)) (TP X pins σ Q) X.xe s
theorem wts_of {ifs : List Expr} {t : TT} (h : PTs X ifs t) (q : t σ H QT) : WTs X ifs σ H QT := fun pins s I => h.run pins s σ H QT I q
theorem wts_nil (q : QT true H) : WTs X [] σ H QT := wts_of pts_nil q
theorem wts_one (h : WT X c σ H QT) : WTs X [c] σ H QT := wts_of (pts_one pt_wt) h
theorem Def.blk (d : Def X G N sc k) (s : Shared) (H : Hp) (C : Addr) (cl : List (Str × Addr)) (fp : List Addr) : Def (X.blk s H scope (compEnvC scope cl C X.env) fp) G N (relS scope sc) k :=
  ⟨d.prog, d.w, d.K, d.mg, d.base, d.n, by rw [← d.sc] <;> rfl, d.nd, d.calm, d.room⟩
/-- a turn of a comprehension's block, in whatever context its block is -/
abbrev Blk (X : Cx) (G : Gb) (N : List Str) (sc scope : Scope) (k : Nat) (f : Cx → Prop) : Prop := ∀ X', Def X' G N (relS scope sc) k → f X'
theorem pe_lcW (d : Def X G N sc k) {elt tg iter : Expr} {ifs : List Expr} {own : List (Str × Nat)} {wi : TI} (hi : PI X tg iter wi) (ok : BlkOk N sc scope own) (hs : ∀ x, foldedSetIterable iter X.env x = pure x) :
    PE X (.ListComp elt [⟨tg, iter, ifs, 0⟩] scope pos) (tLc wi (fun v σ H R => Blk X G N sc scope k fun X' => WG X' tg v σ H R) (fun σ H R => Blk X G N sc scope k fun X' => WTs X' ifs σ H R) (fun σ H R => Blk X G N sc scope k fun X' => WE X' elt σ H R) (own.map (·.2))) :=
  pe_lc d.calm (by rw [d.n]; exact d.nd) hi (by rw [d.n, d.sc]; exact ok) (fun s H C cl fp => ⟨fun pins s σ H v u Q I r h => h _ (d.blk _ _ _ _ _) pins s u I r⟩) (fun s H C cl fp => ⟨fun pins s σ H Q I h => h _ (d.blk _ _ _ _ _) pins s I⟩) (fun s H C cl fp => ⟨fun pins s σ H Q I h => h _ (d.blk _ _ _ _ _) pins s I⟩) hs
/-- over a list: Pv by the turn and the heap, the new list at L within -/
def LcL (X : Cx) (G : Gb) (N : List Str) (sc scope : Scope) (k : Nat) (tg elt : Expr) (ifs : List Expr) (vs : List Nat) (σ : L2.St) (y : V) (H1 : Hp) (Q : VK) : Prop :=
  ∃ (a : Addr) (xs : List V), y = .ref a ∧ SqL G.K H1 a xs ∧ ∀ L, H1 L = none → ∃ Pv : Nat → Hp → Prop, Pv 0 (upd H1 L (.lst [])) ∧ (∀ i H, i ≤ xs.length → Pv i H → SqL G.K H a xs) ∧
    (∀ i x H, xs[i]? = some x → Pv i H → Blk X G N sc scope k fun X' => WG X' tg x (wipe σ vs) H fun σ2 H2 => wipe σ2 vs = wipe σ vs ∧ Blk X G N sc scope k fun X' => WTs X' ifs σ2 H2 fun b H3 =>
      if b = true then Blk X G N sc scope k fun X' => WE X' elt σ2 H3 fun y H4 => ∃ acc, H4 L = some (.lst acc) ∧ acc.length < sizeLine ∧ Pv (i + 1) (upd H4 L (.lst (acc ++ [y]))) else Pv (i + 1) H3) ∧ ∀ H, Pv xs.length H → Q (.ref L) H
theorem we_lcL (d : Def X G N sc k) {elt tg iter : Expr} {ifs : List Expr} (own : List (Str × Nat)) (ok : blkC N sc scope own = true) (hs : ∀ x, foldedSetIterable iter X.env x = pure x)
    (h : WE X iter σ H fun y H1 => LcL X G N sc scope k tg elt ifs (own.map (·.2)) σ y H1 Q) : WE X (.ListComp elt [⟨tg, iter, ifs, 0⟩] scope pos) σ H Q := by
  refine we_of (pe_lcW d (pi_list pe_we) (blkOk_by ok) hs) ?_
  show WE X iter σ H _
  refine we_mono (fun y H1 q => ?_) h
  obtain ⟨a, xs, e, hq, q⟩ := q
  refine ⟨a, e, ⟨xs, by rw [d.K]; exact hq⟩, fun L hL => ?_⟩
  obtain ⟨Pv, h0, hl, hst, hd⟩ := q L hL
  rw [d.K]
  exact lc_list (K := G.K) (a := a) (xs := xs) (σ := σ) (vs := own.map (·.2)) (H1 := H1) (D := L) (g := fun v σ H R => Blk X G N sc scope k fun X' => WG X' tg v σ H R) (tt := fun σ H R => Blk X G N sc scope k fun X' => WTs X' ifs σ H R) (te := fun σ H R => Blk X G N sc scope k fun X' => WE X' elt σ H R) (Qd := fun H => Q (.ref L) H) Pv h0 hl hst hd
/-- name = [.. for .. in a list] -/
theorem ws_lcL (d : Fr X G N sc k W) (i : Nat) {y : Str} {py spos : Pos} {elt tg iter : Expr} {ifs : List Expr} (own : List (Str × Nat)) (hy : N[i]? = some y) (hyl : sc.names.lookup y = some .local) (ok : blkC N sc scope own = true) (hs : ∀ x, foldedSetIterable iter X.env x = pure x)
    (hl : (py.line == pos.line) = true) (ha : (scope.names.any fun (n, k) => n == y && (k == .local || k == .cell)) = false)
    (h : WE X iter σ H fun z H1 => LcL X G N sc scope k tg elt ifs (own.map (·.2)) σ z H1 fun v H2 => D.nx (σ.set i (some v)) H2) : WS X (.Assign [.Name y py] (.ListComp elt [⟨tg, iter, ifs, 0⟩] scope pos) spos) D σ H := by
  have hk : X.env.scope.kind = .function → swapsWith (.ListComp elt [⟨tg, iter, ifs, 0⟩] scope pos) (some (.Name y py)) spos.line X.env = pure true := fun hk => sw_true hk (by rw [d.sc]; exact hyl) hl ha
  intro pins s I
  have P := ps_setLc (X := X) (i := i) (own := own) (elt := elt) (pos := pos) (spos := spos) (py := py) (wi := iList X.K (WE X iter)) (g := fun v σ H R => Blk X G N sc scope k fun X' => WG X' tg v σ H R) (tt := fun σ H R => Blk X G N sc scope k fun X' => WTs X' ifs σ H R) (te := fun σ H R => Blk X G N sc scope k fun X' => WE X' elt σ H R)
    d.calm (by rw [d.n]; exact d.nd) (by rw [d.n]; exact hy) (by rw [d.sc]; exact hyl) (hk I.ok.kind) (pi_list pe_we) (by rw [d.n, d.sc]; exact blkOk_by ok)
    (fun s H C cl fp => ⟨fun pins s σ H v u Q I r h => h _ (d.toDef.blk _ _ _ _ _) pins s u I r⟩) (fun s H C cl fp => ⟨fun pins s σ H Q I h => h _ (d.toDef.blk _ _ _ _ _) pins s I⟩) (fun s H C cl fp => ⟨fun pins s σ H Q I h => h _ (d.toDef.blk _ _ _ _ _) pins s I⟩) hs
  refine P.run pins s σ H D I ?_
  show WE X iter σ H _
  refine we_mono (fun z H1 q => ?_) h
  obtain ⟨a, xs, e, hq, q⟩ := q
  refine ⟨a, e, ⟨xs, by rw [d.K]; exact hq⟩, fun L hL => ?_⟩
  obtain ⟨Pv, h0, hl, hst, hd⟩ := q L hL
  rw [d.K]
  exact lc_list (K := G.K) (a := a) (xs := xs) (σ := σ) (vs := own.map (·.2)) (H1 := H1) (D := L) (g := fun v σ H R => Blk X G N sc scope k fun X' => WG X' tg v σ H R) (tt := fun σ H R => Blk X G N sc scope k fun X' => WTs X' ifs σ H R) (te := fun σ H R => Blk X G N sc scope k fun X' => WE X' elt σ H R) (Qd := fun H => D.nx (σ.set i (some (.ref L))) H) Pv h0 hl hst hd
/-- .. over range(n) -/
def LcR (X : Cx) (G : Gb) (N : List Str) (sc scope : Scope) (k : Nat) (tg elt : Expr) (ifs : List Expr) (vs : List Nat) (σ : L2.St) (y : V) (H1 : Hp) (Q : VK) : Prop :=
  ∃ j : Int, y = .int j ∧ -(2 ^ 62) ≤ j ∧ j < 2 ^ 62 ∧ ∀ L, H1 L = none → ∃ Pv : Nat → Hp → Prop, Pv 0 (upd H1 L (.lst [])) ∧
    (∀ (i : Nat) H, i < j.toNat → Pv i H → Blk X G N sc scope k fun X' => WG X' tg (.int i) (wipe σ vs) H fun σ2 H2 => wipe σ2 vs = wipe σ vs ∧ Blk X G N sc scope k fun X' => WTs X' ifs σ2 H2 fun b H3 =>
      if b = true then Blk X G N sc scope k fun X' => WE X' elt σ2 H3 fun y H4 => ∃ acc, H4 L = some (.lst acc) ∧ acc.length < sizeLine ∧ Pv (i + 1) (upd H4 L (.lst (acc ++ [y]))) else Pv (i + 1) H3) ∧ ∀ H, Pv j.toNat H → Q (.ref L) H
theorem lcR_core (d : Def X G N sc k) {elt tg n : Expr} {ifs : List Expr} {vs : List Nat} (ha : ns n = true)
    (h : WE X n σ H fun y H1 => LcR X G N sc scope k tg elt ifs vs σ y H1 Q) : tLc (iRng1 (WA X [n])) (fun v σ H R => Blk X G N sc scope k fun X' => WG X' tg v σ H R) (fun σ H R => Blk X G N sc scope k fun X' => WTs X' ifs σ H R) (fun σ H R => Blk X G N sc scope k fun X' => WE X' elt σ H R) vs σ H Q := by
  show WA X [n] σ H _
  refine wa_cons ha (we_mono (fun y H1 q => wa_nil ?_) h)
  obtain ⟨j, e, b1, b2, q⟩ := q
  refine ⟨j, by rw [e], b1, b2, fun L hL => ?_⟩
  obtain ⟨Pv, h0, hst, hd⟩ := q L hL
  refine lc_range (lo := 0) (n := j.toNat) (σ := σ) (vs := vs) (H1 := H1) (D := L) (g := fun v σ H R => Blk X G N sc scope k fun X' => WG X' tg v σ H R) (tt := fun σ H R => Blk X G N sc scope k fun X' => WTs X' ifs σ H R) (te := fun σ H R => Blk X G N sc scope k fun X' => WE X' elt σ H R) (Qd := fun H => Q (.ref L) H) Pv h0 (fun i H hi hp => ?_) hd
  rw [Int.zero_add]
  exact hst i H hi hp
theorem ws_lcR (d : Fr X G N sc k W) (i : Nat) {y : Str} {py spos rp rp2 : Pos} {elt tg n : Expr} {ifs : List Expr} (own : List (Str × Nat)) (hy : N[i]? = some y) (hyl : sc.names.lookup y = some .local) (ok : blkC N sc scope own = true) (hg : glB sc "range" = true) (hm : G.mg "range" = none)
    (hs : ∀ x, foldedSetIterable (.Call (.Name "range" rp) [n] [] rp2) X.env x = pure x) (ha : ns n = true)
    (hl : (py.line == pos.line) = true) (hn : (scope.names.any fun (n, k) => n == y && (k == .local || k == .cell)) = false)
    (h : WE X n σ H fun z H1 => LcR X G N sc scope k tg elt ifs (own.map (·.2)) σ z H1 fun v H2 => D.nx (σ.set i (some v)) H2) : WS X (.Assign [.Name y py] (.ListComp elt [⟨tg, (.Call (.Name "range" rp) [n] [] rp2), ifs, 0⟩] scope pos) spos) D σ H := by
  intro pins s I
  have P := ps_setLc (X := X) (i := i) (own := own) (elt := elt) (pos := pos) (spos := spos) (py := py) (wi := iRng1 (WA X [n])) (g := fun v σ H R => Blk X G N sc scope k fun X' => WG X' tg v σ H R) (tt := fun σ H R => Blk X G N sc scope k fun X' => WTs X' ifs σ H R) (te := fun σ H R => Blk X G N sc scope k fun X' => WE X' elt σ H R)
    d.calm (by rw [d.n]; exact d.nd) (by rw [d.n]; exact hy) (by rw [d.sc]; exact hyl) (sw_true I.ok.kind (by rw [d.sc]; exact hyl) hl hn) (pi_range1 (d.gl hg) (by rw [d.mg]; exact hm) pa_wa (star_ns ha)) (by rw [d.n, d.sc]; exact blkOk_by ok)
    (fun s H C cl fp => ⟨fun pins s σ H v u Q I r h => h _ (d.toDef.blk _ _ _ _ _) pins s u I r⟩) (fun s H C cl fp => ⟨fun pins s σ H Q I h => h _ (d.toDef.blk _ _ _ _ _) pins s I⟩) (fun s H C cl fp => ⟨fun pins s σ H Q I h => h _ (d.toDef.blk _ _ _ _ _) pins s I⟩) hs
  refine P.run pins s σ H D I ?_
  exact lcR_core (Q := fun v H2 => D.nx (σ.set i (some v)) H2) d.toDef ha h
theorem we_lcR (d : Def X G N sc k) {elt tg n : Expr} {ifs : List Expr} {rp rp2 : Pos} (own : List (Str × Nat)) (ok : blkC N sc scope own = true) (hg : glB sc "range" = true) (hm : G.mg "range" = none)
    (hs : ∀ x, foldedSetIterable (.Call (.Name "range" rp) [n] [] rp2) X.env x = pure x) (ha : ns n = true)
    (h : WE X n σ H fun y H1 => LcR X G N sc scope k tg elt ifs (own.map (·.2)) σ y H1 Q) : WE X (.ListComp elt [⟨tg, (.Call (.Name "range" rp) [n] [] rp2), ifs, 0⟩] scope pos) σ H Q :=
  we_of (pe_lcW d (pi_range1 (d.gl hg) (by rw [d.mg]; exact hm) pa_wa (star_ns ha)) (blkOk_by ok) hs) (lcR_core d ha h)

/-! ### dict displays with text keys -/
theorem we_disp4 (d : Def X G N sc k) {k1 k2 k3 k4 : Str} {e1 e2 e3 e4 : Expr} {j1 j2 j3 j4} {p1 p2 p3 p4 : Pos}
    (h : ∀ p, H p = none → WE X e1 σ (upd H p (.dK [])) fun v1 H1 => WE X e2 σ H1 fun v2 H2 => WE X e3 σ H2 fun v3 H3 => WE X e4 σ H3 fun v4 H4 =>
      H4 p = some (.dK []) ∧ Q (.ref p) (upd H4 p (.dK (mergeK [] [(Sum.inr k1, v1), (Sum.inr k2, v2), (Sum.inr k3, v3), (Sum.inr k4, v4)])))) :
    WE X (.Dict [some (.Constant (.str k1) j1 p1), some (.Constant (.str k2) j2 p2), some (.Constant (.str k3) j3 p3), some (.Constant (.str k4) j4 p4)] [e1, e2, e3, e4] pos) σ H Q := by
  refine we_of (pe_disp (pps_cons pe_str pe_we (pps_cons pe_str pe_we (pps_cons pe_str pe_we (pps_cons pe_str pe_we pps_nil)))) rfl rfl (fun z => by cases z) (by show 4 ≤ 15; decide)) fun p hp => ?_
  show WE X e1 σ (upd H p (.dK [])) _
  refine we_mono (fun v1 H1 q => we_mono (fun v2 H2 q => we_mono (fun v3 H3 q => we_mono (fun v4 H4 q => ?_) q) q) q) (h p hp)
  exact ⟨q.1, [(Sum.inr k1, v1), (Sum.inr k2, v2), (Sum.inr k3, v3), (Sum.inr k4, v4)], rfl, by show 4 ≤ 15; decide, q.2⟩
end
end Wx

namespace Wx
open PySem L2
section
variable {X : Cx} {e a b c : Expr} {es : List Expr} {σ : L2.St} {H : Hp} {Q : VK} {QT : Bool → Hp → Prop} {pos p : Pos} {x y : V} {v : V} {G : Gb} {N : List Str} {sc scope : Scope} {k : Nat} {W : WX} {i j : Int}
def cellB (sc : Scope) (x : Str) : Bool := match sc.names.lookup x with | some .cell => true | some .local => true | _ => false
theorem locs {z : Str} (h : cellB sc z = true) : L2.Loc sc z := by
  unfold cellB at h
  unfold L2.Loc
  split at h
  · exact .inr (by assumption)
  · exact .inl (by assumption)
  · cases h

section
variable {D : Ends}
theorem we_n0 {n0 : Str} {τ : L2.St} (d : Def X G (n0 :: N) sc k) (hv : visB sc n0 = true) (q : Q v H) (hd : (n0 == ("__debug__" : Str)) = false := by decide +kernel) (hc : (n0 == ("__classdict__" : Str)) = false := by decide +kernel) : WE X (.Name n0 pos) (some v :: τ) H Q :=
  we_name d 0 rfl hv rfl q hd hc
theorem ws_s0 {n0 : Str} {s0 : Option V} {τ : L2.St} {pos' : Pos} (d : Fr X G (n0 :: N) sc k W) (hl : cellB sc n0 = true) (hs : swapsWith e (some (.Name n0 pos')) pos.line X.env = pure false) (h : WE X e (s0 :: τ) H fun v H1 => D.nx (some v :: τ) H1) : WS X (.Assign [.Name n0 pos'] e pos) D (s0 :: τ) H :=
  ws_set d 0 rfl (locs hl) hs h
theorem wg_n0 {n0 : Str} {s0 : Option V} {τ : L2.St} {R : L2.St → Hp → Prop} (d : Fr X G (n0 :: N) sc k W) (hl : cellB sc n0 = true) (q : R (some v :: τ) H) : WG X (.Name n0 pos) v (s0 :: τ) H R :=
  wg_name d.toDef 0 rfl (locs hl) (.inl (d.fn _)) q
theorem wg_b0 {n0 : Str} {s0 : Option V} {τ : L2.St} {R : L2.St → Hp → Prop} (d : Def X G (n0 :: N) sc k) (hl : locB sc n0 = true) (q : R (some v :: τ) H) : WG X (.Name n0 pos) v (s0 :: τ) H R :=
  wg_name d 0 rfl (.inl (loc_of hl)) (.inr (loc_of hl)) q
theorem we_n1 {n0 n1 : Str} {s0 : Option V} {τ : L2.St} (d : Def X G (n0 :: n1 :: N) sc k) (hv : visB sc n1 = true) (q : Q v H) (hd : (n1 == ("__debug__" : Str)) = false := by decide +kernel) (hc : (n1 == ("__classdict__" : Str)) = false := by decide +kernel) : WE X (.Name n1 pos) (s0 :: some v :: τ) H Q :=
  we_name d 1 rfl hv rfl q hd hc
theorem ws_s1 {n0 n1 : Str} {s0 s1 : Option V} {τ : L2.St} {pos' : Pos} (d : Fr X G (n0 :: n1 :: N) sc k W) (hl : cellB sc n1 = true) (hs : swapsWith e (some (.Name n1 pos')) pos.line X.env = pure false) (h : WE X e (s0 :: s1 :: τ) H fun v H1 => D.nx (s0 :: some v :: τ) H1) : WS X (.Assign [.Name n1 pos'] e pos) D (s0 :: s1 :: τ) H :=
  ws_set d 1 rfl (locs hl) hs h
theorem wg_n1 {n0 n1 : Str} {s0 s1 : Option V} {τ : L2.St} {R : L2.St → Hp → Prop} (d : Fr X G (n0 :: n1 :: N) sc k W) (hl : cellB sc n1 = true) (q : R (s0 :: some v :: τ) H) : WG X (.Name n1 pos) v (s0 :: s1 :: τ) H R :=
  wg_name d.toDef 1 rfl (locs hl) (.inl (d.fn _)) q
theorem wg_b1 {n0 n1 : Str} {s0 s1 : Option V} {τ : L2.St} {R : L2.St → Hp → Prop} (d : Def X G (n0 :: n1 :: N) sc k) (hl : locB sc n1 = true) (q : R (s0 :: some v :: τ) H) : WG X (.Name n1 pos) v (s0 :: s1 :: τ) H R :=
  wg_name d 1 rfl (.inl (loc_of hl)) (.inr (loc_of hl)) q
theorem we_n2 {n0 n1 n2 : Str} {s0 s1 : Option V} {τ : L2.St} (d : Def X G (n0 :: n1 :: n2 :: N) sc k) (hv : visB sc n2 = true) (q : Q v H) (hd : (n2 == ("__debug__" : Str)) = false := by decide +kernel) (hc : (n2 == ("__classdict__" : Str)) = false := by decide +kernel) : WE X (.Name n2 pos) (s0 :: s1 :: some v :: τ) H Q :=
  we_name d 2 rfl hv rfl q hd hc
theorem ws_s2 {n0 n1 n2 : Str} {s0 s1 s2 : Option V} {τ : L2.St} {pos' : Pos} (d : Fr X G (n0 :: n1 :: n2 :: N) sc k W) (hl : cellB sc n2 = true) (hs : swapsWith e (some (.Name n2 pos')) pos.line X.env = pure false) (h : WE X e (s0 :: s1 :: s2 :: τ) H fun v H1 => D.nx (s0 :: s1 :: some v :: τ) H1) : WS X (.Assign [.Name n2 pos'] e pos) D (s0 :: s1 :: s2 :: τ) H :=
  ws_set d 2 rfl (locs hl) hs h
theorem wg_n2 {n0 n1 n2 : Str} {s0 s1 s2 : Option V} {τ : L2.St} {R : L2.St → Hp → Prop} (d : Fr X G (n0 :: n1 :: n2 :: N) sc k W) (hl : cellB sc n2 = true) (q : R (s0 :: s1 :: some v :: τ) H) : WG X (.Name n2 pos) v (s0 :: s1 :: s2 :: τ) H R :=
  wg_name d.toDef 2 rfl (locs hl) (.inl (d.fn _)) q
theorem wg_b2 {n0 n1 n2 : Str} {s0 s1 s2 : Option V} {τ : L2.St} {R : L2.St → Hp → Prop} (d : Def X G (n0 :: n1 :: n2 :: N) sc k) (hl : locB sc n2 = true) (q : R (s0 :: s1 :: some v :: τ) H) : WG X (.Name n2 pos) v (s0 :: s1 :: s2 :: τ) H R :=
  wg_name d 2 rfl (.inl (loc_of hl)) (.inr (loc_of hl)) q
theorem we_n3 {n0 n1 n2 n3 : Str} {s0 s1 s2 : Option V} {τ : L2.St} (d : Def X G (n0 :: n1 :: n2 :: n3 :: N) sc k) (hv : visB sc n3 = true) (q : Q v H) (hd : (n3 == ("__debug__" : Str)) = false := by decide +kernel) (hc : (n3 == ("__classdict__" : Str)) = false := by decide +kernel) : WE X (.Name n3 pos) (s0 :: s1 :: s2 :: some v :: τ) H Q :=
  we_name d 3 rfl hv rfl q hd hc
theorem ws_s3 {n0 n1 n2 n3 : Str} {s0 s1 s2 s3 : Option V} {τ : L2.St} {pos' : Pos} (d : Fr X G (n0 :: n1 :: n2 :: n3 :: N) sc k W) (hl : cellB sc n3 = true) (hs : swapsWith e (some (.Name n3 pos')) pos.line X.env = pure false) (h : WE X e (s0 :: s1 :: s2 :: s3 :: τ) H fun v H1 => D.nx (s0 :: s1 :: s2 :: some v :: τ) H1) : WS X (.Assign [.Name n3 pos'] e pos) D (s0 :: s1 :: s2 :: s3 :: τ) H :=
  ws_set d 3 rfl (locs hl) hs h
theorem wg_n3 {n0 n1 n2 n3 : Str} {s0 s1 s2 s3 : Option V} {τ : L2.St} {R : L2.St → Hp → Prop} (d : Fr X G (n0 :: n1 :: n2 :: n3 :: N) sc k W) (hl : cellB sc n3 = true) (q : R (s0 :: s1 :: s2 :: some v :: τ) H) : WG X (.Name n3 pos) v (s0 :: s1 :: s2 :: s3 :: τ) H R :=
  wg_name d.toDef 3 rfl (locs hl) (.inl (d.fn _)) q
theorem wg_b3 {n0 n1 n2 n3 : Str} {s0 s1 s2 s3 : Option V} {τ : L2.St} {R : L2.St → Hp → Prop} (d : Def X G (n0 :: n1 :: n2 :: n3 :: N) sc k) (hl : locB sc n3 = true) (q : R (s0 :: s1 :: s2 :: some v :: τ) H) : WG X (.Name n3 pos) v (s0 :: s1 :: s2 :: s3 :: τ) H R :=
  wg_name d 3 rfl (.inl (loc_of hl)) (.inr (loc_of hl)) q
theorem we_n4 {n0 n1 n2 n3 n4 : Str} {s0 s1 s2 s3 : Option V} {τ : L2.St} (d : Def X G (n0 :: n1 :: n2 :: n3 :: n4 :: N) sc k) (hv : visB sc n4 = true) (q : Q v H) (hd : (n4 == ("__debug__" : Str)) = false := by decide +kernel) (hc : (n4 == ("__classdict__" : Str)) = false := by decide +kernel) : WE X (.Name n4 pos) (s0 :: s1 :: s2 :: s3 :: some v :: τ) H Q :=
  we_name d 4 rfl hv rfl q hd hc
theorem ws_s4 {n0 n1 n2 n3 n4 : Str} {s0 s1 s2 s3 s4 : Option V} {τ : L2.St} {pos' : Pos} (d : Fr X G (n0 :: n1 :: n2 :: n3 :: n4 :: N) sc k W) (hl : cellB sc n4 = true) (hs : swapsWith e (some (.Name n4 pos')) pos.line X.env = pure false) (h : WE X e (s0 :: s1 :: s2 :: s3 :: s4 :: τ) H fun v H1 => D.nx (s0 :: s1 :: s2 :: s3 :: some v :: τ) H1) : WS X (.Assign [.Name n4 pos'] e pos) D (s0 :: s1 :: s2 :: s3 :: s4 :: τ) H :=
  ws_set d 4 rfl (locs hl) hs h
theorem wg_n4 {n0 n1 n2 n3 n4 : Str} {s0 s1 s2 s3 s4 : Option V} {τ : L2.St} {R : L2.St → Hp → Prop} (d : Fr X G (n0 :: n1 :: n2 :: n3 :: n4 :: N) sc k W) (hl : cellB sc n4 = true) (q : R (s0 :: s1 :: s2 :: s3 :: some v :: τ) H) : WG X (.Name n4 pos) v (s0 :: s1 :: s2 :: s3 :: s4 :: τ) H R :=
  wg_name d.toDef 4 rfl (locs hl) (.inl (d.fn _)) q
theorem wg_b4 {n0 n1 n2 n3 n4 : Str} {s0 s1 s2 s3 s4 : Option V} {τ : L2.St} {R : L2.St → Hp → Prop} (d : Def X G (n0 :: n1 :: n2 :: n3 :: n4 :: N) sc k) (hl : locB sc n4 = true) (q : R (s0 :: s1 :: s2 :: s3 :: some v :: τ) H) : WG X (.Name n4 pos) v (s0 :: s1 :: s2 :: s3 :: s4 :: τ) H R :=
  wg_name d 4 rfl (.inl (loc_of hl)) (.inr (loc_of hl)) q
theorem we_n5 {n0 n1 n2 n3 n4 n5 : Str} {s0 s1 s2 s3 s4 : Option V} {τ : L2.St} (d : Def X G (n0 :: n1 :: n2 :: n3 :: n4 :: n5 :: N) sc k) (hv : visB sc n5 = true) (q : Q v H) (hd : (n5 == ("__debug__" : Str)) = false := by decide +kernel) (hc : (n5 == ("__classdict__" : Str)) = false := by decide +kernel) : WE X (.Name n5 pos) (s0 :: s1 :: s2 :: s3 :: s4 :: some v :: τ) H Q :=
  we_name d 5 rfl hv rfl q hd hc
theorem ws_s5 {n0 n1 n2 n3 n4 n5 : Str} {s0 s1 s2 s3 s4 s5 : Option V} {τ : L2.St} {pos' : Pos} (d : Fr X G (n0 :: n1 :: n2 :: n3 :: n4 :: n5 :: N) sc k W) (hl : cellB sc n5 = true) (hs : swapsWith e (some (.Name n5 pos')) pos.line X.env = pure false) (h : WE X e (s0 :: s1 :: s2 :: s3 :: s4 :: s5 :: τ) H fun v H1 => D.nx (s0 :: s1 :: s2 :: s3 :: s4 :: some v :: τ) H1) : WS X (.Assign [.Name n5 pos'] e pos) D (s0 :: s1 :: s2 :: s3 :: s4 :: s5 :: τ) H :=
  ws_set d 5 rfl (locs hl) hs h
theorem wg_n5 {n0 n1 n2 n3 n4 n5 : Str} {s0 s1 s2 s3 s4 s5 : Option V} {τ : L2.St} {R : L2.St → Hp → Prop} (d : Fr X G (n0 :: n1 :: n2 :: n3 :: n4 :: n5 :: N) sc k W) (hl : cellB sc n5 = true) (q : R (s0 :: s1 :: s2 :: s3 :: s4 :: some v :: τ) H) : WG X (.Name n5 pos) v (s0 :: s1 :: s2 :: s3 :: s4 :: s5 :: τ) H R :=
  wg_name d.toDef 5 rfl (locs hl) (.inl (d.fn _)) q
theorem wg_b5 {n0 n1 n2 n3 n4 n5 : Str} {s0 s1 s2 s3 s4 s5 : Option V} {τ : L2.St} {R : L2.St → Hp → Prop} (d : Def X G (n0 :: n1 :: n2 :: n3 :: n4 :: n5 :: N) sc k) (hl : locB sc n5 = true) (q : R (s0 :: s1 :: s2 :: s3 :: s4 :: some v :: τ) H) : WG X (.Name n5 pos) v (s0 :: s1 :: s2 :: s3 :: s4 :: s5 :: τ) H R :=
  wg_name d 5 rfl (.inl (loc_of hl)) (.inr (loc_of hl)) q
theorem we_n6 {n0 n1 n2 n3 n4 n5 n6 : Str} {s0 s1 s2 s3 s4 s5 : Option V} {τ : L2.St} (d : Def X G (n0 :: n1 :: n2 :: n3 :: n4 :: n5 :: n6 :: N) sc k) (hv : visB sc n6 = true) (q : Q v H) (hd : (n6 == ("__debug__" : Str)) = false := by decide +kernel) (hc : (n6 == ("__classdict__" : Str)) = false := by decide +kernel) : WE X (.Name n6 pos) (s0 :: s1 :: s2 :: s3 :: s4 :: s5 :: some v :: τ) H Q :=
  we_name d 6 rfl hv rfl q hd hc
theorem ws_s6 {n0 n1 n2 n3 n4 n5 n6 : Str} {s0 s1 s2 s3 s4 s5 s6 : Option V} {τ : L2.St} {pos' : Pos} (d : Fr X G (n0 :: n1 :: n2 :: n3 :: n4 :: n5 :: n6 :: N) sc k W) (hl : cellB sc n6 = true) (hs : swapsWith e (some (.Name n6 pos')) pos.line X.env = pure false) (h : WE X e (s0 :: s1 :: s2 :: s3 :: s4 :: s5 :: s6 :: τ) H fun v H1 => D.nx (s0 :: s1 :: s2 :: s3 :: s4 :: s5 :: some v :: τ) H1) : WS X (.Assign [.Name n6 pos'] e pos) D (s0 :: s1 :: s2 :: s3 :: s4 :: s5 :: s6 :: τ) H :=
  ws_set d 6 rfl (locs hl) hs h
theorem wg_n6 {n0 n1 n2 n3 n4 n5 n6 : Str} {s0 s1 s2 s3 s4 s5 s6 : Option V} {τ : L2.St} {R : L2.St → Hp → Prop} (d : Fr X G (n0 :: n1 :: n2 :: n3 :: n4 :: n5 :: n6 :: N) sc k W) (hl : cellB sc n6 = true) (q : R (s0 :: s1 :: s2 :: s3 :: s4 :: s5 :: some v :: τ) H) : WG X (.Name n6 pos) v (s0 :: s1 :: s2 :: s3 :: s4 :: s5 :: s6 :: τ) H R :=
  wg_name d.toDef 6 rfl (locs hl) (.inl (d.fn _)) q
theorem wg_b6 {n0 n1 n2 n3 n4 n5 n6 : Str} {s0 s1 s2 s3 s4 s5 s6 : Option V} {τ : L2.St} {R : L2.St → Hp → Prop} (d : Def X G (n0 :: n1 :: n2 :: n3 :: n4 :: n5 :: n6 :: N) sc k) (hl : locB sc n6 = true) (q : R (s0 :: s1 :: s2 :: s3 :: s4 :: s5 :: some v :: τ) H) : WG X (.Name n6 pos) v (s0 :: s1 :: s2 :: s3 :: s4 :: s5 :: s6 :: τ) H R :=
  wg_name d 6 rfl (.inl (loc_of hl)) (.inr (loc_of hl)) q
theorem we_n7 {n0 n1 n2 n3 n4 n5 n6 n7 : Str} {s0 s1 s2 s3 s4 s5 s6 : Option V} {τ : L2.St} (d : Def X G (n0 :: n1 :: n2 :: n3 :: n4 :: n5 :: n6 :: n7 :: N) sc k) (hv : visB sc n7 = true) (q : Q v H) (hd : (n7 == ("__debug__" : Str)) = false := by decide +kernel) (hc : (n7 == ("__classdict__" : Str)) = false := by decide +kernel) : WE X (.Name n7 pos) (s0 :: s1 :: s2 :: s3 :: s4 :: s5 :: s6 :: some v :: τ) H Q :=
  we_name d 7 rfl hv rfl q hd hc
theorem ws_s7 {n0 n1 n2 n3 n4 n5 n6 n7 : Str} {s0 s1 s2 s3 s4 s5 s6 s7 : Option V} {τ : L2.St} {pos' : Pos} (d : Fr X G (n0 :: n1 :: n2 :: n3 :: n4 :: n5 :: n6 :: n7 :: N) sc k W) (hl : cellB sc n7 = true) (hs : swapsWith e (some (.Name n7 pos')) pos.line X.env = pure false) (h : WE X e (s0 :: s1 :: s2 :: s3 :: s4 :: s5 :: s6 :: s7 :: τ) H fun v H1 => D.nx (s0 :: s1 :: s2 :: s3 :: s4 :: s5 :: s6 :: some v :: τ) H1) : WS X (.Assign [.Name n7 pos'] e pos) D (s0 :: s1 :: s2 :: s3 :: s4 :: s5 :: s6 :: s7 :: τ) H :=
  ws_set d 7 rfl (locs hl) hs h
theorem wg_n7 {n0 n1 n2 n3 n4 n5 n6 n7 : Str} {s0 s1 s2 s3 s4 s5 s6 s7 : Option V} {τ : L2.St} {R : L2.St → Hp → Prop} (d : Fr X G (n0 :: n1 :: n2 :: n3 :: n4 :: n5 :: n6 :: n7 :: N) sc k W) (hl : cellB sc n7 = true) (q : R (s0 :: s1 :: s2 :: s3 :: s4 :: s5 :: s6 :: some v :: τ) H) : WG X (.Name n7 pos) v (s0 :: s1 :: s2 :: s3 :: s4 :: s5 :: s6 :: s7 :: τ) H R :=
  wg_name d.toDef 7 rfl (locs hl) (.inl (d.fn _)) q
theorem wg_b7 {n0 n1 n2 n3 n4 n5 n6 n7 : Str} {s0 s1 s2 s3 s4 s5 s6 s7 : Option V} {τ : L2.St} {R : L2.St → Hp → Prop} (d : Def X G (n0 :: n1 :: n2 :: n3 :: n4 :: n5 :: n6 :: n7 :: N) sc k) (hl : locB sc n7 = true) (q : R (s0 :: s1 :: s2 :: s3 :: s4 :: s5 :: s6 :: some v :: τ) H) : WG X (.Name n7 pos) v (s0 :: s1 :: s2 :: s3 :: s4 :: s5 :: s6 :: s7 :: τ) H R :=
  wg_name d 7 rfl (.inl (loc_of hl)) (.inr (loc_of hl)) q
theorem we_n8 {n0 n1 n2 n3 n4 n5 n6 n7 n8 : Str} {s0 s1 s2 s3 s4 s5 s6 s7 : Option V} {τ : L2.St} (d : Def X G (n0 :: n1 :: n2 :: n3 :: n4 :: n5 :: n6 :: n7 :: n8 :: N) sc k) (hv : visB sc n8 = true) (q : Q v H) (hd : (n8 == ("__debug__" : Str)) = false := by decide +kernel) (hc : (n8 == ("__classdict__" : Str)) = false := by decide +kernel) : WE X (.Name n8 pos) (s0 :: s1 :: s2 :: s3 :: s4 :: s5 :: s6 :: s7 :: some v :: τ) H Q :=
  we_name d 8 rfl hv rfl q hd hc
theorem ws_s8 {n0 n1 n2 n3 n4 n5 n6 n7 n8 : Str} {s0 s1 s2 s3 s4 s5 s6 s7 s8 : Option V} {τ : L2.St} {pos' : Pos} (d : Fr X G (n0 :: n1 :: n2 :: n3 :: n4 :: n5 :: n6 :: n7 :: n8 :: N) sc k W) (hl : cellB sc n8 = true) (hs : swapsWith e (some (.Name n8 pos')) pos.line X.env = pure false) (h : WE X e (s0 :: s1 :: s2 :: s3 :: s4 :: s5 :: s6 :: s7 :: s8 :: τ) H fun v H1 => D.nx (s0 :: s1 :: s2 :: s3 :: s4 :: s5 :: s6 :: s7 :: some v :: τ) H1) : WS X (.Assign [.Name n8 pos'] e pos) D (s0 :: s1 :: s2 :: s3 :: s4 :: s5 :: s6 :: s7 :: s8 :: τ) H :=
  ws_set d 8 rfl (locs hl) hs h
theorem wg_n8 {n0 n1 n2 n3 n4 n5 n6 n7 n8 : Str} {s0 s1 s2 s3 s4 s5 s6 s7 s8 : Option V} {τ : L2.St} {R : L2.St → Hp → Prop} (d : Fr X G (n0 :: n1 :: n2 :: n3 :: n4 :: n5 :: n6 :: n7 :: n8 :: N) sc k W) (hl : cellB sc n8 = true) (q : R (s0 :: s1 :: s2 :: s3 :: s4 :: s5 :: s6 :: s7 :: some v :: τ) H) : WG X (.Name n8 pos) v (s0 :: s1 :: s2 :: s3 :: s4 :: s5 :: s6 :: s7 :: s8 :: τ) H R :=
  wg_name d.toDef 8 rfl (locs hl) (.inl (d.fn _)) q
theorem wg_b8 {n0 n1 n2 n3 n4 n5 n6 n7 n8 : Str} {s0 s1 s2 s3 s4 s5 s6 s7 s8 : Option V} {τ : L2.St} {R : L2.St → Hp → Prop} (d : Def X G (n0 :: n1 :: n2 :: n3 :: n4 :: n5 :: n6 :: n7 :: n8 :: N) sc k) (hl : locB sc n8 = true) (q : R (s0 :: s1 :: s2 :: s3 :: s4 :: s5 :: s6 :: s7 :: some v :: τ) H) : WG X (.Name n8 pos) v (s0 :: s1 :: s2 :: s3 :: s4 :: s5 :: s6 :: s7 :: s8 :: τ) H R :=
  wg_name d 8 rfl (.inl (loc_of hl)) (.inr (loc_of hl)) q
theorem we_n9 {n0 n1 n2 n3 n4 n5 n6 n7 n8 n9 : Str} {s0 s1 s2 s3 s4 s5 s6 s7 s8 : Option V} {τ : L2.St} (d : Def X G (n0 :: n1 :: n2 :: n3 :: n4 :: n5 :: n6 :: n7 :: n8 :: n9 :: N) sc k) (hv : visB sc n9 = true) (q : Q v H) (hd : (n9 == ("__debug__" : Str)) = false := by decide +kernel) (hc : (n9 == ("__classdict__" : Str)) = false := by decide +kernel) : WE X (.Name n9 pos) (s0 :: s1 :: s2 :: s3 :: s4 :: s5 :: s6 :: s7 :: s8 :: some v :: τ) H Q :=
  we_name d 9 rfl hv rfl q hd hc
theorem ws_s9 {n0 n1 n2 n3 n4 n5 n6 n7 n8 n9 : Str} {s0 s1 s2 s3 s4 s5 s6 s7 s8 s9 : Option V} {τ : L2.St} {pos' : Pos} (d : Fr X G (n0 :: n1 :: n2 :: n3 :: n4 :: n5 :: n6 :: n7 :: n8 :: n9 :: N) sc k W) (hl : cellB sc n9 = true) (hs : swapsWith e (some (.Name n9 pos')) pos.line X.env = pure false) (h : WE X e (s0 :: s1 :: s2 :: s3 :: s4 :: s5 :: s6 :: s7 :: s8 :: s9 :: τ) H fun v H1 => D.nx (s0 :: s1 :: s2 :: s3 :: s4 :: s5 :: s6 :: s7 :: s8 :: some v :: τ) H1) : WS X (.Assign [.Name n9 pos'] e pos) D (s0 :: s1 :: s2 :: s3 :: s4 :: s5 :: s6 :: s7 :: s8 :: s9 :: τ) H :=
  ws_set d 9 rfl (locs hl) hs h
theorem wg_n9 {n0 n1 n2 n3 n4 n5 n6 n7 n8 n9 : Str} {s0 s1 s2 s3 s4 s5 s6 s7 s8 s9 : Option V} {τ : L2.St} {R : L2.St → Hp → Prop} (d : Fr X G (n0 :: n1 :: n2 :: n3 :: n4 :: n5 :: n6 :: n7 :: n8 :: n9 :: N) sc k W) (hl : cellB sc n9 = true) (q : R (s0 :: s1 :: s2 :: s3 :: s4 :: s5 :: s6 :: s7 :: s8 :: some v :: τ) H) : WG X (.Name n9 pos) v (s0 :: s1 :: s2 :: s3 :: s4 :: s5 :: s6 :: s7 :: s8 :: s9 :: τ) H R :=
  wg_name d.toDef 9 rfl (locs hl) (.inl (d.fn _)) q
theorem wg_b9 {n0 n1 n2 n3 n4 n5 n6 n7 n8 n9 : Str} {s0 s1 s2 s3 s4 s5 s6 s7 s8 s9 : Option V} {τ : L2.St} {R : L2.St → Hp → Prop} (d : Def X G (n0 :: n1 :: n2 :: n3 :: n4 :: n5 :: n6 :: n7 :: n8 :: n9 :: N) sc k) (hl : locB sc n9 = true) (q : R (s0 :: s1 :: s2 :: s3 :: s4 :: s5 :: s6 :: s7 :: s8 :: some v :: τ) H) : WG X (.Name n9 pos) v (s0 :: s1 :: s2 :: s3 :: s4 :: s5 :: s6 :: s7 :: s8 :: s9 :: τ) H R :=
  wg_name d 9 rfl (.inl (loc_of hl)) (.inr (loc_of hl)) q
theorem we_n10 {n0 n1 n2 n3 n4 n5 n6 n7 n8 n9 n10 : Str} {s0 s1 s2 s3 s4 s5 s6 s7 s8 s9 : Option V} {τ : L2.St} (d : Def X G (n0 :: n1 :: n2 :: n3 :: n4 :: n5 :: n6 :: n7 :: n8 :: n9 :: n10 :: N) sc k) (hv : visB sc n10 = true) (q : Q v H) (hd : (n10 == ("__debug__" : Str)) = false := by decide +kernel) (hc : (n10 == ("__classdict__" : Str)) = false := by decide +kernel) : WE X (.Name n10 pos) (s0 :: s1 :: s2 :: s3 :: s4 :: s5 :: s6 :: s7 :: s8 :: s9 :: some v :: τ) H Q :=
  we_name d 10 rfl hv rfl q hd hc
theorem ws_s10 {n0 n1 n2 n3 n4 n5 n6 n7 n8 n9 n10 : Str} {s0 s1 s2 s3 s4 s5 s6 s7 s8 s9 s10 : Option V} {τ : L2.St} {pos' : Pos} (d : Fr X G (n0 :: n1 :: n2 :: n3 :: n4 :: n5 :: n6 :: n7 :: n8 :: n9 :: n10 :: N) sc k W) (hl : cellB sc n10 = true) (hs : swapsWith e (some (.Name n10 pos')) pos.line X.env = pure false) (h : WE X e (s0 :: s1 :: s2 :: s3 :: s4 :: s5 :: s6 :: s7 :: s8 :: s9 :: s10 :: τ) H fun v H1 => D.nx (s0 :: s1 :: s2 :: s3 :: s4 :: s5 :: s6 :: s7 :: s8 :: s9 :: some v :: τ) H1) : WS X (.Assign [.Name n10 pos'] e pos) D (s0 :: s1 :: s2 :: s3 :: s4 :: s5 :: s6 :: s7 :: s8 :: s9 :: s10 :: τ) H :=
  ws_set d 10 rfl (locs hl) hs h
theorem wg_n10 {n0 n1 n2 n3 n4 n5 n6 n7 n8 n9 n10 : Str} {s0 s1 s2 s3 s4 s5 s6 s7 s8 s9 s10 : Option V} {τ : L2.St} {R : L2.St → Hp → Prop} (d : Fr X G (n0 :: n1 :: n2 :: n3 :: n4 :: n5 :: n6 :: n7 :: n8 :: n9 :: n10 :: N) sc k W) (hl : cellB sc n10 = true) (q : R (s0 :: s1 :: s2 :: s3 :: s4 :: s5 :: s6 :: s7 :: s8 :: s9 :: some v :: τ) H) : WG X (.Name n10 pos) v (s0 :: s1 :: s2 :: s3 :: s4 :: s5 :: s6 :: s7 :: s8 :: s9 :: s10 :: τ) H R :=
  wg_name d.toDef 10 rfl (locs hl) (.inl (d.fn _)) q
theorem wg_b10 {n0 n1 n2 n3 n4 n5 n6 n7 n8 n9 n10 : Str} {s0 s1 s2 s3 s4 s5 s6 s7 s8 s9 s10 : Option V} {τ : L2.St} {R : L2.St → Hp → Prop} (d : Def X G (n0 :: n1 :: n2 :: n3 :: n4 :: n5 :: n6 :: n7 :: n8 :: n9 :: n10 :: N) sc k) (hl : locB sc n10 = true) (q : R (s0 :: s1 :: s2 :: s3 :: s4 :: s5 :: s6 :: s7 :: s8 :: s9 :: some v :: τ) H) : WG X (.Name n10 pos) v (s0 :: s1 :: s2 :: s3 :: s4 :: s5 :: s6 :: s7 :: s8 :: s9 :: s10 :: τ) H R :=
  wg_name d 10 rfl (.inl (loc_of hl)) (.inr (loc_of hl)) q
theorem we_n11 {n0 n1 n2 n3 n4 n5 n6 n7 n8 n9 n10 n11 : Str} {s0 s1 s2 s3 s4 s5 s6 s7 s8 s9 s10 : Option V} {τ : L2.St} (d : Def X G (n0 :: n1 :: n2 :: n3 :: n4 :: n5 :: n6 :: n7 :: n8 :: n9 :: n10 :: n11 :: N) sc k) (hv : visB sc n11 = true) (q : Q v H) (hd : (n11 == ("__debug__" : Str)) = false := by decide +kernel) (hc : (n11 == ("__classdict__" : Str)) = false := by decide +kernel) : WE X (.Name n11 pos) (s0 :: s1 :: s2 :: s3 :: s4 :: s5 :: s6 :: s7 :: s8 :: s9 :: s10 :: some v :: τ) H Q :=
  we_name d 11 rfl hv rfl q hd hc
theorem ws_s11 {n0 n1 n2 n3 n4 n5 n6 n7 n8 n9 n10 n11 : Str} {s0 s1 s2 s3 s4 s5 s6 s7 s8 s9 s10 s11 : Option V} {τ : L2.St} {pos' : Pos} (d : Fr X G (n0 :: n1 :: n2 :: n3 :: n4 :: n5 :: n6 :: n7 :: n8 :: n9 :: n10 :: n11 :: N) sc k W) (hl : cellB sc n11 = true) (hs : swapsWith e (some (.Name n11 pos')) pos.line X.env = pure false) (h : WE X e (s0 :: s1 :: s2 :: s3 :: s4 :: s5 :: s6 :: s7 :: s8 :: s9 :: s10 :: s11 :: τ) H fun v H1 => D.nx (s0 :: s1 :: s2 :: s3 :: s4 :: s5 :: s6 :: s7 :: s8 :: s9 :: s10 :: some v :: τ) H1) : WS X (.Assign [.Name n11 pos'] e pos) D (s0 :: s1 :: s2 :: s3 :: s4 :: s5 :: s6 :: s7 :: s8 :: s9 :: s10 :: s11 :: τ) H :=
  ws_set d 11 rfl (locs hl) hs h
theorem wg_n11 {n0 n1 n2 n3 n4 n5 n6 n7 n8 n9 n10 n11 : Str} {s0 s1 s2 s3 s4 s5 s6 s7 s8 s9 s10 s11 : Option V} {τ : L2.St} {R : L2.St → Hp → Prop} (d : Fr X G (n0 :: n1 :: n2 :: n3 :: n4 :: n5 :: n6 :: n7 :: n8 :: n9 :: n10 :: n11 :: N) sc k W) (hl : cellB sc n11 = true) (q : R (s0 :: s1 :: s2 :: s3 :: s4 :: s5 :: s6 :: s7 :: s8 :: s9 :: s10 :: some v :: τ) H) : WG X (.Name n11 pos) v (s0 :: s1 :: s2 :: s3 :: s4 :: s5 :: s6 :: s7 :: s8 :: s9 :: s10 :: s11 :: τ) H R :=
  wg_name d.toDef 11 rfl (locs hl) (.inl (d.fn _)) q
theorem wg_b11 {n0 n1 n2 n3 n4 n5 n6 n7 n8 n9 n10 n11 : Str} {s0 s1 s2 s3 s4 s5 s6 s7 s8 s9 s10 s11 : Option V} {τ : L2.St} {R : L2.St → Hp → Prop} (d : Def X G (n0 :: n1 :: n2 :: n3 :: n4 :: n5 :: n6 :: n7 :: n8 :: n9 :: n10 :: n11 :: N) sc k) (hl : locB sc n11 = true) (q : R (s0 :: s1 :: s2 :: s3 :: s4 :: s5 :: s6 :: s7 :: s8 :: s9 :: s10 :: some v :: τ) H) : WG X (.Name n11 pos) v (s0 :: s1 :: s2 :: s3 :: s4 :: s5 :: s6 :: s7 :: s8 :: s9 :: s10 :: s11 :: τ) H R :=
  wg_name d 11 rfl (.inl (loc_of hl)) (.inr (loc_of hl)) q
theorem we_n12 {n0 n1 n2 n3 n4 n5 n6 n7 n8 n9 n10 n11 n12 : Str} {s0 s1 s2 s3 s4 s5 s6 s7 s8 s9 s10 s11 : Option V} {τ : L2.St} (d : Def X G (n0 :: n1 :: n2 :: n3 :: n4 :: n5 :: n6 :: n7 :: n8 :: n9 :: n10 :: n11 :: n12 :: N) sc k) (hv : visB sc n12 = true) (q : Q v H) (hd : (n12 == ("__debug__" : Str)) = false := by decide +kernel) (hc : (n12 == ("__classdict__" : Str)) = false := by decide +kernel) : WE X (.Name n12 pos) (s0 :: s1 :: s2 :: s3 :: s4 :: s5 :: s6 :: s7 :: s8 :: s9 :: s10 :: s11 :: some v :: τ) H Q :=
  we_name d 12 rfl hv rfl q hd hc
theorem ws_s12 {n0 n1 n2 n3 n4 n5 n6 n7 n8 n9 n10 n11 n12 : Str} {s0 s1 s2 s3 s4 s5 s6 s7 s8 s9 s10 s11 s12 : Option V} {τ : L2.St} {pos' : Pos} (d : Fr X G (n0 :: n1 :: n2 :: n3 :: n4 :: n5 :: n6 :: n7 :: n8 :: n9 :: n10 :: n11 :: n12 :: N) sc k W) (hl : cellB sc n12 = true) (hs : swapsWith e (some (.Name n12 pos')) pos.line X.env = pure false) (h : WE X e (s0 :: s1 :: s2 :: s3 :: s4 :: s5 :: s6 :: s7 :: s8 :: s9 :: s10 :: s11 :: s12 :: τ) H fun v H1 => D.nx (s0 :: s1 :: s2 :: s3 :: s4 :: s5 :: s6 :: s7 :: s8 :: s9 :: s10 :: s11 :: some v :: τ) H1) : WS X (.Assign [.Name n12 pos'] e pos) D (s0 :: s1 :: s2 :: s3 :: s4 :: s5 :: s6 :: s7 :: s8 :: s9 :: s10 :: s11 :: s12 :: τ) H :=
  ws_set d 12 rfl (locs hl) hs h
theorem wg_n12 {n0 n1 n2 n3 n4 n5 n6 n7 n8 n9 n10 n11 n12 : Str} {s0 s1 s2 s3 s4 s5 s6 s7 s8 s9 s10 s11 s12 : Option V} {τ : L2.St} {R : L2.St → Hp → Prop} (d : Fr X G (n0 :: n1 :: n2 :: n3 :: n4 :: n5 :: n6 :: n7 :: n8 :: n9 :: n10 :: n11 :: n12 :: N) sc k W) (hl : cellB sc n12 = true) (q : R (s0 :: s1 :: s2 :: s3 :: s4 :: s5 :: s6 :: s7 :: s8 :: s9 :: s10 :: s11 :: some v :: τ) H) : WG X (.Name n12 pos) v (s0 :: s1 :: s2 :: s3 :: s4 :: s5 :: s6 :: s7 :: s8 :: s9 :: s10 :: s11 :: s12 :: τ) H R :=
  wg_name d.toDef 12 rfl (locs hl) (.inl (d.fn _)) q
theorem wg_b12 {n0 n1 n2 n3 n4 n5 n6 n7 n8 n9 n10 n11 n12 : Str} {s0 s1 s2 s3 s4 s5 s6 s7 s8 s9 s10 s11 s12 : Option V} {τ : L2.St} {R : L2.St → Hp → Prop} (d : Def X G (n0 :: n1 :: n2 :: n3 :: n4 :: n5 :: n6 :: n7 :: n8 :: n9 :: n10 :: n11 :: n12 :: N) sc k) (hl : locB sc n12 = true) (q : R (s0 :: s1 :: s2 :: s3 :: s4 :: s5 :: s6 :: s7 :: s8 :: s9 :: s10 :: s11 :: some v :: τ) H) : WG X (.Name n12 pos) v (s0 :: s1 :: s2 :: s3 :: s4 :: s5 :: s6 :: s7 :: s8 :: s9 :: s10 :: s11 :: s12 :: τ) H R :=
  wg_name d 12 rfl (.inl (loc_of hl)) (.inr (loc_of hl)) q
theorem we_n13 {n0 n1 n2 n3 n4 n5 n6 n7 n8 n9 n10 n11 n12 n13 : Str} {s0 s1 s2 s3 s4 s5 s6 s7 s8 s9 s10 s11 s12 : Option V} {τ : L2.St} (d : Def X G (n0 :: n1 :: n2 :: n3 :: n4 :: n5 :: n6 :: n7 :: n8 :: n9 :: n10 :: n11 :: n12 :: n13 :: N) sc k) (hv : visB sc n13 = true) (q : Q v H) (hd : (n13 == ("__debug__" : Str)) = false := by decide +kernel) (hc : (n13 == ("__classdict__" : Str)) = false := by decide +kernel) : WE X (.Name n13 pos) (s0 :: s1 :: s2 :: s3 :: s4 :: s5 :: s6 :: s7 :: s8 :: s9 :: s10 :: s11 :: s12 :: some v :: τ) H Q :=
  we_name d 13 rfl hv rfl q hd hc
theorem ws_s13 {n0 n1 n2 n3 n4 n5 n6 n7 n8 n9 n10 n11 n12 n13 : Str} {s0 s1 s2 s3 s4 s5 s6 s7 s8 s9 s10 s11 s12 s13 : Option V} {τ : L2.St} {pos' : Pos} (d : Fr X G (n0 :: n1 :: n2 :: n3 :: n4 :: n5 :: n6 :: n7 :: n8 :: n9 :: n10 :: n11 :: n12 :: n13 :: N) sc k W) (hl : cellB sc n13 = true) (hs : swapsWith e (some (.Name n13 pos')) pos.line X.env = pure false) (h : WE X e (s0 :: s1 :: s2 :: s3 :: s4 :: s5 :: s6 :: s7 :: s8 :: s9 :: s10 :: s11 :: s12 :: s13 :: τ) H fun v H1 => D.nx (s0 :: s1 :: s2 :: s3 :: s4 :: s5 :: s6 :: s7 :: s8 :: s9 :: s10 :: s11 :: s12 :: some v :: τ) H1) : WS X (.Assign [.Name n13 pos'] e pos) D (s0 :: s1 :: s2 :: s3 :: s4 :: s5 :: s6 :: s7 :: s8 :: s9 :: s10 :: s11 :: s12 :: s13 :: τ) H :=
  ws_set d 13 rfl (locs hl) hs h
theorem wg_n13 {n0 n1 n2 n3 n4 n5 n6 n7 n8 n9 n10 n11 n12 n13 : Str} {s0 s1 s2 s3 s4 s5 s6 s7 s8 s9 s10 s11 s12 s13 : Option V} {τ : L2.St} {R : L2.St → Hp → Prop} (d : Fr X G (n0 :: n1 :: n2 :: n3 :: n4 :: n5 :: n6 :: n7 :: n8 :: n9 :: n10 :: n11 :: n12 :: n13 :: N) sc k W) (hl : cellB sc n13 = true) (q : R (s0 :: s1 :: s2 :: s3 :: s4 :: s5 :: s6 :: s7 :: s8 :: s9 :: s10 :: s11 :: s12 :: some v :: τ) H) : WG X (.Name n13 pos) v (s0 :: s1 :: s2 :: s3 :: s4 :: s5 :: s6 :: s7 :: s8 :: s9 :: s10 :: s11 :: s12 :: s13 :: τ) H R :=
  wg_name d.toDef 13 rfl (locs hl) (.inl (d.fn _)) q
theorem wg_b13 {n0 n1 n2 n3 n4 n5 n6 n7 n8 n9 n10 n11 n12 n13 : Str} {s0 s1 s2 s3 s4 s5 s6 s7 s8 s9 s10 s11 s12 s13 : Option V} {τ : L2.St} {R : L2.St → Hp → Prop} (d : Def X G (n0 :: n1 :: n2 :: n3 :: n4 :: n5 :: n6 :: n7 :: n8 :: n9 :: n10 :: n11 :: n12 :: n13 :: N) sc k) (hl : locB sc n13 = true) (q : R (s0 :: s1 :: s2 :: s3 :: s4 :: s5 :: s6 :: s7 :: s8 :: s9 :: s10 :: s11 :: s12 :: some v :: τ) H) : WG X (.Name n13 pos) v (s0 :: s1 :: s2 :: s3 :: s4 :: s5 :: s6 :: s7 :: s8 :: s9 :: s10 :: s11 :: s12 :: s13 :: τ) H R :=
  wg_name d 13 rfl (.inl (loc_of hl)) (.inr (loc_of hl)) q
theorem we_n14 {n0 n1 n2 n3 n4 n5 n6 n7 n8 n9 n10 n11 n12 n13 n14 : Str} {s0 s1 s2 s3 s4 s5 s6 s7 s8 s9 s10 s11 s12 s13 : Option V} {τ : L2.St} (d : Def X G (n0 :: n1 :: n2 :: n3 :: n4 :: n5 :: n6 :: n7 :: n8 :: n9 :: n10 :: n11 :: n12 :: n13 :: n14 :: N) sc k) (hv : visB sc n14 = true) (q : Q v H) (hd : (n14 == ("__debug__" : Str)) = false := by decide +kernel) (hc : (n14 == ("__classdict__" : Str)) = false := by decide +kernel) : WE X (.Name n14 pos) (s0 :: s1 :: s2 :: s3 :: s4 :: s5 :: s6 :: s7 :: s8 :: s9 :: s10 :: s11 :: s12 :: s13 :: some v :: τ) H Q :=
  we_name d 14 rfl hv rfl q hd hc
theorem ws_s14 {n0 n1 n2 n3 n4 n5 n6 n7 n8 n9 n10 n11 n12 n13 n14 : Str} {s0 s1 s2 s3 s4 s5 s6 s7 s8 s9 s10 s11 s12 s13 s14 : Option V} {τ : L2.St} {pos' : Pos} (d : Fr X G (n0 :: n1 :: n2 :: n3 :: n4 :: n5 :: n6 :: n7 :: n8 :: n9 :: n10 :: n11 :: n12 :: n13 :: n14 :: N) sc k W) (hl : cellB sc n14 = true) (hs : swapsWith e (some (.Name n14 pos')) pos.line X.env = pure false) (h : WE X e (s0 :: s1 :: s2 :: s3 :: s4 :: s5 :: s6 :: s7 :: s8 :: s9 :: s10 :: s11 :: s12 :: s13 :: s14 :: τ) H fun v H1 => D.nx (s0 :: s1 :: s2 :: s3 :: s4 :: s5 :: s6 :: s7 :: s8 :: s9 :: s10 :: s11 :: s12 :: s13 :: some v :: τ) H1) : WS X (.Assign [.Name n14 pos'] e pos) D (s0 :: s1 :: s2 :: s3 :: s4 :: s5 :: s6 :: s7 :: s8 :: s9 :: s10 :: s11 :: s12 :: s13 :: s14 :: τ) H :=
  ws_set d 14 rfl (locs hl) hs h
theorem wg_n14 {n0 n1 n2 n3 n4 n5 n6 n7 n8 n9 n10 n11 n12 n13 n14 : Str} {s0 s1 s2 s3 s4 s5 s6 s7 s8 s9 s10 s11 s12 s13 s14 : Option V} {τ : L2.St} {R : L2.St → Hp → Prop} (d : Fr X G (n0 :: n1 :: n2 :: n3 :: n4 :: n5 :: n6 :: n7 :: n8 :: n9 :: n10 :: n11 :: n12 :: n13 :: n14 :: N) sc k W) (hl : cellB sc n14 = true) (q : R (s0 :: s1 :: s2 :: s3 :: s4 :: s5 :: s6 :: s7 :: s8 :: s9 :: s10 :: s11 :: s12 :: s13 :: some v :: τ) H) : WG X (.Name n14 pos) v (s0 :: s1 :: s2 :: s3 :: s4 :: s5 :: s6 :: s7 :: s8 :: s9 :: s10 :: s11 :: s12 :: s13 :: s14 :: τ) H R :=
  wg_name d.toDef 14 rfl (locs hl) (.inl (d.fn _)) q
theorem wg_b14 {n0 n1 n2 n3 n4 n5 n6 n7 n8 n9 n10 n11 n12 n13 n14 : Str} {s0 s1 s2 s3 s4 s5 s6 s7 s8 s9 s10 s11 s12 s13 s14 : Option V} {τ : L2.St} {R : L2.St → Hp → Prop} (d : Def X G (n0 :: n1 :: n2 :: n3 :: n4 :: n5 :: n6 :: n7 :: n8 :: n9 :: n10 :: n11 :: n12 :: n13 :: n14 :: N) sc k) (hl : locB sc n14 = true) (q : R (s0 :: s1 :: s2 :: s3 :: s4 :: s5 :: s6 :: s7 :: s8 :: s9 :: s10 :: s11 :: s12 :: s13 :: some v :: τ) H) : WG X (.Name n14 pos) v (s0 :: s1 :: s2 :: s3 :: s4 :: s5 :: s6 :: s7 :: s8 :: s9 :: s10 :: s11 :: s12 :: s13 :: s14 :: τ) H R :=
  wg_name d 14 rfl (.inl (loc_of hl)) (.inr (loc_of hl)) q
theorem we_n15 {n0 n1 n2 n3 n4 n5 n6 n7 n8 n9 n10 n11 n12 n13 n14 n15 : Str} {s0 s1 s2 s3 s4 s5 s6 s7 s8 s9 s10 s11 s12 s13 s14 : Option V} {τ : L2.St} (d : Def X G (n0 :: n1 :: n2 :: n3 :: n4 :: n5 :: n6 :: n7 :: n8 :: n9 :: n10 :: n11 :: n12 :: n13 :: n14 :: n15 :: N) sc k) (hv : visB sc n15 = true) (q : Q v H) (hd : (n15 == ("__debug__" : Str)) = false := by decide +kernel) (hc : (n15 == ("__classdict__" : Str)) = false := by decide +kernel) : WE X (.Name n15 pos) (s0 :: s1 :: s2 :: s3 :: s4 :: s5 :: s6 :: s7 :: s8 :: s9 :: s10 :: s11 :: s12 :: s13 :: s14 :: some v :: τ) H Q :=
  we_name d 15 rfl hv rfl q hd hc
theorem ws_s15 {n0 n1 n2 n3 n4 n5 n6 n7 n8 n9 n10 n11 n12 n13 n14 n15 : Str} {s0 s1 s2 s3 s4 s5 s6 s7 s8 s9 s10 s11 s12 s13 s14 s15 : Option V} {τ : L2.St} {pos' : Pos} (d : Fr X G (n0 :: n1 :: n2 :: n3 :: n4 :: n5 :: n6 :: n7 :: n8 :: n9 :: n10 :: n11 :: n12 :: n13 :: n14 :: n15 :: N) sc k W) (hl : cellB sc n15 = true) (hs : swapsWith e (some (.Name n15 pos')) pos.line X.env = pure false) (h : WE X e (s0 :: s1 :: s2 :: s3 :: s4 :: s5 :: s6 :: s7 :: s8 :: s9 :: s10 :: s11 :: s12 :: s13 :: s14 :: s15 :: τ) H fun v H1 => D.nx (s0 :: s1 :: s2 :: s3 :: s4 :: s5 :: s6 :: s7 :: s8 :: s9 :: s10 :: s11 :: s12 :: s13 :: s14 :: some v :: τ) H1) : WS X (.Assign [.Name n15 pos'] e pos) D (s0 :: s1 :: s2 :: s3 :: s4 :: s5 :: s6 :: s7 :: s8 :: s9 :: s10 :: s11 :: s12 :: s13 :: s14 :: s15 :: τ) H :=
  ws_set d 15 rfl (locs hl) hs h
theorem wg_n15 {n0 n1 n2 n3 n4 n5 n6 n7 n8 n9 n10 n11 n12 n13 n14 n15 : Str} {s0 s1 s2 s3 s4 s5 s6 s7 s8 s9 s10 s11 s12 s13 s14 s15 : Option V} {τ : L2.St} {R : L2.St → Hp → Prop} (d : Fr X G (n0 :: n1 :: n2 :: n3 :: n4 :: n5 :: n6 :: n7 :: n8 :: n9 :: n10 :: n11 :: n12 :: n13 :: n14 :: n15 :: N) sc k W) (hl : cellB sc n15 = true) (q : R (s0 :: s1 :: s2 :: s3 :: s4 :: s5 :: s6 :: s7 :: s8 :: s9 :: s10 :: s11 :: s12 :: s13 :: s14 :: some v :: τ) H) : WG X (.Name n15 pos) v (s0 :: s1 :: s2 :: s3 :: s4 :: s5 :: s6 :: s7 :: s8 :: s9 :: s10 :: s11 :: s12 :: s13 :: s14 :: s15 :: τ) H R :=
  wg_name d.toDef 15 rfl (locs hl) (.inl (d.fn _)) q
theorem wg_b15 {n0 n1 n2 n3 n4 n5 n6 n7 n8 n9 n10 n11 n12 n13 n14 n15 : Str} {s0 s1 s2 s3 s4 s5 s6 s7 s8 s9 s10 s11 s12 s13 s14 s15 : Option V} {τ : L2.St} {R : L2.St → Hp → Prop} (d : Def X G (n0 :: n1 :: n2 :: n3 :: n4 :: n5 :: n6 :: n7 :: n8 :: n9 :: n10 :: n11 :: n12 :: n13 :: n14 :: n15 :: N) sc k) (hl : locB sc n15 = true) (q : R (s0 :: s1 :: s2 :: s3 :: s4 :: s5 :: s6 :: s7 :: s8 :: s9 :: s10 :: s11 :: s12 :: s13 :: s14 :: some v :: τ) H) : WG X (.Name n15 pos) v (s0 :: s1 :: s2 :: s3 :: s4 :: s5 :: s6 :: s7 :: s8 :: s9 :: s10 :: s11 :: s12 :: s13 :: s14 :: s15 :: τ) H R :=
  wg_name d 15 rfl (.inl (loc_of hl)) (.inr (loc_of hl)) q
theorem we_n16 {n0 n1 n2 n3 n4 n5 n6 n7 n8 n9 n10 n11 n12 n13 n14 n15 n16 : Str} {s0 s1 s2 s3 s4 s5 s6 s7 s8 s9 s10 s11 s12 s13 s14 s15 : Option V} {τ : L2.St} (d : Def X G (n0 :: n1 :: n2 :: n3 :: n4 :: n5 :: n6 :: n7 :: n8 :: n9 :: n10 :: n11 :: n12 :: n13 :: n14 :: n15 :: n16 :: N) sc k) (hv : visB sc n16 = true) (q : Q v H) (hd : (n16 == ("__debug__" : Str)) = false := by decide +kernel) (hc : (n16 == ("__classdict__" : Str)) = false := by decide +kernel) : WE X (.Name n16 pos) (s0 :: s1 :: s2 :: s3 :: s4 :: s5 :: s6 :: s7 :: s8 :: s9 :: s10 :: s11 :: s12 :: s13 :: s14 :: s15 :: some v :: τ) H Q :=
  we_name d 16 rfl hv rfl q hd hc
theorem ws_s16 {n0 n1 n2 n3 n4 n5 n6 n7 n8 n9 n10 n11 n12 n13 n14 n15 n16 : Str} {s0 s1 s2 s3 s4 s5 s6 s7 s8 s9 s10 s11 s12 s13 s14 s15 s16 : Option V} {τ : L2.St} {pos' : Pos} (d : Fr X G (n0 :: n1 :: n2 :: n3 :: n4 :: n5 :: n6 :: n7 :: n8 :: n9 :: n10 :: n11 :: n12 :: n13 :: n14 :: n15 :: n16 :: N) sc k W) (hl : cellB sc n16 = true) (hs : swapsWith e (some (.Name n16 pos')) pos.line X.env = pure false) (h : WE X e (s0 :: s1 :: s2 :: s3 :: s4 :: s5 :: s6 :: s7 :: s8 :: s9 :: s10 :: s11 :: s12 :: s13 :: s14 :: s15 :: s16 :: τ) H fun v H1 => D.nx (s0 :: s1 :: s2 :: s3 :: s4 :: s5 :: s6 :: s7 :: s8 :: s9 :: s10 :: s11 :: s12 :: s13 :: s14 :: s15 :: some v :: τ) H1) : WS X (.Assign [.Name n16 pos'] e pos) D (s0 :: s1 :: s2 :: s3 :: s4 :: s5 :: s6 :: s7 :: s8 :: s9 :: s10 :: s11 :: s12 :: s13 :: s14 :: s15 :: s16 :: τ) H :=
  ws_set d 16 rfl (locs hl) hs h
theorem wg_n16 {n0 n1 n2 n3 n4 n5 n6 n7 n8 n9 n10 n11 n12 n13 n14 n15 n16 : Str} {s0 s1 s2 s3 s4 s5 s6 s7 s8 s9 s10 s11 s12 s13 s14 s15 s16 : Option V} {τ : L2.St} {R : L2.St → Hp → Prop} (d : Fr X G (n0 :: n1 :: n2 :: n3 :: n4 :: n5 :: n6 :: n7 :: n8 :: n9 :: n10 :: n11 :: n12 :: n13 :: n14 :: n15 :: n16 :: N) sc k W) (hl : cellB sc n16 = true) (q : R (s0 :: s1 :: s2 :: s3 :: s4 :: s5 :: s6 :: s7 :: s8 :: s9 :: s10 :: s11 :: s12 :: s13 :: s14 :: s15 :: some v :: τ) H) : WG X (.Name n16 pos) v (s0 :: s1 :: s2 :: s3 :: s4 :: s5 :: s6 :: s7 :: s8 :: s9 :: s10 :: s11 :: s12 :: s13 :: s14 :: s15 :: s16 :: τ) H R :=
  wg_name d.toDef 16 rfl (locs hl) (.inl (d.fn _)) q
theorem wg_b16 {n0 n1 n2 n3 n4 n5 n6 n7 n8 n9 n10 n11 n12 n13 n14 n15 n16 : Str} {s0 s1 s2 s3 s4 s5 s6 s7 s8 s9 s10 s11 s12 s13 s14 s15 s16 : Option V} {τ : L2.St} {R : L2.St → Hp → Prop} (d : Def X G (n0 :: n1 :: n2 :: n3 :: n4 :: n5 :: n6 :: n7 :: n8 :: n9 :: n10 :: n11 :: n12 :: n13 :: n14 :: n15 :: n16 :: N) sc k) (hl : locB sc n16 = true) (q : R (s0 :: s1 :: s2 :: s3 :: s4 :: s5 :: s6 :: s7 :: s8 :: s9 :: s10 :: s11 :: s12 :: s13 :: s14 :: s15 :: some v :: τ) H) : WG X (.Name n16 pos) v (s0 :: s1 :: s2 :: s3 :: s4 :: s5 :: s6 :: s7 :: s8 :: s9 :: s10 :: s11 :: s12 :: s13 :: s14 :: s15 :: s16 :: τ) H R :=
  wg_name d 16 rfl (.inl (loc_of hl)) (.inr (loc_of hl)) q
theorem we_n17 {n0 n1 n2 n3 n4 n5 n6 n7 n8 n9 n10 n11 n12 n13 n14 n15 n16 n17 : Str} {s0 s1 s2 s3 s4 s5 s6 s7 s8 s9 s10 s11 s12 s13 s14 s15 s16 : Option V} {τ : L2.St} (d : Def X G (n0 :: n1 :: n2 :: n3 :: n4 :: n5 :: n6 :: n7 :: n8 :: n9 :: n10 :: n11 :: n12 :: n13 :: n14 :: n15 :: n16 :: n17 :: N) sc k) (hv : visB sc n17 = true) (q : Q v H) (hd : (n17 == ("__debug__" : Str)) = false := by decide +kernel) (hc : (n17 == ("__classdict__" : Str)) = false := by decide +kernel) : WE X (.Name n17 pos) (s0 :: s1 :: s2 :: s3 :: s4 :: s5 :: s6 :: s7 :: s8 :: s9 :: s10 :: s11 :: s12 :: s13 :: s14 :: s15 :: s16 :: some v :: τ) H Q :=
  we_name d 17 rfl hv rfl q hd hc
theorem ws_s17 {n0 n1 n2 n3 n4 n5 n6 n7 n8 n9 n10 n11 n12 n13 n14 n15 n16 n17 : Str} {s0 s1 s2 s3 s4 s5 s6 s7 s8 s9 s10 s11 s12 s13 s14 s15 s16 s17 : Option V} {τ : L2.St} {pos' : Pos} (d : Fr X G (n0 :: n1 :: n2 :: n3 :: n4 :: n5 :: n6 :: n7 :: n8 :: n9 :: n10 :: n11 :: n12 :: n13 :: n14 :: n15 :: n16 :: n17 :: N) sc k W) (hl : cellB sc n17 = true) (hs : swapsWith e (some (.Name n17 pos')) pos.line X.env = pure false) (h : WE X e (s0 :: s1 :: s2 :: s3 :: s4 :: s5 :: s6 :: s7 :: s8 :: s9 :: s10 :: s11 :: s12 :: s13 :: s14 :: s15 :: s16 :: s17 :: τ) H fun v H1 => D.nx (s0 :: s1 :: s2 :: s3 :: s4 :: s5 :: s6 :: s7 :: s8 :: s9 :: s10 :: s11 :: s12 :: s13 :: s14 :: s15 :: s16 :: some v :: τ) H1) : WS X (.Assign [.Name n17 pos'] e pos) D (s0 :: s1 :: s2 :: s3 :: s4 :: s5 :: s6 :: s7 :: s8 :: s9 :: s10 :: s11 :: s12 :: s13 :: s14 :: s15 :: s16 :: s17 :: τ) H :=
  ws_set d 17 rfl (locs hl) hs h
theorem wg_n17 {n0 n1 n2 n3 n4 n5 n6 n7 n8 n9 n10 n11 n12 n13 n14 n15 n16 n17 : Str} {s0 s1 s2 s3 s4 s5 s6 s7 s8 s9 s10 s11 s12 s13 s14 s15 s16 s17 : Option V} {τ : L2.St} {R : L2.St → Hp → Prop} (d : Fr X G (n0 :: n1 :: n2 :: n3 :: n4 :: n5 :: n6 :: n7 :: n8 :: n9 :: n10 :: n11 :: n12 :: n13 :: n14 :: n15 :: n16 :: n17 :: N) sc k W) (hl : cellB sc n17 = true) (q : R (s0 :: s1 :: s2 :: s3 :: s4 :: s5 :: s6 :: s7 :: s8 :: s9 :: s10 :: s11 :: s12 :: s13 :: s14 :: s15 :: s16 :: some v :: τ) H) : WG X (.Name n17 pos) v (s0 :: s1 :: s2 :: s3 :: s4 :: s5 :: s6 :: s7 :: s8 :: s9 :: s10 :: s11 :: s12 :: s13 :: s14 :: s15 :: s16 :: s17 :: τ) H R :=
  wg_name d.toDef 17 rfl (locs hl) (.inl (d.fn _)) q
theorem wg_b17 {n0 n1 n2 n3 n4 n5 n6 n7 n8 n9 n10 n11 n12 n13 n14 n15 n16 n17 : Str} {s0 s1 s2 s3 s4 s5 s6 s7 s8 s9 s10 s11 s12 s13 s14 s15 s16 s17 : Option V} {τ : L2.St} {R : L2.St → Hp → Prop} (d : Def X G (n0 :: n1 :: n2 :: n3 :: n4 :: n5 :: n6 :: n7 :: n8 :: n9 :: n10 :: n11 :: n12 :: n13 :: n14 :: n15 :: n16 :: n17 :: N) sc k) (hl : locB sc n17 = true) (q : R (s0 :: s1 :: s2 :: s3 :: s4 :: s5 :: s6 :: s7 :: s8 :: s9 :: s10 :: s11 :: s12 :: s13 :: s14 :: s15 :: s16 :: some v :: τ) H) : WG X (.Name n17 pos) v (s0 :: s1 :: s2 :: s3 :: s4 :: s5 :: s6 :: s7 :: s8 :: s9 :: s10 :: s11 :: s12 :: s13 :: s14 :: s15 :: s16 :: s17 :: τ) H R :=
  wg_name d 17 rfl (.inl (loc_of hl)) (.inr (loc_of hl)) q
end
/-! ### operators by values -/
theorem ro_add (q : Q (.int (i + j)) H) : RO X (binaryOp .Add) (.int i) (.int j) H Q := ⟨_, op_add, i, j, rfl, rfl, q⟩
theorem ro_sub (q : Q (.int (i - j)) H) : RO X (binaryOp .Sub) (.int i) (.int j) H Q := ⟨_, op_sub, i, j, rfl, rfl, q⟩
theorem ro_mul (h : (-(2 ^ 64) < i ∧ i < 2 ^ 64) ∨ (-(2 ^ 64) < j ∧ j < 2 ^ 64)) (q : Q (.int (i * j)) H) : RO X (binaryOp .Mult) (.int i) (.int j) H Q := ⟨_, op_mul, i, j, rfl, rfl, h, q⟩
theorem ro_fdiv (h : 0 < j ∧ j < 1073741824) (q : Q (.int (i / j)) H) : RO X (binaryOp .FloorDiv) (.int i) (.int j) H Q := ⟨_, op_fdiv, i, j, rfl, rfl, h, q⟩
theorem ro_mod (h : 0 < j) (q : Q (.int (i % j)) H) : RO X (binaryOp .Mod) (.int i) (.int j) H Q := ⟨_, op_mod, i, j, rfl, rfl, h, q⟩
theorem ro_pow (h : 0 ≤ j ∧ j ≤ 1000000 ∧ i.natAbs < 2 ^ 64) (q : Q (.int (i ^ j.toNat)) H) : RO X (binaryOp .Pow) (.int i) (.int j) H Q := ⟨_, op_pow, i, j, rfl, rfl, h, q⟩
theorem ro_adds {z w : Str} (h : z.length + w.length ≤ sizeLine) (q : Q (.str (z ++ w)) H) : RO X (binaryOp .Add) (.str z) (.str w) H Q := ⟨_, op_add_str, z, w, rfl, rfl, h, q⟩
theorem ro_cat {p r : Addr} {xs ys : List V} (h1 : H p = some (.lst xs)) (h2 : H r = some (.lst ys)) (hl : xs.length + ys.length ≤ sizeLine) (q : ∀ l, H l = none → Q (.ref l) (upd H l (.lst (xs ++ ys)))) : RO X (binaryOp .Add) (.ref p) (.ref r) H Q :=
  ⟨_, op_cat, p, r, xs, ys, rfl, rfl, h1, h2, hl, q⟩
theorem ro_eq (h : scal x y = true) (q : Q (.bl (decide (x = y))) H) : RO X (compareOp .Eq) x y H Q := ⟨_, op_eq, h, q⟩
theorem ro_ne (h : scal x y = true) (q : Q (.bl (!decide (x = y))) H) : RO X (compareOp .NotEq) x y H Q := ⟨_, op_ne, h, q⟩
theorem dec_ii : decide (V.int i = V.int j) = decide (i = j) := by
  rw [Bool.eq_iff_iff]
  simp
theorem dec_ss {z w : Str} : decide (V.str z = V.str w) = decide (z = w) := by
  rw [Bool.eq_iff_iff]
  simp
theorem dec_bb {z w : Bool} : decide (V.bl z = V.bl w) = decide (z = w) := by
  rw [Bool.eq_iff_iff]
  simp
theorem ro_eqI (q : Q (.bl (decide (i = j))) H) : RO X (compareOp .Eq) (.int i) (.int j) H Q := ro_eq rfl (by rw [dec_ii]; exact q)
theorem ro_neI (q : Q (.bl (!decide (i = j))) H) : RO X (compareOp .NotEq) (.int i) (.int j) H Q := ro_ne rfl (by rw [dec_ii]; exact q)
theorem ro_eqS {z w : Str} (q : Q (.bl (decide (z = w))) H) : RO X (compareOp .Eq) (.str z) (.str w) H Q := ro_eq rfl (by rw [dec_ss]; exact q)
theorem ro_neS {z w : Str} (q : Q (.bl (!decide (z = w))) H) : RO X (compareOp .NotEq) (.str z) (.str w) H Q := ro_ne rfl (by rw [dec_ss]; exact q)
theorem ro_eqB {z w : Bool} (q : Q (.bl (decide (z = w))) H) : RO X (compareOp .Eq) (.bl z) (.bl w) H Q := ro_eq rfl (by rw [dec_bb]; exact q)
theorem ro_neB {z w : Bool} (q : Q (.bl (!decide (z = w))) H) : RO X (compareOp .NotEq) (.bl z) (.bl w) H Q := ro_ne rfl (by rw [dec_bb]; exact q)
theorem ro_lt (q : Q (.bl (decide (i < j))) H) : RO X (compareOp .Lt) (.int i) (.int j) H Q := ⟨_, op_lt, i, j, rfl, rfl, q⟩
theorem ro_le (q : Q (.bl (decide (i ≤ j))) H) : RO X (compareOp .LtE) (.int i) (.int j) H Q := ⟨_, op_le, i, j, rfl, rfl, q⟩
theorem ro_gt (q : Q (.bl (decide (j < i))) H) : RO X (compareOp .Gt) (.int i) (.int j) H Q := ⟨_, op_gt, i, j, rfl, rfl, q⟩
theorem ro_ge (q : Q (.bl (decide (j ≤ i))) H) : RO X (compareOp .GtE) (.int i) (.int j) H Q := ⟨_, op_ge, i, j, rfl, rfl, q⟩
theorem ro_isN (q : Q (.bl (decide (x = .non))) H) : RO X (compareOp .Is) x .non H Q := ⟨_, op_isN, rfl, q⟩
theorem ro_notN (q : Q (.bl (!decide (x = .non))) H) : RO X (compareOp .IsNot) x .non H Q := ⟨_, op_notN, rfl, q⟩
theorem ro_eqD (d : Def X G N sc k) {da db : PyData} (h1 : Dp G.K H x da) (h2 : Dp G.K H y db) (s1 : SeqAt.shaped da = true) (s2 : SeqAt.shaped db = true) (q : Q (.bl (PyData.eqv da db)) H) : RO X (compareOp .Eq) x y H Q :=
  ⟨_, op_eqD d.room.units, da, db, by rw [d.K]; exact h1, by rw [d.K]; exact h2, s1, s2, q⟩
theorem ro_neD (d : Def X G N sc k) {da db : PyData} (h1 : Dp G.K H x da) (h2 : Dp G.K H y db) (s1 : SeqAt.shaped da = true) (s2 : SeqAt.shaped db = true) (q : Q (.bl (!PyData.eqv da db)) H) : RO X (compareOp .NotEq) x y H Q :=
  ⟨_, op_neD d.room.units, da, db, by rw [d.K]; exact h1, by rw [d.K]; exact h2, s1, s2, q⟩
theorem ru_neg (q : Q (.int (-i)) H) : RU X (unaryOp .USub) (.int i) H Q := ⟨_, un_neg, i, rfl, q⟩

/-! ### built-ins by values -/
theorem rc_int (q : Q (.int i) H) : RC X (.type "int") [.int i] H Q := ⟨_, call_int1, .inl ⟨i, rfl, q⟩⟩
theorem rc_intB {z : Bool} (q : Q (.int (if z then 1 else 0)) H) : RC X (.type "int") [.bl z] H Q := ⟨_, call_int1, .inr ⟨z, rfl, q⟩⟩
theorem rc_abs (q : Q (.int (if i < 0 then -i else i)) H) : RC X (.builtin "abs") [.int i] H Q := ⟨_, call_abs, i, rfl, q⟩
theorem rc_lenL (d : Def X G N sc k) {p : Addr} {xs : List V} (h : SqL G.K H p xs) (q : Q (.int xs.length) H) : RC X (.builtin "len") [.ref p] H Q := ⟨_, call_len_seq, p, xs, rfl, .inl (by rw [d.K]; exact h), q⟩
theorem rc_lenT (d : Def X G N sc k) {p : Addr} {xs : List V} (h : SqT G.K H p xs) (q : Q (.int xs.length) H) : RC X (.builtin "len") [.ref p] H Q := ⟨_, call_len_seq, p, xs, rfl, .inr (by rw [d.K]; exact h), q⟩
theorem rc_lenS {z : Str} (h : z.length ≤ sizeLine) (q : Q (.int z.length) H) : RC X (.builtin "len") [.str z] H Q := ⟨_, call_len_str, z, rfl, h, q⟩
theorem rc_min2 (d : Def X G N sc k) (q : Q (.int (if j < i then j else i)) H) : RC X (.builtin "min") [.int i, .int j] H Q := ⟨_, call_min2 d.calm, i, j, rfl, q⟩
theorem rc_max2 (d : Def X G N sc k) (q : Q (.int (if j > i then j else i)) H) : RC X (.builtin "max") [.int i, .int j] H Q := ⟨_, call_max2 d.calm, i, j, rfl, q⟩
theorem rc_isi {cl : V} {t u : Value} {r : Bool} (d : Def X G N sc k) (h1 : ClsV cl u) (h2 : TyX G.K H x t) (h3 : PySem.W.kitOne G.K t u = some r) (q : Q (.bl r) H) : RC X (.builtin "isinstance") [x, cl] H Q :=
  ⟨_, call_isi, x, cl, t, u, r, rfl, h1, by rw [d.K]; exact h2, by rw [d.K]; exact h3, q⟩
theorem rc_isiT {tp : Addr} {cs : List V} {t : Value} {us : List Value} {r : Bool} (d : Def X G N sc k) (h0 : H tp = some (.tup cs)) (h1 : Paired ClsV cs us) (h2 : TyX G.K H x t) (h3 : PySem.W.kitAny G.K t us = some r) (q : Q (.bl r) H) : RC X (.builtin "isinstance") [x, .ref tp] H Q :=
  ⟨_, call_isiT, x, tp, cs, t, us, r, rfl, h0, h1, by rw [d.K]; exact h2, by rw [d.K]; exact h3, q⟩

/-! ### methods by values -/
theorem rm_append {l : Addr} {xs : List V} (h : H l = some (.lst xs)) (hl : xs.length < sizeLine) (q : Q .non (upd H l (.lst (xs ++ [y])))) : RM X "list.append" (.ref l) [y] H Q := ⟨_, mt_append, l, xs, y, rfl, rfl, h, hl, q⟩
theorem rm_pop0 {l : Addr} {y : V} {xs : List V} (h : H l = some (.lst (y :: xs))) (q : Q y (upd H l (.lst xs))) : RM X "list.pop" (.ref l) [.int 0] H Q :=
  ⟨_, mt_popAt, l, y :: xs, 0, 0, y, rfl, rfl, h, by decide, by decide, by unfold seqIndex?; simp, rfl, q⟩
theorem rm_insert {l : Addr} {xs : List V} (h : H l = some (.lst xs)) (hl : xs.length < sizeLine) (h0 : 0 ≤ i) (h1 : i < 2 ^ 63) (q : Q .non (upd H l (.lst (xs.take i.toNat ++ [y] ++ xs.drop i.toNat)))) : RM X "list.insert" (.ref l) [.int i, y] H Q :=
  ⟨_, mt_insert, l, xs, i, y, rfl, rfl, h, hl, h0, h1, q⟩
theorem ty_list {K : PySem.W.Frag} {l : Addr} {xs : List V} (h : H l = some (.lst xs)) : tyV K "list" (.ref l) H := .inl ⟨rfl, xs, SqL.of h⟩
theorem ite_t {A B : Prop} (h : A) : if true = true then A else B := by rw [if_pos rfl]; exact h
theorem ite_f {A B : Prop} (h : B) : if false = true then A else B := by rw [if_neg Bool.false_ne_true]; exact h
theorem ite_b {A B : Prop} {z : Bool} (h1 : z = true → A) (h2 : z = false → B) : if z = true then A else B := by
  cases z with
  | true => exact ite_t (h1 rfl)
  | false => exact ite_f (h2 rfl)
end
end Wx

namespace Wx
open PySem L2
/-- the library's rule for a def, said in these words: the body's wish at the parameters' values -/
theorem fn_by {G : Gb} {x qual : Str} {st : Stmt} {f : Addr} {fd : FuncData} {N ps : List Str} {k : Nat} {sp : Sp} (F : Fun G.K x qual st f fd) (S : FnScope N ps (defScope st)) (len : ∀ vs H Q E, sp vs H Q E → vs.length = ps.length)
    (body : ∀ (X : Cx) (vs : List V) (H : Hp) (Q : VK) (E : XK), Fr X G N (defScope st) k (fun c o _ H' => E c o H') → sp vs H Q E → WB X (defBody st) { nx := fun _ H' => Q .non H', rt := Q } (start N vs) H) :
    FnOk G.prog G.w G.K G.mg G.base (L2.CX G.prog G.w) (k + 1) f fd ps sp := by
  refine F.okX S len fun cdv A outer s H vs Q E hr h => ⟨_, pss_wb, body _ vs H Q E ?_ h⟩
  exact { prog := rfl, w := rfl, K := rfl, mg := rfl, base := rfl, n := rfl, sc := rfl, nd := S.nd, calm := rfl, room := hr, fn := fun _ => rfl, own := passes_of rfl, tk := takes_of rfl rfl rfl rfl, stk := rfl, frm := rfl, ex := rfl }
/-- a def of the text that stands at its name, with its parameters -/
structure Top (G : Gb) (x : Str) (st : Stmt) (ps : List Str) : Prop where
  is : ∃ (f : Addr) (fd : FuncData), G.mg x = some (.ref f) ∧ Fun G.K x x st f fd ∧ Binds G.K fd ps []
  pn : ps = (defArgs st).args.map (·.arg)
theorem Top.names {G : Gb} {x : Str} {st : Stmt} {ps : List Str} {f : Addr} {fd : FuncData} (T : Top G x st ps) (F : Fun G.K x x st f fd) : ps = fd.params.args.map (·.arg) := by
  obtain ⟨_, _, _, _, _, _, _, _, _, e, _, _⟩ := F.ex
  rw [e]
  exact T.pn
theorem Top.fn {G : Gb} {x : Str} {st : Stmt} {N ps : List Str} {k : Nat} {sp : Sp} (T : Top G x st ps) (S : FnScope N ps (defScope st)) (len : ∀ vs H Q E, sp vs H Q E → vs.length = ps.length)
    (body : ∀ (X : Cx) (vs : List V) (H : Hp) (Q : VK) (E : XK), Fr X G N (defScope st) k (fun c o _ H' => E c o H') → sp vs H Q E → WB X (defBody st) { nx := fun _ H' => Q .non H', rt := Q } (start N vs) H) :
    Fn G x ps.length (k + 1) sp := by
  obtain ⟨f, fd, h, F, b⟩ := T.is
  exact ⟨f, fd, ps, h, F.kp, fn_by F S len body, b, rfl, T.names F, _, F⟩
theorem fun_one {K : PySem.W.Frag} {x y : Str} {st st' : Stmt} {f : Addr} {fd fd' : FuncData} (F : Fun K x x st f fd) (F' : Fun K y y st' f fd') : fd = fd' := by
  obtain ⟨_, _, _, _, _, _, _, _, _, _, l, _⟩ := F.ex
  obtain ⟨_, _, _, _, _, _, _, _, _, _, l', _⟩ := F'.ex
  have e := l.symm.trans l'
  injection e with e
  injection e with _ _ e _
  injection e
/-- the def at its name, called with keywords -/
theorem Top.fnk {G : Gb} {x : Str} {st : Stmt} {ps ks : List Str} {n k : Nat} {sp : Sp} {gV : List V → List V → List V} (T : Top G x st ps) (F : Fn G x n k sp) (g : List Value → List Value → List Value)
    (hb : ∀ (kV doc pm : Value) (an : Option Addr) (cdv ct : Value) (us ws : List Value), (g us ws).length = ps.length → bindArgs (PySem.W.fnOf x x (defArgs st) (defBody st) (defScope st) .none kV doc pm an cdv ct) { pos := us, kw := ks.zip ws } = pure (ps.zip (g us ws)))
    (rel : ∀ {vs : List V} {us : List Value} {zs : List V} {ws : List Value}, Vals vs us → Vals zs ws → Vals (gV vs zs) (g us ws)) : FnK G x ks gV k sp := by
  obtain ⟨f, fd, h, F1, _⟩ := T.is
  obtain ⟨f', fd', ps', h', kp, ok, _, _, e2, st', F2⟩ := F.is
  have e := h.symm.trans h'
  injection e with e
  injection e with e
  subst e
  have e3 := fun_one F1 F2
  subst e3
  have e4 : ps' = ps := e2.trans (T.names F1).symm
  subst e4
  refine ⟨f, fd, ps', g, h, kp, ok, ⟨fun s us ws _ hl => ?_, rel⟩⟩
  obtain ⟨_, _, kV, doc, pm, an, cdv, ct, _, e, _, _⟩ := F1.ex
  rw [e]
  exact BindsTo.of_eq (hb kV doc pm an cdv ct us ws hl)
end Wx

namespace Wx
open PySem L2
/-- the built-in names that no def of the text shadows -/
structure Bi (mg : Str → Option Value) : Prop where
  b_int : mg "int" = none
  b_bool : mg "bool" = none
  b_str : mg "str" = none
  b_list : mg "list" = none
  b_tuple : mg "tuple" = none
  b_set : mg "set" = none
  b_dict : mg "dict" = none
  b_type : mg "type" = none
  b_len : mg "len" = none
  b_isinstance : mg "isinstance" = none
  b_abs : mg "abs" = none
  b_min : mg "min" = none
  b_max : mg "max" = none
  b_any : mg "any" = none
  b_all : mg "all" = none
  b_sum : mg "sum" = none
  b_sorted : mg "sorted" = none
  b_repr : mg "repr" = none
  b_range : mg "range" = none
  b_enumerate : mg "enumerate" = none
  b_zip : mg "zip" = none
  b_reversed : mg "reversed" = none
  b_ValueError : mg "ValueError" = none
section
variable {X : Cx} {e : Expr} {es : List Expr} {σ : L2.St} {H : Hp} {Q : VK} {pos p : Pos} {G : Gb} {N : List Str} {sc : Scope} {k : Nat}
theorem we_c_int (d : Def X G N sc k) (b : Bi G.mg) (hg : glB sc "int" = true) (he : ns e = true) (hpl : nss es = true) (h : WA X (e :: es) σ H fun vs H1 => RC X (.type "int") vs H1 Q) : WE X (.Call (.Name "int" p) (e :: es) [] pos) σ H Q := we_callTy d hg b.b_int (by decide +kernel) he hpl h
theorem we_c_bool (d : Def X G N sc k) (b : Bi G.mg) (hg : glB sc "bool" = true) (he : ns e = true) (hpl : nss es = true) (h : WA X (e :: es) σ H fun vs H1 => RC X (.type "bool") vs H1 Q) : WE X (.Call (.Name "bool" p) (e :: es) [] pos) σ H Q := we_callTy d hg b.b_bool (by decide +kernel) he hpl h
theorem we_c_str (d : Def X G N sc k) (b : Bi G.mg) (hg : glB sc "str" = true) (he : ns e = true) (hpl : nss es = true) (h : WA X (e :: es) σ H fun vs H1 => RC X (.type "str") vs H1 Q) : WE X (.Call (.Name "str" p) (e :: es) [] pos) σ H Q := we_callTy d hg b.b_str (by decide +kernel) he hpl h
theorem we_c_list (d : Def X G N sc k) (b : Bi G.mg) (hg : glB sc "list" = true) (he : ns e = true) (hpl : nss es = true) (h : WA X (e :: es) σ H fun vs H1 => RC X (.type "list") vs H1 Q) : WE X (.Call (.Name "list" p) (e :: es) [] pos) σ H Q := we_callTy d hg b.b_list (by decide +kernel) he hpl h
theorem we_c_tuple (d : Def X G N sc k) (b : Bi G.mg) (hg : glB sc "tuple" = true) (he : ns e = true) (hpl : nss es = true) (h : WA X (e :: es) σ H fun vs H1 => RC X (.type "tuple") vs H1 Q) : WE X (.Call (.Name "tuple" p) (e :: es) [] pos) σ H Q := we_callTy d hg b.b_tuple (by decide +kernel) he hpl h
theorem we_c_set (d : Def X G N sc k) (b : Bi G.mg) (hg : glB sc "set" = true) (he : ns e = true) (hpl : nss es = true) (h : WA X (e :: es) σ H fun vs H1 => RC X (.type "set") vs H1 Q) : WE X (.Call (.Name "set" p) (e :: es) [] pos) σ H Q := we_callTy d hg b.b_set (by decide +kernel) he hpl h
theorem we_c_dict (d : Def X G N sc k) (b : Bi G.mg) (hg : glB sc "dict" = true) (he : ns e = true) (hpl : nss es = true) (h : WA X (e :: es) σ H fun vs H1 => RC X (.type "dict") vs H1 Q) : WE X (.Call (.Name "dict" p) (e :: es) [] pos) σ H Q := we_callTy d hg b.b_dict (by decide +kernel) he hpl h
theorem we_c_type (d : Def X G N sc k) (b : Bi G.mg) (hg : glB sc "type" = true) (he : ns e = true) (hpl : nss es = true) (h : WA X (e :: es) σ H fun vs H1 => RC X (.type "type") vs H1 Q) : WE X (.Call (.Name "type" p) (e :: es) [] pos) σ H Q := we_callTy d hg b.b_type (by decide +kernel) he hpl h
theorem we_c_len (d : Def X G N sc k) (b : Bi G.mg) (hg : glB sc "len" = true) (he : ns e = true) (hpl : nss es = true) (h : WA X (e :: es) σ H fun vs H1 => RC X (.builtin "len") vs H1 Q) : WE X (.Call (.Name "len" p) (e :: es) [] pos) σ H Q := we_callB d hg b.b_len (by decide +kernel) he hpl h
theorem we_c_isinstance (d : Def X G N sc k) (b : Bi G.mg) (hg : glB sc "isinstance" = true) (he : ns e = true) (hpl : nss es = true) (h : WA X (e :: es) σ H fun vs H1 => RC X (.builtin "isinstance") vs H1 Q) : WE X (.Call (.Name "isinstance" p) (e :: es) [] pos) σ H Q := we_callB d hg b.b_isinstance (by decide +kernel) he hpl h
theorem we_c_abs (d : Def X G N sc k) (b : Bi G.mg) (hg : glB sc "abs" = true) (he : ns e = true) (hpl : nss es = true) (h : WA X (e :: es) σ H fun vs H1 => RC X (.builtin "abs") vs H1 Q) : WE X (.Call (.Name "abs" p) (e :: es) [] pos) σ H Q := we_callB d hg b.b_abs (by decide +kernel) he hpl h
theorem we_c_min (d : Def X G N sc k) (b : Bi G.mg) (hg : glB sc "min" = true) (he : ns e = true) (hpl : nss es = true) (h : WA X (e :: es) σ H fun vs H1 => RC X (.builtin "min") vs H1 Q) : WE X (.Call (.Name "min" p) (e :: es) [] pos) σ H Q := we_callB d hg b.b_min (by decide +kernel) he hpl h
theorem we_c_max (d : Def X G N sc k) (b : Bi G.mg) (hg : glB sc "max" = true) (he : ns e = true) (hpl : nss es = true) (h : WA X (e :: es) σ H fun vs H1 => RC X (.builtin "max") vs H1 Q) : WE X (.Call (.Name "max" p) (e :: es) [] pos) σ H Q := we_callB d hg b.b_max (by decide +kernel) he hpl h
theorem we_c_any (d : Def X G N sc k) (b : Bi G.mg) (hg : glB sc "any" = true) (he : ns e = true) (hpl : nss es = true) (h : WA X (e :: es) σ H fun vs H1 => RC X (.builtin "any") vs H1 Q) : WE X (.Call (.Name "any" p) (e :: es) [] pos) σ H Q := we_callB d hg b.b_any (by decide +kernel) he hpl h
theorem we_c_all (d : Def X G N sc k) (b : Bi G.mg) (hg : glB sc "all" = true) (he : ns e = true) (hpl : nss es = true) (h : WA X (e :: es) σ H fun vs H1 => RC X (.builtin "all") vs H1 Q) : WE X (.Call (.Name "all" p) (e :: es) [] pos) σ H Q := we_callB d hg b.b_all (by decide +kernel) he hpl h
theorem we_c_sum (d : Def X G N sc k) (b : Bi G.mg) (hg : glB sc "sum" = true) (he : ns e = true) (hpl : nss es = true) (h : WA X (e :: es) σ H fun vs H1 => RC X (.builtin "sum") vs H1 Q) : WE X (.Call (.Name "sum" p) (e :: es) [] pos) σ H Q := we_callB d hg b.b_sum (by decide +kernel) he hpl h
theorem we_c_sorted (d : Def X G N sc k) (b : Bi G.mg) (hg : glB sc "sorted" = true) (he : ns e = true) (hpl : nss es = true) (h : WA X (e :: es) σ H fun vs H1 => RC X (.builtin "sorted") vs H1 Q) : WE X (.Call (.Name "sorted" p) (e :: es) [] pos) σ H Q := we_callB d hg b.b_sorted (by decide +kernel) he hpl h
theorem we_c_repr (d : Def X G N sc k) (b : Bi G.mg) (hg : glB sc "repr" = true) (he : ns e = true) (hpl : nss es = true) (h : WA X (e :: es) σ H fun vs H1 => RC X (.builtin "repr") vs H1 Q) : WE X (.Call (.Name "repr" p) (e :: es) [] pos) σ H Q := we_callB d hg b.b_repr (by decide +kernel) he hpl h
end
end Wx

namespace Wx
open PySem L2
/-! ### the laws' draw: a dict of two lists and two numbers -/
def D4 (aw ac : Addr) (r t : Int) : List (Key × V) := [(.inr "wide", .ref aw), (.inr "cells", .ref ac), (.inr "rest", .int r), (.inr "turn", .int t)]
theorem d4_wide {aw ac : Addr} {r t : Int} : valV (D4 aw ac r t) (.inr "wide") = some (.ref aw) := rfl
theorem d4_cells {aw ac : Addr} {r t : Int} : valV (D4 aw ac r t) (.inr "cells") = some (.ref ac) := rfl
theorem d4_rest {aw ac : Addr} {r t : Int} : valV (D4 aw ac r t) (.inr "rest") = some (.int r) := rfl
theorem d4_turn {aw ac : Addr} {r t : Int} : valV (D4 aw ac r t) (.inr "turn") = some (.int t) := rfl
theorem d4_put_rest {aw ac : Addr} {r t z : Int} : putK (D4 aw ac r t) (.inr "rest") (.int z) = D4 aw ac z t := rfl
theorem d4_put_turn {aw ac : Addr} {r t z : Int} : putK (D4 aw ac r t) (.inr "turn") (.int z) = D4 aw ac r z := rfl
theorem d4_make {aw ac : Addr} {r t : Int} : mergeK [] [(Sum.inr ("wide" : Str), V.ref aw), (Sum.inr ("cells" : Str), V.ref ac), (Sum.inr ("rest" : Str), V.int r), (Sum.inr ("turn" : Str), V.int t)] = D4 aw ac r t := rfl
/-- the draw at d, its lists apart from all that H0 knows; t turns of at most B -/
structure DrawIs (H : Hp) (d aw ac : Addr) (ws cs : List Int) (r t : Int) (B : Nat) : Prop where
  hd : H d = some (.dK (D4 aw ac r t))
  hw : H aw = some (.lst (ws.map V.int))
  hc : H ac = some (.lst (cs.map V.int))
  t0 : 0 ≤ t
  tB : t ≤ B
  cB : ∀ c ∈ cs, 0 ≤ c ∧ c < 2147483648
  wl : ws.length ≤ 63
  ne : aw ≠ ac
structure DrawAt (H0 H : Hp) (d : Addr) (B : Nat) : Prop where
  same : Same H0 H
  nd : H0 d = none
  is : ∃ (aw ac : Addr) (ws cs : List Int) (r t : Int), H0 aw = none ∧ H0 ac = none ∧ DrawIs H d aw ac ws cs r t B
theorem DrawAt.mono {H0 H : Hp} {d : Addr} {B C : Nat} (h : DrawAt H0 H d B) (l : B ≤ C) : DrawAt H0 H d C := by
  obtain ⟨s, n, aw, ac, ws, cs, r, t, n1, n2, I⟩ := h
  exact ⟨s, n, aw, ac, ws, cs, r, t, n1, n2, { I with tB := by have := I.tB; omega }⟩
/-- an object is laid beside the draw -/
theorem DrawAt.laid {H0 H : Hp} {d : Addr} {B : Nat} (h : DrawAt H0 H d B) {p : Addr} {o : HO} (hp : H p = none) : DrawAt (upd H0 p o) (upd H p o) d B := by
  obtain ⟨s, n, aw, ac, ws, cs, r, t, n1, n2, I⟩ := h
  have e1 : d ≠ p := ne_of_none I.hd hp
  have e2 : aw ≠ p := ne_of_none I.hw hp
  have e3 : ac ≠ p := ne_of_none I.hc hp
  refine ⟨fun b u q => ?_, by rw [upd_ne e1]; exact n, aw, ac, ws, cs, r, t, by rw [upd_ne e2]; exact n1, by rw [upd_ne e3]; exact n2, ⟨by rw [upd_ne e1]; exact I.hd, by rw [upd_ne e2]; exact I.hw, by rw [upd_ne e3]; exact I.hc, I.t0, I.tB, I.cB, I.wl, I.ne⟩⟩
  by_cases e : b = p
  · subst e
    rw [upd_same] at q ⊢
    exact q
  · rw [upd_ne e] at q ⊢
    exact s b u q
/-- .. or forgotten -/
theorem DrawAt.less {H0 H1 H : Hp} {d : Addr} {B : Nat} (h : DrawAt H1 H d B) (s : Same H0 H1) : DrawAt H0 H d B := by
  obtain ⟨s1, n, aw, ac, ws, cs, r, t, n1, n2, I⟩ := h
  exact ⟨s.trans s1, s.free n, aw, ac, ws, cs, r, t, s.free n1, s.free n2, I⟩
/-- all that stands stays: the draw too -/
theorem DrawAt.keep {H0 H H' : Hp} {d : Addr} {B : Nat} (h : DrawAt H0 H d B) (s : Same H H') : DrawAt H0 H' d B := by
  obtain ⟨s1, n, aw, ac, ws, cs, r, t, n1, n2, I⟩ := h
  exact ⟨s1.trans s, n, aw, ac, ws, cs, r, t, n1, n2, ⟨s _ _ I.hd, s _ _ I.hw, s _ _ I.hc, I.t0, I.tB, I.cB, I.wl, I.ne⟩⟩
/-- take(draw, many): some number from 0 to below many, one turn more at most -/
def spTake : Sp := fun vs H Q _ => ∃ (H0 : Hp) (d : Addr) (B : Nat) (many : Int), vs = [.ref d, .int many] ∧ DrawAt H0 H d B ∧ B < 1000000000000 ∧ 0 < many ∧ many < 1073741824 ∧
  ∀ (n : Int) (H' : Hp), 0 ≤ n → n < many → DrawAt H0 H' d (B + 1) → Q (.int n) H'
/-- mixed(draw): some number -/
def spMixed : Sp := fun vs H Q _ => ∃ (d aw ac : Addr) (ws cs : List Int) (r t : Int) (B : Nat), vs = [.ref d] ∧ DrawIs H d aw ac ws cs r t B ∧ B < 2000000000000 ∧
  ∀ (n : Int) (H' : Hp), Same (upd H d (.dK (D4 aw ac r (t + 1)))) H' → Q (.int n) H'
end Wx
namespace Wx
open PySem L2
section
variable {X : Cx} {G : Gb} {N : List Str} {sc : Scope} {k : Nat} {W : WX} {σ : L2.St} {H : Hp} {D : Ends} {a b : Expr} {x y : Str} {pos : Pos}
theorem env_sc {P : Env → Prop} {sc : Scope} (h : ∀ env : Env, P { env with scope := sc }) {env : Env} (e : env.scope = sc) : P env := by
  have q := h env
  rw [← e] at q
  exact q
theorem ws_par2 (d : Fr X G N sc k W) (i j : Nat) {px py pt : Pos} {kt k2 pt2} (h1 : N[i]? = some x) (h2 : N[j]? = some y) (hij : i ≠ j) (hx : locB sc x = true) (hy : locB sc y = true)
    (hw : ∀ env : Env, swappedStores [.Tuple [.Name x px, .Name y py] kt pt] (.Tuple [a, b] k2 pt2) { env with scope := sc } = pure (some [x, y]))
    (hs : swapsWithSole [.Tuple [.Name x px, .Name y py] kt pt] (.Tuple [a, b] k2 pt2) pos.line X.env = pure false)
    (h : WE X a σ H fun v H1 => WE X b σ H1 fun w H2 => D.nx ((σ.set i (some v)).set j (some w)) H2) (sa : ns a = true) (sb : ns b = true) : WS X (.Assign [.Tuple [.Name x px, .Name y py] kt pt] (.Tuple [a, b] k2 pt2) pos) D σ H := by
  refine ws_of (ps_par (i := i) (j := j) (ta := WA X [a, b]) d.calm (by rw [d.n]; exact d.nd) (by rw [d.n]; exact h1) (by rw [d.n]; exact h2) hij (by rw [d.sc]; exact loc_of hx) (by rw [d.sc]; exact loc_of hy) pa_wa
    (env_sc (P := fun env => swappedStores [.Tuple [.Name x px, .Name y py] kt pt] (.Tuple [a, b] k2 pt2) env = pure (some [x, y])) hw d.sc) hs) ?_
  show WA X [a, b] σ H _
  refine wa_cons sa (we_mono (fun v H1 q => wa_cons sb (we_mono (fun w H2 q => wa_nil ⟨v, w, rfl, q⟩) q)) h)

theorem dgk {kvs : List (Key × V)} {p : Addr} {z : Str} {v : V} (e : H p = some (.dK kvs)) (hv : valV kvs (Sum.inr z) = some v) : DGet H p (.str z) (some v) := by rw [← hv]; exact DGet.k (k := Sum.inr z) e
theorem dpk {kvs kvs' : List (Key × V)} {p : Addr} {z : Str} {v : V} (e : H p = some (.dK kvs)) (hl : kvs.length < sizeLine) (hp : putK kvs (Sum.inr z) v = kvs') : DPut H p (.str z) v (upd H p (.dK kvs')) := by rw [← hp]; exact DPut.k (k := Sum.inr z) e hl
theorem d4_len {aw ac : Addr} {r t : Int} : (D4 aw ac r t).length < sizeLine := by show 4 < sizeLine; decide
theorem len_le {n : Nat} (h : n ≤ 100000) : n ≤ sizeLine := Nat.le_trans h (by decide)
theorem len_lt {n : Nat} (h : n < 100000) : n < sizeLine := Nat.lt_of_lt_of_le h (by decide)
theorem same_new {H : Hp} {p : Addr} {o : HO} (h : H p = none) : Same H (upd H p o) := fun b u e => by
  rw [upd_ne (ne_of_none e h)]
  exact e
/-- the draw behind a change of its dict alone, all else kept -/
theorem DrawIs.step {H H' : Hp} {d aw ac : Addr} {ws cs : List Int} {r t r' t' : Int} {B C : Nat} (I : DrawIs H d aw ac ws cs r t B) (h0 : 0 ≤ t') (hB : t' ≤ C) (k : Same (upd H d (.dK (D4 aw ac r' t'))) H') : DrawIs H' d aw ac ws cs r' t' C := by
  have e1 : aw ≠ d := ne_of I.hw I.hd (by intro q; cases q)
  have e2 : ac ≠ d := ne_of I.hc I.hd (by intro q; cases q)
  exact ⟨k _ _ upd_same, k _ _ (by rw [upd_ne e1]; exact I.hw), k _ _ (by rw [upd_ne e2]; exact I.hc), h0, hB, I.cB, I.wl, I.ne⟩
/-- .. behind a pop of its wide numbers -/
theorem DrawIs.pop {H H' : Hp} {d aw ac : Addr} {z : Int} {ws cs : List Int} {r t r' : Int} {B : Nat} (I : DrawIs H d aw ac (z :: ws) cs r t B) (k : Same (upd (upd H aw (.lst (ws.map V.int))) d (.dK (D4 aw ac r' t))) H') : DrawIs H' d aw ac ws cs r' t B := by
  have e1 : aw ≠ d := ne_of I.hw I.hd (by intro q; cases q)
  have e2 : ac ≠ d := ne_of I.hc I.hd (by intro q; cases q)
  exact ⟨k _ _ upd_same, k _ _ (by rw [upd_ne e1, upd_same]), k _ _ (by rw [upd_ne e2, upd_ne I.ne.symm]; exact I.hc), I.t0, I.tB, I.cB, by have := I.wl; rw [List.length_cons] at this; omega, I.ne⟩
theorem DrawIs.keep {H H' : Hp} {d aw ac : Addr} {ws cs : List Int} {r t : Int} {B C : Nat} (I : DrawIs H d aw ac ws cs r t B) (hB : B ≤ C) (k : Same H H') : DrawIs H' d aw ac ws cs r t C :=
  ⟨k _ _ I.hd, k _ _ I.hw, k _ _ I.hc, I.t0, by have := I.tB; omega, I.cB, I.wl, I.ne⟩
theorem same_upd {H0 H : Hp} {p : Addr} {o : HO} (s : Same H0 H) (n : H0 p = none) : Same H0 (upd H p o) := fun b u e => by
  rw [upd_ne (ne_of_none e n)]
  exact s b u e
theorem dp_ints {K : PySem.W.Frag} {H : Hp} {a : Addr} {ns : List Int} (h : SqL K H a (ns.map V.int)) : Dp K H (.ref a) (.list (ns.map PyData.int)) := by
  refine .lst h ?_
  clear h
  induction ns with
  | nil => exact .nil
  | cons n ns ih => exact .cons (.int n) ih
theorem lay_ints : ∀ (ns : List Int), PyData.canLayAll0 (ns.map PyData.int) = true ∧ PyData.depthAll (ns.map PyData.int) = 0
  | [] => ⟨rfl, rfl⟩
  | n :: ns => by
    obtain ⟨h1, h2⟩ := lay_ints ns
    refine ⟨?_, ?_⟩
    · show (true && PyData.canLayAll0 (ns.map PyData.int)) = true
      rw [h1] <;> rfl
    · show max 0 (PyData.depthAll (ns.map PyData.int)) = 0
      rw [h2] <;> rfl
theorem shaped_ints (ns : List Int) : SeqAt.shaped (.list (ns.map PyData.int)) = true := by
  obtain ⟨h1, h2⟩ := lay_ints ns
  show (PyData.canLayAll0 (ns.map PyData.int) && decide (PyData.depthAll (ns.map PyData.int) + 1 ≤ 64)) = true
  rw [h1, h2] <;> rfl
theorem eqv_nil {ns : List Int} : PyData.eqv (.list (ns.map PyData.int)) (.list []) = ns.isEmpty := by
  cases ns <;> rfl
/-- pick(draw, some): one item of the list -/
def spPick (K : PySem.W.Frag) : Sp := fun vs H Q _ => ∃ (H0 : Hp) (d l : Addr) (B : Nat) (xs : List V), vs = [.ref d, .ref l] ∧ DrawAt H0 H d B ∧ B < 1000000000000 ∧ SqL K H0 l xs ∧ 0 < xs.length ∧ xs.length < 1073741824 ∧
  ∀ (i : Nat) (x : V) (H' : Hp), xs[i]? = some x → DrawAt H0 H' d (B + 1) → Q x H'
/-- begun(script): a new draw, no turn taken -/
def spBegun (K : PySem.W.Frag) : Sp := fun vs H Q _ => ∃ (a : Addr) (ns : List Int), vs = [.ref a] ∧ SqL K H a (ns.map V.int) ∧ ns.length ≤ 63 ∧ ∀ (d : Addr) (H' : Hp), DrawAt H H' d 0 → Q (.ref d) H'
theorem int_of_map {ns : List Int} {i : Nat} {x : V} (h : (ns.map V.int)[i]? = some x) : ∃ n, ns[i]? = some n ∧ x = .int n := by
  rw [List.getElem?_map] at h
  cases e : ns[i]? with
  | none => rw [e] at h; cases h
  | some n => rw [e] at h; exact ⟨n, rfl, (Option.some.inj h).symm⟩
theorem map_app {ns : List Int} {n : Int} : ns.map V.int ++ [V.int n] = (ns ++ [n]).map V.int := by rw [List.map_append] <;> rfl
end
end Wx

/-! A caught exception as a value: behind the clause its object is tracked, by its class and its own dict. -/
namespace Wx
open PySem L2
/-- the exception object at a: its class, its own dict -/
def ExV (a : Addr) (cls : Value) (d : Option Addr) : HO :=
  .ext fun h => ∃ (oe : Obj) (vs : Array Value), h.get? a = some oe ∧ Zc cls d oe ∧ oe.data = .fields vs
theorem exV_ok {P : Program} {w : World} {H : Hp} {h : Heap} {a : Addr} {cls : Value} {d : Option Addr} {oe : Obj} {vs : Array Value} (e : h.get? a = some oe) (z : Zc cls d oe) (f : oe.data = .fields vs) :
    ObjOk P w H h a (ExV a cls d) :=
  ⟨⟨oe, vs, e, z, f⟩, ⟨oe, e⟩, fun h1 h2 ⟨ob, us, e1, z1, f1⟩ keep => ⟨ob, us, keep _ e1, z1, f1⟩⟩
section
variable {X : Cx} {pins : List (Addr × Obj)} {σ : L2.St} {H : Hp} {sI s : Shared}
/-- an exception's object that came after the state sI is tracked from now on -/
theorem track {a : Addr} {cls : Value} {d : Option Addr} {oe : Obj} {vs : Array Value} (I : L2.Inv X pins σ H sI) (J : L2.Inv X pins σ H s) (hx : X.ex = []) (new : sI.heap.get? a = none) (na : H a = none) (nL : a ≠ X.env.locals)
    (e : s.heap.get? a = some oe) (z : Zc cls d oe) (f : oe.data = .fields vs) : L2.Inv X pins σ (upd H a (ExV a cls d)) s := by
  have old : X.s_0.heap.get? a = none := by
    cases q : X.s_0.heap.get? a with
    | none => rfl
    | some o =>
      obtain ⟨o', q'⟩ := I.base.there a o q (by rw [hx]; exact List.not_mem_nil)
      rw [new] at q'
      cases q'
  have apart : ∀ b o, X.s_0.heap.get? b = some o → b ≠ a := fun b o q n => by
    rw [n, old] at q
    cases q
  have cellNe : ∀ x c, X.env.cells.lookup x = some c → c ≠ a := fun x c q n => by
    obtain ⟨v, oc, h1, h2⟩ := J.cell x c q
    rw [n, e] at h1
    cases h1
    rw [f] at h2
    cases h2
  refine { J with base := ?_, free := ?_, freeC := fun x c q => ?_, pin := fun p hp => ?_, hok := fun b o q => ?_ }
  · exact { J.base with
      free := fun b o q n x => by rw [upd_ne (apart b o q)]; exact J.base.free b o q n x
      tups := fun b xs q => by rw [upd_ne (ne_of_none (J.base.tups b xs q) na)]; exact J.base.tups b xs q
      frzs := fun b o u q => by rw [upd_ne (ne_of_none (J.base.frzs b o u q) na)]; exact J.base.frzs b o u q
      tbls := fun b ps q => by
        obtain ⟨more, q'⟩ := J.base.tbls b ps q
        exact ⟨more, by rw [upd_ne (ne_of_none q' na)]; exact q'⟩ }
  · rw [upd_ne nL.symm]
    exact J.free
  · rw [upd_ne (cellNe x c q)]
    exact J.freeC x c q
  · obtain ⟨h1, h2, h3, h4, h5⟩ := J.pin p hp
    refine ⟨h1, ?_, h3, h4, h5⟩
    have ne : p.1 ≠ a := fun n => by
      have q := (I.pin p hp).1
      rw [n, new] at q
      cases q
    rw [upd_ne ne]
    exact h2
  · by_cases n : b = a
    · subst n
      rw [upd_same] at q
      cases q
      exact exV_ok e z f
    · rw [upd_ne n] at q
      exact (J.hok b o q).stay (fun _ _ _ q => q) (fun c q => by rw [upd_ne (ne_of_none q na)]; exact q) fun c xs q => by
        rw [upd_ne (ne_of_none q na)]
        exact q
/-- what such a clause wishes of an exception of the body: it is of the class c, and what follows goes on with the exception at a in the slot m (the clause's own name, slot i, is gone) -/
def wV (K : PySem.W.Frag) (c : Value) (i m : Nat) (D : Ends) : WX := fun cls d σ H => PySem.W.exmOne K cls c = some true ∧
  ∀ a, H a = none → D.nx (((σ.set i (some (.ref a))).set m (some (.ref a))).set i none) (upd H a (ExV a cls d))
variable {G : Gb} {N : List Str} {sc : Scope} {k : Nat} {W : WX} {D : Ends}
theorem Fr.suiteInv (d : Fr X G N sc k W) {a : Addr} (J : L2.Inv X pins σ H s) : L2.Inv (X.suite a (X.pn ++ pins)) [] σ H s :=
  ⟨J.ok.suite _ _, J.os, J.bare, J.base, J.loc, J.cell, J.free, J.freeC, fun p hp => J.pin p (by rw [List.append_nil] at hp; exact hp), J.hok, J.len⟩
theorem unsuiteInv {a : Addr} {pn' : List (Addr × Obj)} (J : L2.Inv (X.suite a (X.pn ++ pins)) pn' σ H s) (ok : X.Ok) : L2.Inv X pins σ H s :=
  ⟨ok, J.os, J.bare, J.base, J.loc, J.cell, J.free, J.freeC, fun p hp => J.pin p (List.mem_append_left _ hp), J.hok, J.len⟩
/-- try: body / except x as n: y = n -/
theorem ws_tryV {body : List Stmt} {x n y : Str} {np yp np2 ap pos pos' : Pos} {c : Value} (d : Fr X G N sc k W) (i m : Nat) (hi : N[i]? = some n) (hm : N[m]? = some y) (hn : sc.names.lookup n = some .local) (hy : L2.Loc sc y) (hg : glB sc x = true) (gC : G.mg x = some c)
    (hb : ∀ X', Fr X' G N sc k (wV G.K c i m D) → WB X' body D σ H) (hdb : (x == ("__debug__" : Str)) = false := by decide +kernel) (h1 : (n == ("__debug__" : Str)) = false := by decide +kernel) (h2 : (n == ("__classdict__" : Str)) = false := by decide +kernel) :
    WS X (.Try body [.ExceptHandler (some (.Name x np)) (some n) [.Assign [.Name y yp] (.Name n np2) ap] pos'] [] [] pos) D σ H := by
  intro pins s I
  have ok := I.ok
  have frames : X.A.frames = some (X.env :: X.outer) := ok.frames.trans (congrArg some d.stk)
  have kn : X.env.kindOf n = some .local := by
    unfold Env.kindOf
    rw [d.sc]
    exact hn
  refine wpAny_Try_except ?_
  have own : ∀ {Ex : Value → Shared → Prop} {Ke : Value → Shared → Prop}, PassesOwn (model X.prog X.w) X.A X.env fun e s' => wpAny (model X.prog X.w) X.A (noteFrame e X.env) (fun _ s'' => Ke e s'') Ex s' := PassesOwn.looking
  refine wpAny_mono (hb (X.tr (X.pn ++ pins) _) { prog := d.prog, w := d.w, K := d.K, mg := d.mg, base := d.base, n := d.n, sc := d.sc, nd := d.nd, calm := d.calm, room := d.room, fn := d.fn, own := own, tk := ?_, stk := d.stk, frm := d.frm, ex := d.ex } [] s (I.toTry _)) (fun f s1 q => ?_) fun _ _ z => z
  · -- the catch
    rintro u s' ⟨a, B, sI, ps, τ, H1, cls, dd, rfl, J0, ground, up, sky, na, hos, gens, ex1, hq⟩
    have J : L2.Inv X pins τ H1 sI := J0.ofTry ok
    have sky' : Sky B (X.env :: X.outer) a (Zc cls dd) X.env.locals s'.heap := by
      rw [← d.stk]
      exact sky
    show wpAny _ X.A (noteFrame (.ref a) X.env) _ _ s'
    refine Sky.land Zc.steady frames d.frm sky' fun hp3 fly up3 => ?_
    obtain ⟨o3, v3, at3, z3, f3⟩ := fly.there
    have notFrame : a ∉ frs (X.env :: X.outer) := fun hmem => by
      obtain ⟨_, o', q, nofields⟩ := fly.2.2.1.mem hmem
      rw [at3] at q
      cases q
      exact nofields _ f3
    have new : sI.heap.get? a = none := by
      cases q : sI.heap.get? a with
      | none => rfl
      | some o =>
        have q' := ground a o q (by
          show a ∉ frs X.stack
          rw [d.stk]
          exact notFrame)
        rw [fly.2.1] at q'
        cases q'
    have nL : a ≠ X.env.locals := fun e => notFrame (by
      rw [e]
      exact List.mem_filterMap.mpr ⟨X.env, List.mem_cons_self, d.frm⟩)
    have J3 : L2.Inv X pins τ H1 { s' with heap := hp3 } := J.landed ground fly.1 (up.trans up3) hos gens
    have T3 := track J J3 d.ex new na nL at3 z3 f3
    refine wpAny_handleBy_cons (codeAny_handlers_test ?_) (fun e => nomatch e)
    have ty : PySem.W.Looks (model X.prog X.w) hp3 (typeOf (.ref a)) cls := fun _ _ _ _ keep q => wpAny_typeOf_ref (keep _ _ at3) (by rw [z3.1]; exact q)
    have seen := PySem.W.exm_one (M := model X.prog X.w) J3.kIn ty (by rw [d.K]; exact ex1)
    refine ld_glob (X := X.suite a (X.pn ++ pins)) (d.suiteInv T3) (by
      show X.env.kindOf x = _
      exact d.toDef.gl hg) (by
      show X.mg x = _
      rw [d.mg]
      exact gC) ?_ hdb
    refine seen.here ?_
    refine codeAny_handlers_suite_as ?_
    refine HandSPX.lands_againZ fly fun hp4 fly4 up4 => ?_
    obtain ⟨o4, v4, at4, z4, f4⟩ := fly4.there
    have J4 : L2.Inv X pins τ H1 { s' with heap := hp4 } := J.landed ground fly4.1 ((up.trans up3).trans up4) hos gens
    have T4 := d.suiteInv (a := a) (track J J4 d.ex new na nL at4 z4 f4)
    refine store_ok (X := X.suite a (X.pn ++ pins)) (i := i) (v := .ref a) T4 (by show X.N.Nodup; rw [d.n]; exact d.nd) (by show X.N[i]? = _; rw [d.n]; exact hi) (.inl kn) rfl (fun s5 S5 => ?_) (.inr kn)
    have run : PSs (X.suite a (X.pn ++ pins)) [.Assign [.Name y yp] (.Name n np2) ap] (tAsg (tVar i) (gName m)) :=
      pss_one (ps_set (i := m) (by show X.N.Nodup; rw [d.n]; exact d.nd) (by show X.N[m]? = _; rw [d.n]; exact hm) (by show L2.Loc X.env.scope y; rw [d.sc]; exact hy)
        (pe_var (i := i) (by show X.N[i]? = _; rw [d.n]; exact hi) (by show Vis X.env.scope n; rw [d.sc]; exact .inl hn) h1 h2) rfl (.inl (d.fn y)))
    have len : i < τ.length := by
      have e := J.len
      rw [d.n] at e
      rw [e]
      exact (List.getElem?_eq_some_iff.mp hi).1
    refine wpAny_mono (run.run [] s5 _ _ { nx := fun σ' H' => D.nx (σ'.set i none) H', rt := fun _ _ => False } S5 ⟨.ref a, List.getElem?_set_self len, hq a na⟩) (fun f s6 q => ?_) fun _ _ z => z.elim
    cases f with
    | next =>
      obtain ⟨σ6, H6, S6, q6⟩ := q
      exact gone_ok (unsuiteInv S6 ok) (by rw [d.n]; exact d.nd) (by rw [d.n]; exact hi) kn fun s7 J7 => ⟨_, _, J7, q6⟩
    | brk =>
      obtain ⟨_, _, _, q6⟩ := q
      exact q6.elim
    | cont =>
      obtain ⟨_, _, _, q6⟩ := q
      exact q6.elim
    | ret u =>
      obtain ⟨_, _, _, _, _, q6⟩ := q
      exact q6.elim
  · cases f with
    | next =>
      obtain ⟨σ', H', J', q'⟩ := q
      exact wpAny_execs_nil ⟨σ', H', J'.ofTry ok, q'⟩
    | brk =>
      obtain ⟨σ', H', J', q'⟩ := q
      exact ⟨σ', H', J'.ofTry ok, q'⟩
    | cont =>
      obtain ⟨σ', H', J', q'⟩ := q
      exact ⟨σ', H', J'.ofTry ok, q'⟩
    | ret u =>
      obtain ⟨v, σ', H', J', r, q'⟩ := q
      exact ⟨v, σ', H', J'.ofTry ok, r, q'⟩

/-! ### own exception classes without own __init__ -/
/-- what the text's top has left of the exception class x, at C -/
structure ExC (G : Gb) (x : Str) (C : Addr) : Prop where
  gC : G.mg x = some (.ref C)
  xC : PySem.W.excIn G.K C [.type "ValueError", .type "Exception", .type "BaseException", .type "object"] "ValueError.__new__" = true
  kC : PySem.W.keepIn G.K (.ref C) = true
  bC : PySem.W.subIn G.K (.ref C) (.type "BaseException") = some true
  tC : PySem.W.typeIn G.K (.ref C) = some (.type "type")
/-- a class that an except clause names: errors of the class at C are of it -/
structure ExM (G : Gb) (x : Str) (S C : Addr) : Prop where
  hd : PySem.W.hasDictIn G.K S = true
  bS : PySem.W.subIn G.K (.ref S) (.type "BaseException") = some true
  tS : PySem.W.typeIn G.K (.ref S) = some (.type "type")
  sC : PySem.W.subIn G.K (.ref C) (.ref S) = some true
theorem ExM.one {x : Str} {S C : Addr} (h : ExM G x S C) : PySem.W.exmOne G.K (.ref C) (.ref S) = some true := PySem.W.exm_ref h.bS h.hd h.tS h.sC
theorem ws_raise (d : Fr X G N sc k W) {x m : Str} {C : Addr} {j : Nat} {p p2 pos pos' : Pos} (F : ExC G x C) (hg : glB sc x = true) (q : W (.ref C) none σ H) (hdb : (x == ("__debug__" : Str)) = false := by decide +kernel) :
    WS X (.Raise (some (.Call (.Name x p) [.Constant (.str m) j p2] [] pos)) none pos') D σ H :=
  ws_of (ps_raise d.calm d.tk (pmk_own PySem.F.excBase_ValueError (by rw [d.K]; exact F.xC) (by rw [d.mg]; exact F.gC) (by rw [d.K]; exact F.kC) (raises_own (by rw [d.K]; exact F.bC) (by rw [d.K]; exact F.tC)) (d.toDef.gl hg) hdb)) q
/-- isinstance(e, c), e an exception's value (without a dict of its own) -/
theorem rc_isV {x : V} {C a : Addr} {c : V} {u : Value} {r : Bool} {Q : VK} (d : Def X G N sc k) (E : ExcC G.K C) (hc : ClsV c u) (h : H a = some (ExV a (.ref C) none)) (e : PySem.W.kitOne G.K (.ref C) u = some r) (q : Q (.bl r) H) : RC X (.builtin "isinstance") [.ref a, c] H Q := by
  refine ⟨fun vs H' Q' => vs = [.ref a, c] ∧ H' a = some (ExV a (.ref C) none) ∧ Q' (.bl r) H', ?_, rfl, h, q⟩
  intro pins s τ H1 xs us Q1 I rr hh
  obtain ⟨rfl, h1, q1⟩ := hh
  obtain ⟨u1, u2, rfl, r1, r2⟩ := vals2 rr
  cases (show u1 = Value.ref a from r1)
  have e2 := hc.eq r2
  subst e2
  obtain ⟨⟨oe, vs, at1, z1, f1⟩, _, _⟩ := I.hok a _ h1
  have J : PySem.W.InstAt s.heap a oe C none := by
    obtain ⟨oc, od, oda, osl⟩ := oe
    obtain ⟨rfl, rfl⟩ := z1
    cases f1
    exact ⟨at1, rfl, rfl, trivial⟩
  have K0 : G.K.In s.heap := by
    rw [← d.K]
    exact I.kIn
  exact PySem.W.kia_one (PySem.W.handS_kitx_exc E.hg E.hk E.hs E.hd E.ha E.hn E.ht E.hm) K0 J e (fun z => nomatch z) fun tk => ⟨.bl r, H1, I.kept (t' := tk) fun _ _ z => z, rfl, q1⟩
theorem kit_self {K : PySem.W.Frag} {C : Addr} : PySem.W.kitOne K (.ref C) (.ref C) = some true := by
  unfold PySem.W.kitOne
  rw [if_pos (beq_self_eq_true _)]
end
end Wx

/-! Data: values that stand for nested lists and tuples of None, bools, ints, texts. -/
namespace Wx
open PySem L2
section
variable {K : PySem.W.Frag} {H H' : Hp} {a : Addr} {xs : List V} {v : V} {d : PyData}
theorem _root_.L2.Same.tup (e : Same H H') (h : SqT K H a xs) : SqT K H' a xs := by
  rcases h with (h | ⟨o, h⟩) | h
  · exact .inl (.inl (e _ _ h))
  · exact .inl (.inr ⟨o, e _ _ h⟩)
  · exact .inr h
mutual
theorem _root_.L2.Same.dp (e : Same H H') : ∀ (d : PyData) (v : V), Dp K H v d → Dp K H' v d
  | .none, _, h => by cases h; exact .non
  | .bool _, _, h => by cases h; exact .bl _
  | .int _, _, h => by cases h; exact .int _
  | .str _, _, h => by cases h; exact .str _
  | .list ds, _, h => by
    cases h with
    | lst h1 h2 => exact .lst (e.seq h1) (L2.Same.dpAll e ds _ h2)
  | .tuple ds, _, h => by
    cases h with
    | tup h1 h2 => exact .tup (L2.Same.tup e h1) (L2.Same.dpAll e ds _ h2)
  | .dict _, _, h => by cases h
theorem _root_.L2.Same.dpAll (e : Same H H') : ∀ (ds : List PyData) (vs : List V), DpAll K H vs ds → DpAll K H' vs ds
  | [], _, h => by cases h; exact .nil
  | d :: ds, _, h => by
    cases h with
    | cons h1 h2 => exact .cons (L2.Same.dp e d _ h1) (L2.Same.dpAll e ds _ h2)
end
def tyD : PyData → String
  | .none => "NoneType" | .bool _ => "bool" | .int _ => "int" | .str _ => "str" | .list _ => "list" | .tuple _ => "tuple" | .dict _ => "dict"
theorem ty_seqL (h : SqL K H a xs) : TyX K H (.ref a) (.type "list") := by
  rcases h with (h | ⟨o, h⟩) | ⟨o, its, n, h1, h2, _⟩
  · exact .base (.lst h)
  · exact .base (.frz h)
  · exact .kList h1 h2
theorem ty_seqT (h : SqT K H a xs) : TyX K H (.ref a) (.type "tuple") := by
  rcases h with (h | ⟨o, h⟩) | ⟨o, its, n, h1, h2, _⟩
  · exact .base (.tup h)
  · exact .fTuple h
  · exact .kTuple h1 h2
theorem dp_ty (h : Dp K H v d) : TyX K H v (.type (tyD d)) := by
  cases h with
  | non => exact .base .non
  | bl b => exact .base (.bl b)
  | int i => exact .base (.int i)
  | str x => exact .base (.str x)
  | lst h _ => exact ty_seqL h
  | tup h _ => exact ty_seqT h
theorem _root_.L2.DpAll.len : ∀ {vs : List V} {ds : List PyData}, DpAll K H vs ds → vs.length = ds.length
  | _, _, .nil => rfl
  | _, _, .cons _ h => congrArg Nat.succ h.len
theorem _root_.L2.DpAll.get : ∀ {vs : List V} {ds : List PyData} {i : Nat} {v : V}, DpAll K H vs ds → vs[i]? = some v → ∃ d, ds[i]? = some d ∧ Dp K H v d
  | _, _, _, _, .nil, e => by simp at e
  | _, _, 0, _, .cons h _, e => by
    cases e
    exact ⟨_, rfl, h⟩
  | _, _, i + 1, v, .cons _ h, e => h.get (i := i) (v := v) e
theorem kit_bt {a b : String} {r : Bool} (h : kitB a b = some r) : PySem.W.kitOne K (.type a) (.type b) = some r := kit_ty h
theorem kit_bt2 {a b c : String} {r s : Bool} (h1 : kitB a b = some r) (h2 : kitB a c = some s) : PySem.W.kitAny K (.type a) [.type b, .type c] = some (r || s) := by
  refine kitAny_cons (kit_ty h1) (fun e => kitAny_cons (kit_ty h2) (fun e2 => ?_) (fun e2 => ?_)) (fun e => ?_)
  · rw [e, e2] <;> exact kitAny_nil
  · rw [e2, Bool.or_true]
  · rw [e, Bool.true_or]
end
section
variable {X : Cx} {σ : L2.St} {H : Hp} {Q : VK} {pos : Pos} {G : Gb} {N : List Str} {sc : Scope} {k : Nat}
theorem we_t_int (d : Def X G N sc k) (b : Bi G.mg) (hg : glB sc "int" = true) (q : Q (.ty "int") H) : WE X (.Name "int" pos) σ H Q := we_blt (v := .ty "int") (u := .type "int") d hg b.b_int (by decide +kernel) rfl q
theorem we_t_bool (d : Def X G N sc k) (b : Bi G.mg) (hg : glB sc "bool" = true) (q : Q (.ty "bool") H) : WE X (.Name "bool" pos) σ H Q := we_blt (v := .ty "bool") (u := .type "bool") d hg b.b_bool (by decide +kernel) rfl q
theorem we_t_str (d : Def X G N sc k) (b : Bi G.mg) (hg : glB sc "str" = true) (q : Q (.ty "str") H) : WE X (.Name "str" pos) σ H Q := we_blt (v := .ty "str") (u := .type "str") d hg b.b_str (by decide +kernel) rfl q
theorem we_t_list (d : Def X G N sc k) (b : Bi G.mg) (hg : glB sc "list" = true) (q : Q (.ty "list") H) : WE X (.Name "list" pos) σ H Q := we_blt (v := .ty "list") (u := .type "list") d hg b.b_list (by decide +kernel) rfl q
theorem we_t_tuple (d : Def X G N sc k) (b : Bi G.mg) (hg : glB sc "tuple" = true) (q : Q (.ty "tuple") H) : WE X (.Name "tuple" pos) σ H Q := we_blt (v := .ty "tuple") (u := .type "tuple") d hg b.b_tuple (by decide +kernel) rfl q
theorem we_t_dict (d : Def X G N sc k) (b : Bi G.mg) (hg : glB sc "dict" = true) (q : Q (.ty "dict") H) : WE X (.Name "dict" pos) σ H Q := we_blt (v := .ty "dict") (u := .type "dict") d hg b.b_dict (by decide +kernel) rfl q
/-- any, all of a list of truths; min, max, of a list of numbers -/
theorem rc_any (d : Def X G N sc k) {a : Addr} {bs : List Bool} (h : SqL G.K H a (bs.map V.bl)) (q : Q (.bl (bs.any id)) H) : RC X (.builtin "any") [.ref a] H Q := ⟨_, cr_any d.calm, a, bs, rfl, by rw [d.K]; exact h, q⟩
theorem rc_all (d : Def X G N sc k) {a : Addr} {bs : List Bool} (h : SqL G.K H a (bs.map V.bl)) (q : Q (.bl (bs.all id)) H) : RC X (.builtin "all") [.ref a] H Q := ⟨_, cr_all d.calm, a, bs, rfl, by rw [d.K]; exact h, q⟩
theorem rc_minL (d : Def X G N sc k) {a : Addr} {ns : List Int} (h : SqL G.K H a (ns.map V.int)) (h0 : 0 < ns.length) (q : ∀ m, m ∈ ns → (∀ y, y ∈ ns → m ≤ y) → Q (.int m) H) : RC X (.builtin "min") [.ref a] H Q := ⟨_, cr_min d.calm, a, ns, rfl, by rw [d.K]; exact h, h0, q⟩
theorem rc_maxL (d : Def X G N sc k) {a : Addr} {ns : List Int} (h : SqL G.K H a (ns.map V.int)) (h0 : 0 < ns.length) (q : ∀ m, m ∈ ns → (∀ y, y ∈ ns → y ≤ m) → Q (.int m) H) : RC X (.builtin "max") [.ref a] H Q := ⟨_, cr_max d.calm, a, ns, rfl, by rw [d.K]; exact h, h0, q⟩
theorem rc_listOf (d : Def X G N sc k) {a : Addr} {xs : List V} (h : SqL G.K H a xs ∨ SqT G.K H a xs) (q : ∀ l, H l = none → Q (.ref l) (upd H l (.lst xs))) : RC X (.type "list") [.ref a] H Q := ⟨_, call_list_of, a, xs, rfl, by rw [d.K]; exact h, q⟩
theorem rc_tupleL (d : Def X G N sc k) {a : Addr} {xs : List V} (h : SqL G.K H a xs) (q : ∀ l, H l = none → Q (.ref l) (upd H l (.tup xs))) : RC X (.type "tuple") [.ref a] H Q := ⟨_, call_tuple_of, a, xs, rfl, .inl ⟨by rw [d.K]; exact h, q⟩⟩
theorem ro_in (d : Def X G N sc k) {x : V} {a : Addr} {xs : List V} (h : SqL G.K H a xs ∨ SqT G.K H a xs) (hx : flatV x = true) (hs : xs.all flatV = true) (q : Q (.bl (inV x xs)) H) : RO X (compareOp .In) x (.ref a) H Q := ⟨_, op_in_seq, a, xs, rfl, by rw [d.K]; exact h, hx, hs, q⟩
theorem ro_notIn (d : Def X G N sc k) {x : V} {a : Addr} {xs : List V} (h : SqL G.K H a xs ∨ SqT G.K H a xs) (hx : flatV x = true) (hs : xs.all flatV = true) (q : Q (.bl (!inV x xs)) H) : RO X (compareOp .NotIn) x (.ref a) H Q := ⟨_, op_notIn_seq, a, xs, rfl, by rw [d.K]; exact h, hx, hs, q⟩
end
end Wx

namespace Wx
open PySem L2
section
variable {X : Cx} {σ : L2.St} {H : Hp} {Q : VK} {D : Ends} {pos : Pos} {G : Gb} {N : List Str} {sc scope : Scope} {k : Nat} {W : WX} {tg elt iter : Expr} {ifs : List Expr} {vs : List Nat}
/-- a turn of a comprehension's block, by what comes of it: an item more, or none -/
def Turn (X : Cx) (G : Gb) (N : List Str) (sc scope : Scope) (k : Nat) (tg elt : Expr) (ifs : List Expr) (vs : List Nat) (σ : L2.St) (x : V) (H : Hp) (R : Option V → Hp → Prop) : Prop :=
  Blk X G N sc scope k fun X' => WG X' tg x (wipe σ vs) H fun σ2 H2 => wipe σ2 vs = wipe σ vs ∧ Blk X G N sc scope k fun X' => WTs X' ifs σ2 H2 fun b H3 =>
    if b = true then Blk X G N sc scope k fun X' => WE X' elt σ2 H3 fun y H4 => R (some y) H4 else R none H3
/-- .. over a list; over a tuple: Pv by the turn and the heap, the new list at L within -/
def LcT (X : Cx) (G : Gb) (N : List Str) (sc scope : Scope) (k : Nat) (tg elt : Expr) (ifs : List Expr) (vs : List Nat) (σ : L2.St) (y : V) (H1 : Hp) (Q : VK) : Prop :=
  ∃ (a : Addr) (xs : List V), y = .ref a ∧ SqT G.K H1 a xs ∧ ∀ L, H1 L = none → ∃ Pv : Nat → Hp → Prop, Pv 0 (upd H1 L (.lst [])) ∧ (∀ i H, i ≤ xs.length → Pv i H → SqT G.K H a xs) ∧
    (∀ i x H, xs[i]? = some x → Pv i H → Blk X G N sc scope k fun X' => WG X' tg x (wipe σ vs) H fun σ2 H2 => wipe σ2 vs = wipe σ vs ∧ Blk X G N sc scope k fun X' => WTs X' ifs σ2 H2 fun b H3 =>
      if b = true then Blk X G N sc scope k fun X' => WE X' elt σ2 H3 fun y H4 => ∃ acc, H4 L = some (.lst acc) ∧ acc.length < sizeLine ∧ Pv (i + 1) (upd H4 L (.lst (acc ++ [y]))) else Pv (i + 1) H3) ∧ ∀ H, Pv xs.length H → Q (.ref L) H
theorem lcT_core (d : Def X G N sc k) (h : WE X iter σ H fun y H1 => LcT X G N sc scope k tg elt ifs vs σ y H1 Q) :
    tLc (iTup X.K (WE X iter)) (fun v σ H R => Blk X G N sc scope k fun X' => WG X' tg v σ H R) (fun σ H R => Blk X G N sc scope k fun X' => WTs X' ifs σ H R) (fun σ H R => Blk X G N sc scope k fun X' => WE X' elt σ H R) vs σ H Q := by
  show WE X iter σ H _
  refine we_mono (fun y H1 q => ?_) h
  obtain ⟨a, xs, e, hq, q⟩ := q
  refine ⟨a, e, ⟨xs, by rw [d.K]; exact hq⟩, fun L hL => ?_⟩
  obtain ⟨Pv, h0, hl, hst, hd⟩ := q L hL
  rw [d.K]
  exact lc_tup (K := G.K) (a := a) (xs := xs) (σ := σ) (vs := vs) (H1 := H1) (D := L) (g := fun v σ H R => Blk X G N sc scope k fun X' => WG X' tg v σ H R) (tt := fun σ H R => Blk X G N sc scope k fun X' => WTs X' ifs σ H R)
    (te := fun σ H R => Blk X G N sc scope k fun X' => WE X' elt σ H R) (Qd := fun H => Q (.ref L) H) Pv h0 hl hst hd
theorem we_lcT (d : Def X G N sc k) (own : List (Str × Nat)) (ok : blkC N sc scope own = true) (hs : ∀ x, foldedSetIterable iter X.env x = pure x)
    (h : WE X iter σ H fun y H1 => LcT X G N sc scope k tg elt ifs (own.map (·.2)) σ y H1 Q) : WE X (.ListComp elt [⟨tg, iter, ifs, 0⟩] scope pos) σ H Q :=
  we_of (pe_lcW d (pi_tup pe_we) (blkOk_by ok) hs) (lcT_core d h)
theorem ws_lcT (d : Fr X G N sc k W) (i : Nat) {y : Str} {py spos : Pos} (own : List (Str × Nat)) (hy : N[i]? = some y) (hyl : sc.names.lookup y = some .local) (ok : blkC N sc scope own = true) (hs : ∀ x, foldedSetIterable iter X.env x = pure x)
    (hl : (py.line == pos.line) = true) (ha : (scope.names.any fun (n, k) => n == y && (k == .local || k == .cell)) = false)
    (h : WE X iter σ H fun z H1 => LcT X G N sc scope k tg elt ifs (own.map (·.2)) σ z H1 fun v H2 => D.nx (σ.set i (some v)) H2) : WS X (.Assign [.Name y py] (.ListComp elt [⟨tg, iter, ifs, 0⟩] scope pos) spos) D σ H := by
  intro pins s I
  have P := ps_setLc (X := X) (i := i) (own := own) (elt := elt) (pos := pos) (spos := spos) (py := py) (wi := iTup X.K (WE X iter)) (g := fun v σ H R => Blk X G N sc scope k fun X' => WG X' tg v σ H R) (tt := fun σ H R => Blk X G N sc scope k fun X' => WTs X' ifs σ H R) (te := fun σ H R => Blk X G N sc scope k fun X' => WE X' elt σ H R)
    d.calm (by rw [d.n]; exact d.nd) (by rw [d.n]; exact hy) (by rw [d.sc]; exact hyl) (sw_true I.ok.kind (by rw [d.sc]; exact hyl) hl ha) (pi_tup pe_we) (by rw [d.n, d.sc]; exact blkOk_by ok)
    (fun s H C cl fp => ⟨fun pins s σ H v u Q I r h => h _ (d.toDef.blk _ _ _ _ _) pins s u I r⟩) (fun s H C cl fp => ⟨fun pins s σ H Q I h => h _ (d.toDef.blk _ _ _ _ _) pins s I⟩) (fun s H C cl fp => ⟨fun pins s σ H Q I h => h _ (d.toDef.blk _ _ _ _ _) pins s I⟩) hs
  exact P.run pins s σ H D I (lcT_core (Q := fun v H2 => D.nx (σ.set i (some v)) H2) d.toDef h)
theorem take_succ {α : Type} {l : List α} {i : Nat} {x : α} (h : l[i]? = some x) : l.take (i + 1) = l.take i ++ [x] := by
  rw [List.take_succ, h]
  rfl
theorem map_at {α : Type} {zs : List α} {g : α → V} {i : Nat} {x : V} (h : (zs.map g)[i]? = some x) : ∃ z, zs[i]? = some z ∧ x = g z := by
  rw [List.getElem?_map] at h
  cases e : zs[i]? with
  | none => rw [e] at h; cases h
  | some z => rw [e] at h; exact ⟨z, rfl, (Option.some.inj h).symm⟩
/-- what a turn has come to, told for the list at L: xs the source's items, f what each one gives -/
def Done {α : Type} (zs : List α) (f : α → Option V) (H1 : Hp) (L : Addr) (i : Nat) (o : Option V) (H' : Hp) : Prop := match o with
  | some y => ∃ acc, H' L = some (.lst acc) ∧ acc.length < sizeLine ∧ (Same H1 (upd H' L (.lst (acc ++ [y]))) ∧ (upd H' L (.lst (acc ++ [y]))) L = some (.lst ((zs.take (i + 1)).filterMap f)))
  | none => Same H1 H' ∧ H' L = some (.lst ((zs.take (i + 1)).filterMap f))
theorem done {α : Type} {zs : List α} {z : α} {i : Nat} {L : Addr} {H1 H : Hp} {f : α → Option V} (hL : H1 L = none) (hx : zs[i]? = some z) (hn : zs.length < 100000) (s : Same H1 H) (hH : H L = some (.lst ((zs.take i).filterMap f))) :
    ∀ H', Same H H' → Done zs f H1 L i (f z) H' := by
  intro H' s'
  have e : (zs.take (i + 1)).filterMap f = (zs.take i).filterMap f ++ (match f z with | some y => [y] | none => []) := by
    rw [take_succ hx, List.filterMap_append, List.filterMap_cons]
    cases f z <;> rfl
  have hi : i < zs.length := (List.getElem?_eq_some_iff.mp hx).1
  have hl : ((zs.take i).filterMap f).length ≤ i := Nat.le_trans (List.length_filterMap_le _ _) (by rw [List.length_take]; omega)
  unfold Done
  rw [e]
  cases f z with
  | some y => exact ⟨_, s' _ _ hH, len_lt (by omega), same_upd (s.trans s') hL, upd_same⟩
  | none => exact ⟨s.trans s', by rw [List.append_nil]; exact s' _ _ hH⟩
theorem lcL_map {α : Type} {a : Addr} {zs : List α} (g : α → V) (f : α → Option V) (hq : SqL G.K H a (zs.map g)) (hn : zs.length < 100000)
    (turn : ∀ z ∈ zs, ∀ H', Same H H' → ∀ R : Option V → Hp → Prop, (∀ H2, Same H' H2 → R (f z) H2) → Turn X G N sc scope k tg elt ifs vs σ (g z) H' R)
    (fin : ∀ L H', H L = none → Same H H' → H' L = some (.lst (zs.filterMap f)) → Q (.ref L) H') : LcL X G N sc scope k tg elt ifs vs σ (.ref a) H Q := by
  refine ⟨a, _, rfl, hq, fun L hL => ⟨fun i H' => Same H H' ∧ H' L = some (.lst ((zs.take i).filterMap f)), ⟨same_new hL, upd_same⟩, fun i H' _ h => h.1.seq hq, fun i x H' hx h => ?_, fun H' h => ?_⟩⟩
  · obtain ⟨z, hz, rfl⟩ := map_at hx
    exact turn z (List.mem_of_getElem? hz) H' h.1 (Done zs f H L i) (done hL hz hn h.1 h.2)
  · obtain ⟨h1, h2⟩ := h
    rw [List.length_map, List.take_length] at h2
    exact fin L H' hL h1 h2
theorem lcT_map {α : Type} {a : Addr} {zs : List α} (g : α → V) (f : α → Option V) (hq : SqT G.K H a (zs.map g)) (hn : zs.length < 100000)
    (turn : ∀ z ∈ zs, ∀ H', Same H H' → ∀ R : Option V → Hp → Prop, (∀ H2, Same H' H2 → R (f z) H2) → Turn X G N sc scope k tg elt ifs vs σ (g z) H' R)
    (fin : ∀ L H', H L = none → Same H H' → H' L = some (.lst (zs.filterMap f)) → Q (.ref L) H') : LcT X G N sc scope k tg elt ifs vs σ (.ref a) H Q := by
  refine ⟨a, _, rfl, hq, fun L hL => ⟨fun i H' => Same H H' ∧ H' L = some (.lst ((zs.take i).filterMap f)), ⟨same_new hL, upd_same⟩, fun i H' _ h => h.1.tup hq, fun i x H' hx h => ?_, fun H' h => ?_⟩⟩
  · obtain ⟨z, hz, rfl⟩ := map_at hx
    exact turn z (List.mem_of_getElem? hz) H' h.1 (Done zs f H L i) (done hL hz hn h.1 h.2)
  · obtain ⟨h1, h2⟩ := h
    rw [List.length_map, List.take_length] at h2
    exact fin L H' hL h1 h2
theorem truL (d : Def X G N sc k) {p : Addr} {xs : List V} (h : SqL G.K H p xs) : TruV X.K (.ref p) H (!xs.isEmpty) := .inl ⟨xs, by rw [d.K]; exact h, rfl⟩
theorem truT (d : Def X G N sc k) {p : Addr} {xs : List V} (h : SqT G.K H p xs) : TruV X.K (.ref p) H (!xs.isEmpty) := .inr (.inl ⟨xs, by rw [d.K]; exact h, rfl⟩)
theorem truD (d : Def X G N sc k) {p : Addr} {kvs : List (Key × V)} (h : H p = some (.dK kvs)) : TruV X.K (.ref p) H (!kvs.isEmpty) := .inr (.inr ⟨kvs, h, rfl⟩)
end
end Wx

/-! Written data: displays of constants, lists and tuples. A frame says what is known of the heap beside what others hold. -/
namespace Wx
open PySem L2
/-- a frame that new objects may join -/
structure Frm (Fm : Hp → Hp → Prop) : Prop where
  laid : ∀ {H0 H : Hp} {p : Addr} {o : HO}, Fm H0 H → H p = none → Fm (upd H0 p o) (upd H p o)
  same : ∀ {H0 H : Hp}, Fm H0 H → Same H0 H
theorem frm_draw {d : Addr} {B : Nat} : Frm fun H0 H => DrawAt H0 H d B := ⟨fun A hp => A.laid hp, fun A => A.same⟩
theorem frm_same : Frm Same := ⟨fun {H0 H p o} s hp b u e => by
  by_cases hb : b = p
  · subst hb
    rw [upd_same] at e ⊢
    exact e
  · rw [upd_ne hb] at e ⊢
    exact s b u e, fun s => s⟩
mutual
/-- the data that a display of constants is -/
inductive Lit : Expr → PyData → Prop
  | non {j p} : Lit (.Constant .none j p) .none
  | bl {b j p} : Lit (.Constant (.bool b) j p) (.bool b)
  | int {i j p} : Lit (.Constant (.int i) j p) (.int i)
  | str {z j p} : Lit (.Constant (.str z) j p) (.str z)
  | tup {es ds a b} : Lits es ds → decide (es.length ≤ 1000) = true → Lit (.Tuple es a b) (.tuple ds)
  | lst {es ds a} : Lits es ds → decide (es.length ≤ 1000) = true → Lit (.List es a) (.list ds)
inductive Lits : List Expr → List PyData → Prop
  | nil : Lits [] []
  | cons {e d es ds} : Lit e d → Lits es ds → Lits (e :: es) (d :: ds)
end
theorem Lits.len : ∀ {es : List Expr} {ds : List PyData}, Lits es ds → ds.length = es.length
  | _, _, .nil => rfl
  | _, _, .cons _ h => congrArg Nat.succ h.len
theorem star_lit {e : Expr} {d : PyData} (h : Lit e d) : ns e = true := by cases h <;> rfl
variable {X : Cx} {σ : L2.St} {G : Gb} {N : List Str} {sc : Scope} {k : Nat} {Fm : Hp → Hp → Prop}
mutual
theorem we_lit (F : Frm Fm) : ∀ {e : Expr} {d : PyData} (_ : Lit e d) {H0 H : Hp} {Q : VK}, Fm H0 H → (∀ v H0' H', Same H0 H0' → Fm H0' H' → Dp G.K H0' v d → Q v H') → WE X e σ H Q
  | _, _, .non, _, _, _, f, q => we_non (q _ _ _ (Same.refl _) f .non)
  | _, _, .bl, _, _, _, f, q => we_bl (q _ _ _ (Same.refl _) f (.bl _))
  | _, _, .int, _, _, _, f, q => we_int (q _ _ _ (Same.refl _) f (.int _))
  | _, _, .str, _, _, _, f, q => we_str (q _ _ _ (Same.refl _) f (.str _))
  | _, _, .tup hs hl, H0, H, Q, f, q => by
    refine we_tup (wa_lit F hs f fun vs H1' H1 s1 f1 h1 => ⟨?_, fun p hp => ?_⟩)
    · rw [h1.len, hs.len]
      have := of_decide_eq_true hl
      exact len_le (by omega)
    · have n0 := (F.same f1).free hp
      exact q _ _ _ (s1.trans (same_new n0)) (F.laid f1 hp) (.tup (SqT.of upd_same) ((same_new n0).dpAll _ _ h1))
  | _, _, .lst hs hl, H0, H, Q, f, q => by
    refine we_lst (wa_lit F hs f fun vs H1' H1 s1 f1 h1 => ⟨?_, fun p hp => ?_⟩)
    · rw [h1.len, hs.len]
      have := of_decide_eq_true hl
      exact len_le (by omega)
    · have n0 := (F.same f1).free hp
      exact q _ _ _ (s1.trans (same_new n0)) (F.laid f1 hp) (.lst (SqL.of upd_same) ((same_new n0).dpAll _ _ h1))
theorem wa_lit (F : Frm Fm) : ∀ {es : List Expr} {ds : List PyData} (_ : Lits es ds) {H0 H : Hp} {Q : List V → Hp → Prop}, Fm H0 H → (∀ vs H0' H', Same H0 H0' → Fm H0' H' → DpAll G.K H0' vs ds → Q vs H') → WA X es σ H Q
  | _, _, .nil, _, _, _, f, q => wa_nil (q _ _ _ (Same.refl _) f .nil)
  | _, _, .cons h hs, H0, H, Q, f, q =>
    wa_cons (star_lit h) (we_lit F h f fun v H1' H1 s1 f1 d1 => wa_lit F hs f1 fun vs H2' H2 s2 f2 d2 => q _ _ _ (s1.trans s2) f2 (.cons (s2.dp _ _ d1) d2))
end
/-- a tracked object of the frame changes -/
theorem _root_.Wx.DrawAt.put {H0 H : Hp} {d p : Addr} {B : Nat} {o o' : HO} (h : DrawAt H0 H d B) (hp : H0 p = some o) : DrawAt (upd H0 p o') (upd H p o') d B := by
  obtain ⟨s, n, aw, ac, ws, cs, r, t, n1, n2, I⟩ := h
  have e1 : d ≠ p := fun q => by rw [q, hp] at n; cases n
  have e2 : aw ≠ p := fun q => by rw [q, hp] at n1; cases n1
  have e3 : ac ≠ p := fun q => by rw [q, hp] at n2; cases n2
  refine ⟨fun b u q => ?_, by rw [upd_ne e1]; exact n, aw, ac, ws, cs, r, t, by rw [upd_ne e2]; exact n1, by rw [upd_ne e3]; exact n2, ⟨by rw [upd_ne e1]; exact I.hd, by rw [upd_ne e2]; exact I.hw, by rw [upd_ne e3]; exact I.hc, I.t0, I.tB, I.cB, I.wl, I.ne⟩⟩
  by_cases e : b = p
  · subst e
    rw [upd_same] at q ⊢
    exact q
  · rw [upd_ne e] at q ⊢
    exact s b u q
theorem at_last {α : Type} {xs : List α} {x : α} (h : xs.getLast? = some x) : atI xs (-1) = some x := by
  obtain ⟨ys, rfl⟩ := List.getLast?_eq_some_iff.mp h
  exact atI_last ys x
theorem we_newD {Q : VK} {H : Hp} {pos : Pos} (h : ∀ p, H p = none → Q (.ref p) (upd H p (.dK []))) : WE X (.Dict [] [] pos) σ H Q := we_of pe_dnewK h
end Wx

namespace Wx
open PySem L2
variable {X : Cx} {σ : L2.St} {H : Hp} {Q : VK} {G : Gb} {N : List Str} {sc : Scope} {k : Nat} {e1 e2 : Expr}
/-- list(range(a, b)) -/
theorem we_listRg (d : Def X G N sc k) (b : Bi G.mg) {p rp rp2 pos : Pos} (hg : glB sc "list" = true) (hr : glB sc "range" = true) (h1 : ns e1 = true) (h2 : ns e2 = true)
    (h : WE X e1 σ H fun x H1 => WE X e2 σ H1 fun y H2 => ∃ i j : Int, x = .int i ∧ y = .int j ∧ RgOk i j ∧ ∀ q, H2 q = none → Q (.ref q) (upd H2 q (.lst (rgV i j)))) :
    WE X (.Call (.Name "list" p) [.Call (.Name "range" rp) [e1, e2] [] rp2] [] pos) σ H Q := by
  refine we_of (pe_listRg d.calm (d.gl hg) (by rw [d.mg]; exact b.b_list) (prg_2 (d.gl hr) (by rw [d.mg]; exact b.b_range) pe_we pe_we (star_ns h1) (star_ns h2) ?_)) h
  rw [star_ns h2]
  rfl
theorem ne_self {α : Type} [DecidableEq α] {x : α} : (!decide (x = x)) = false := by rw [decide_eq_true rfl]; rfl
theorem inV_noB (bs : List Bool) : inV (.bl false) (bs.map V.bl) = bs.any (!·) := by
  unfold inV
  rw [List.any_map]
  congr 1
  funext b
  cases b <;> rfl
end Wx

section
open PySem L2 Wx
local macro_rules | `(tactic| walk_at "wn") => `(tactic| first
  | with_reducible refine we_n0 (by assumption) (by decide +kernel) ?_
  | with_reducible refine we_n1 (by assumption) (by decide +kernel) ?_
  | with_reducible refine we_n2 (by assumption) (by decide +kernel) ?_
  | with_reducible refine we_n3 (by assumption) (by decide +kernel) ?_
  | with_reducible refine we_n4 (by assumption) (by decide +kernel) ?_
  | with_reducible refine we_n5 (by assumption) (by decide +kernel) ?_
  | with_reducible refine we_n6 (by assumption) (by decide +kernel) ?_
  | with_reducible refine we_n7 (by assumption) (by decide +kernel) ?_
  | with_reducible refine we_n8 (by assumption) (by decide +kernel) ?_
  | with_reducible refine we_n9 (by assumption) (by decide +kernel) ?_
  | with_reducible refine we_n10 (by assumption) (by decide +kernel) ?_
  | with_reducible refine we_n11 (by assumption) (by decide +kernel) ?_
  | with_reducible refine we_n12 (by assumption) (by decide +kernel) ?_
  | with_reducible refine we_n13 (by assumption) (by decide +kernel) ?_
  | with_reducible refine we_n14 (by assumption) (by decide +kernel) ?_
  | with_reducible refine we_n15 (by assumption) (by decide +kernel) ?_
  | with_reducible refine we_n16 (by assumption) (by decide +kernel) ?_
  | with_reducible refine we_n17 (by assumption) (by decide +kernel) ?_
  | with_reducible refine we_t_int (by assumption) (by assumption) (by decide +kernel) ?_
  | with_reducible refine we_t_bool (by assumption) (by assumption) (by decide +kernel) ?_
  | with_reducible refine we_t_str (by assumption) (by assumption) (by decide +kernel) ?_
  | with_reducible refine we_t_list (by assumption) (by assumption) (by decide +kernel) ?_
  | with_reducible refine we_t_tuple (by assumption) (by assumption) (by decide +kernel) ?_
  | with_reducible refine we_t_dict (by assumption) (by assumption) (by decide +kernel) ?_)
local macro_rules | `(tactic| walk_at "wg") => `(tactic| first
  | with_reducible refine wg_n0 (by assumption) (by decide +kernel) ?_
  | with_reducible refine wg_n1 (by assumption) (by decide +kernel) ?_
  | with_reducible refine wg_n2 (by assumption) (by decide +kernel) ?_
  | with_reducible refine wg_n3 (by assumption) (by decide +kernel) ?_
  | with_reducible refine wg_n4 (by assumption) (by decide +kernel) ?_
  | with_reducible refine wg_n5 (by assumption) (by decide +kernel) ?_
  | with_reducible refine wg_n6 (by assumption) (by decide +kernel) ?_
  | with_reducible refine wg_n7 (by assumption) (by decide +kernel) ?_
  | with_reducible refine wg_n8 (by assumption) (by decide +kernel) ?_
  | with_reducible refine wg_n9 (by assumption) (by decide +kernel) ?_
  | with_reducible refine wg_n10 (by assumption) (by decide +kernel) ?_
  | with_reducible refine wg_n11 (by assumption) (by decide +kernel) ?_
  | with_reducible refine wg_n12 (by assumption) (by decide +kernel) ?_
  | with_reducible refine wg_n13 (by assumption) (by decide +kernel) ?_
  | with_reducible refine wg_n14 (by assumption) (by decide +kernel) ?_
  | with_reducible refine wg_n15 (by assumption) (by decide +kernel) ?_
  | with_reducible refine wg_n16 (by assumption) (by decide +kernel) ?_
  | with_reducible refine wg_n17 (by assumption) (by decide +kernel) ?_
  | with_reducible refine wg_b0 (by assumption) (by decide +kernel) ?_
  | with_reducible refine wg_b1 (by assumption) (by decide +kernel) ?_
  | with_reducible refine wg_b2 (by assumption) (by decide +kernel) ?_
  | with_reducible refine wg_b3 (by assumption) (by decide +kernel) ?_
  | with_reducible refine wg_b4 (by assumption) (by decide +kernel) ?_
  | with_reducible refine wg_b5 (by assumption) (by decide +kernel) ?_
  | with_reducible refine wg_b6 (by assumption) (by decide +kernel) ?_
  | with_reducible refine wg_b7 (by assumption) (by decide +kernel) ?_
  | with_reducible refine wg_b8 (by assumption) (by decide +kernel) ?_
  | with_reducible refine wg_b9 (by assumption) (by decide +kernel) ?_
  | with_reducible refine wg_b10 (by assumption) (by decide +kernel) ?_
  | with_reducible refine wg_b11 (by assumption) (by decide +kernel) ?_
  | with_reducible refine wg_b12 (by assumption) (by decide +kernel) ?_
  | with_reducible refine wg_b13 (by assumption) (by decide +kernel) ?_
  | with_reducible refine wg_b14 (by assumption) (by decide +kernel) ?_
  | with_reducible refine wg_b15 (by assumption) (by decide +kernel) ?_
  | with_reducible refine wg_b16 (by assumption) (by decide +kernel) ?_
  | with_reducible refine wg_b17 (by assumption) (by decide +kernel) ?_)
local macro_rules | `(tactic| walk_at "ws=") => `(tactic| first
  | with_reducible refine ws_s0 (by assumption) (by decide +kernel) (by with_unfolding_all rfl) ?_
  | with_reducible refine ws_s1 (by assumption) (by decide +kernel) (by with_unfolding_all rfl) ?_
  | with_reducible refine ws_s2 (by assumption) (by decide +kernel) (by with_unfolding_all rfl) ?_
  | with_reducible refine ws_s3 (by assumption) (by decide +kernel) (by with_unfolding_all rfl) ?_
  | with_reducible refine ws_s4 (by assumption) (by decide +kernel) (by with_unfolding_all rfl) ?_
  | with_reducible refine ws_s5 (by assumption) (by decide +kernel) (by with_unfolding_all rfl) ?_
  | with_reducible refine ws_s6 (by assumption) (by decide +kernel) (by with_unfolding_all rfl) ?_
  | with_reducible refine ws_s7 (by assumption) (by decide +kernel) (by with_unfolding_all rfl) ?_
  | with_reducible refine ws_s8 (by assumption) (by decide +kernel) (by with_unfolding_all rfl) ?_
  | with_reducible refine ws_s9 (by assumption) (by decide +kernel) (by with_unfolding_all rfl) ?_
  | with_reducible refine ws_s10 (by assumption) (by decide +kernel) (by with_unfolding_all rfl) ?_
  | with_reducible refine ws_s11 (by assumption) (by decide +kernel) (by with_unfolding_all rfl) ?_
  | with_reducible refine ws_s12 (by assumption) (by decide +kernel) (by with_unfolding_all rfl) ?_
  | with_reducible refine ws_s13 (by assumption) (by decide +kernel) (by with_unfolding_all rfl) ?_
  | with_reducible refine ws_s14 (by assumption) (by decide +kernel) (by with_unfolding_all rfl) ?_
  | with_reducible refine ws_s15 (by assumption) (by decide +kernel) (by with_unfolding_all rfl) ?_
  | with_reducible refine ws_s16 (by assumption) (by decide +kernel) (by with_unfolding_all rfl) ?_
  | with_reducible refine ws_s17 (by assumption) (by decide +kernel) (by with_unfolding_all rfl) ?_)
local macro_rules | `(tactic| walk_at "wE") => `(tactic| first
  | with_reducible refine we_int ?_
  | with_reducible refine we_str ?_
  | with_reducible refine we_bl ?_
  | with_reducible refine we_non ?_
  | ((with_reducible show Wx.WE _ (Expr.Name _ _) _ _ _); walk_at "wn")
  | with_reducible refine we_bin ?_
  | ((with_reducible refine we_cmp ?hm ?_); (case hm => exact rfl))
  | with_reducible refine we_if ?_
  | with_reducible refine we_tup ?_
  | with_reducible refine we_lst ?_
  | with_reducible refine we_not ?_
  | with_reducible refine we_un ?_
  | with_reducible refine we_and ?_
  | with_reducible refine we_or ?_
  | with_reducible refine we_one ?_
  | ((with_reducible refine we_chain ?hm ?_); (case hm => exact rfl))
  | ((with_reducible show Wx.WE _ (Expr.Subscript _ (Expr.Constant (Const.str _) _ _) _) _ _ _); refine we_dget (by with_reducible assumption) (by intro _ _; rfl) ?_)
  | ((with_reducible show Wx.WE _ (Expr.Subscript _ (Expr.Constant _ _ _) _) _ _ _); refine we_ix (by intro _ _; rfl) ?_)
  | ((with_reducible show Wx.WE _ (Expr.Subscript _ (Expr.Name _ _) _) _ _ _); refine we_ix (by intro _ _; rfl) ?_)
  | ((with_reducible show Wx.WE _ (Expr.Subscript _ (Expr.BinOp _ _ _ _) _) _ _ _); refine we_ix (by intro _ _; rfl) ?_)
  | ((with_reducible show Wx.WE _ (Expr.Subscript _ (Expr.Call _ _ _ _) _) _ _ _); refine we_ix (by intro _ _; rfl) ?_)
  | ((with_reducible show Wx.WE _ (Expr.Subscript _ (Expr.UnaryOp _ _ _) _) _ _ _); refine we_ix (by intro _ _; rfl) ?_)
  | ((with_reducible show Wx.WE _ (Expr.Call (Expr.Name _ _) _ _ _) _ _ _); walk_at "wC"))
local macro_rules | `(tactic| walk_at "wC") => `(tactic| first
  | with_reducible refine we_c_int (by assumption) (by assumption) (by decide +kernel) (by with_unfolding_all rfl) (by with_unfolding_all rfl) ?_
  | with_reducible refine we_c_bool (by assumption) (by assumption) (by decide +kernel) (by with_unfolding_all rfl) (by with_unfolding_all rfl) ?_
  | with_reducible refine we_c_str (by assumption) (by assumption) (by decide +kernel) (by with_unfolding_all rfl) (by with_unfolding_all rfl) ?_
  | with_reducible refine we_c_list (by assumption) (by assumption) (by decide +kernel) (by with_unfolding_all rfl) (by with_unfolding_all rfl) ?_
  | with_reducible refine we_c_tuple (by assumption) (by assumption) (by decide +kernel) (by with_unfolding_all rfl) (by with_unfolding_all rfl) ?_
  | with_reducible refine we_c_set (by assumption) (by assumption) (by decide +kernel) (by with_unfolding_all rfl) (by with_unfolding_all rfl) ?_
  | with_reducible refine we_c_dict (by assumption) (by assumption) (by decide +kernel) (by with_unfolding_all rfl) (by with_unfolding_all rfl) ?_
  | with_reducible refine we_c_type (by assumption) (by assumption) (by decide +kernel) (by with_unfolding_all rfl) (by with_unfolding_all rfl) ?_
  | with_reducible refine we_c_len (by assumption) (by assumption) (by decide +kernel) (by with_unfolding_all rfl) (by with_unfolding_all rfl) ?_
  | with_reducible refine we_c_isinstance (by assumption) (by assumption) (by decide +kernel) (by with_unfolding_all rfl) (by with_unfolding_all rfl) ?_
  | with_reducible refine we_c_abs (by assumption) (by assumption) (by decide +kernel) (by with_unfolding_all rfl) (by with_unfolding_all rfl) ?_
  | with_reducible refine we_c_min (by assumption) (by assumption) (by decide +kernel) (by with_unfolding_all rfl) (by with_unfolding_all rfl) ?_
  | with_reducible refine we_c_max (by assumption) (by assumption) (by decide +kernel) (by with_unfolding_all rfl) (by with_unfolding_all rfl) ?_
  | with_reducible refine we_c_any (by assumption) (by assumption) (by decide +kernel) (by with_unfolding_all rfl) (by with_unfolding_all rfl) ?_
  | with_reducible refine we_c_all (by assumption) (by assumption) (by decide +kernel) (by with_unfolding_all rfl) (by with_unfolding_all rfl) ?_
  | with_reducible refine we_c_sum (by assumption) (by assumption) (by decide +kernel) (by with_unfolding_all rfl) (by with_unfolding_all rfl) ?_
  | with_reducible refine we_c_sorted (by assumption) (by assumption) (by decide +kernel) (by with_unfolding_all rfl) (by with_unfolding_all rfl) ?_
  | with_reducible refine we_c_repr (by assumption) (by assumption) (by decide +kernel) (by with_unfolding_all rfl) (by with_unfolding_all rfl) ?_)
local macro_rules | `(tactic| walk_at "wT") => `(tactic| first
  | ((with_reducible refine wt_cmp ?hm ?_); (case hm => exact rfl))
  | ((with_reducible refine wt_chain ?hm ?_); (case hm => exact rfl))
  | with_reducible refine wt_not ?_
  | ((with_reducible refine wt_ww ?_); first | with_reducible refine ww_and ?_ | with_reducible refine ww_or ?_ | with_reducible refine ww_and1 ?_ | with_reducible refine ww_or1 ?_)
  | with_reducible refine ww_and ?_
  | with_reducible refine ww_or ?_
  | with_reducible refine ww_and1 ?_
  | with_reducible refine ww_or1 ?_
  | ((with_reducible show Wx.WT _ (Expr.Name _ _) _ _ _); refine wt_truth (by intro _; rfl) ?_)
  | ((with_reducible show Wx.WT _ (Expr.Call _ _ _ _) _ _ _); refine wt_truth (by intro _; rfl) ?_)
  | ((with_reducible show Wx.WT _ (Expr.Subscript _ _ _) _ _ _); refine wt_truth (by intro _; rfl) ?_)
  | ((with_reducible show Wx.WT _ (Expr.IfExp _ _ _ _) _ _ _); refine wt_truth (by intro _; rfl) ?_)
  | ((with_reducible show Wx.WT _ (Expr.Attribute _ _ _) _ _ _); refine wt_truth (by intro _; rfl) ?_))
local macro_rules | `(tactic| walk_at "wA") => `(tactic| first
  | with_reducible refine wa_nil ?_
  | ((with_reducible refine wa_cons ?hs ?_); (case hs => exact rfl))
  | with_reducible refine wk_nil ?_
  | with_reducible refine wk_cons ?_)
local macro_rules | `(tactic| walk_at "wS") => `(tactic| first
  | with_reducible refine wb_nil ?_
  | with_reducible refine wb_one ?_
  | with_reducible refine wb_cons ?_
  | with_reducible refine ws_ret ?_
  | with_reducible refine ws_if ?_
  | ((with_reducible show Wx.WS _ (Stmt.Assign [Expr.Name _ _] _ _) _ _ _); walk_at "ws=")
  | with_reducible refine ws_pass ?_
  | ((with_reducible refine ws_expr ?hs ?_); (case hs => exact rfl))
  | with_reducible refine ws_retN ?_
  | with_reducible refine ws_continue ?_
  | with_reducible refine ws_break ?_
  | ((with_reducible show Wx.WS _ (Stmt.Assign [Expr.Subscript _ (Expr.Constant (Const.str _) _ _) _] _ _) _ _ _); refine ws_dput (by with_reducible assumption) (by rfl) ?_))
local macro_rules | `(tactic| walk_at "wR") => `(tactic| first
  | with_reducible refine ro_add ?_
  | with_reducible refine ro_sub ?_
  | with_reducible refine ro_eqI ?_
  | with_reducible refine ro_neI ?_
  | with_reducible refine ro_lt ?_
  | with_reducible refine ro_le ?_
  | with_reducible refine ro_gt ?_
  | with_reducible refine ro_ge ?_
  | with_reducible refine ro_isN ?_
  | with_reducible refine ro_notN ?_
  | with_reducible refine ro_eqS ?_
  | with_reducible refine ro_neS ?_
  | with_reducible refine ro_eqB ?_
  | with_reducible refine ro_neB ?_
  | with_reducible refine ru_neg ?_
  | with_reducible refine rc_int ?_)
local macro_rules | `(tactic| walk_at "wG") => `(tactic| first
  | walk_at "wg"
  | with_reducible refine wgs_nil ?_
  | ((with_reducible refine wgs_cons ?hs ?_); (case hs => exact rfl)))
local macro_rules | `(tactic| walk_at "lits") => `(tactic| first
  | repeat' constructor)
local macro_rules | `(tactic| walk_at "wx1") => `(tactic| first
  | ((with_reducible show Wx.WE _ _ _ _ _); walk_at "wE")
  | ((with_reducible show Wx.WT _ _ _ _ _); walk_at "wT")
  | ((with_reducible show Wx.WW _ _ _ _ _); walk_at "wT")
  | ((with_reducible show Wx.WA _ _ _ _ _); walk_at "wA")
  | ((with_reducible show Wx.WK _ _ _ _ _); walk_at "wA")
  | ((with_reducible show Wx.WB _ _ _ _ _); walk_at "wS")
  | ((with_reducible show Wx.WS _ _ _ _ _); walk_at "wS")
  | ((with_reducible show Wx.RO _ _ _ _ _ _); walk_at "wR")
  | ((with_reducible show Wx.WG _ _ _ _ _ _); walk_at "wG")
  | ((with_reducible show Wx.WGs _ _ _ _ _ _); walk_at "wG")
  | ((with_reducible show Wx.RC _ _ _ _ _); walk_at "wR")
  | ((with_reducible show Wx.RC _ (Value.builtin "isinstance") [_, V.ty _] _ _); walk_at "wI")
  | ((with_reducible show Wx.RU _ _ _ _ _); walk_at "wR")
  | refine ⟨_, rfl, ?_⟩
  | dsimp only [List.set])
local macro_rules | `(tactic| walk_at "wTy") => `(tactic| first
  | exact TyX.base TyOf.non
  | exact TyX.base (TyOf.bl _)
  | exact TyX.base (TyOf.int _)
  | exact TyX.base (TyOf.str _)
  | exact ty_seqT (by assumption)
  | exact ty_seqL (by assumption)
  | exact TyX.base (TyOf.dK (by assumption))
  | exact dp_ty (by assumption))
local macro_rules | `(tactic| walk_at "wI") => `(tactic| first
  | refine rc_isi (by assumption) (ClsV.ty _) (by walk_at "wTy") (kit_bt (r := true) (by decide +kernel)) ?_
  | refine rc_isi (by assumption) (ClsV.ty _) (by walk_at "wTy") (kit_bt (r := false) (by decide +kernel)) ?_)
local macro_rules | `(tactic| walk_at "wx") => `(tactic| repeat walk_at "wx1")
local macro_rules | `(tactic| walk_at "wy") => `(tactic| repeat (first | walk_at "wx1" | refine ite_t ?_ | refine ite_f ?_))
open PySem L2 Wx

namespace K27
def top (i : Nat) : Stmt := PySem.Challenge.pw_whysheets_k27_stretches_by_themselves.main.body.getD i (.Pass ⟨0, 0, 0, 0⟩)
variable {G : Gb}
abbrev nMixed : List Str := ["_law_draw", "_law_turn", "_law_found", "_law_prime", "_law_blend", "_law_grain"]
theorem scMixed : FnScope nMixed ["_law_draw"] (defScope (top 21)) := ⟨rfl, rfl, rfl, by decide +kernel, rfl, by decide +kernel, by decide +kernel⟩
theorem fn_mixed (b : Bi G.mg) (T : Top G "_law_mixed" (top 21) ["_law_draw"]) : Fn G "_law_mixed" 1 1 spMixed := by
  refine T.fn (N := nMixed) scMixed (fun vs H Q E h => ?_) (fun X vs H Q E d h => ?_)
  · obtain ⟨_, _, _, _, _, _, _, _, rfl, _⟩ := h
    rfl
  · have dd := d.toDef
    obtain ⟨p, aw, ac, ws, cs, r, t, B, rfl, I, hB, k⟩ := h
    show WB X _ _ [some (.ref p), none, none, none, none, none] H
    refine wb_cons ?_
    walk_at "wx"
    refine ws_par2 d 1 2 rfl rfl (by decide) (by decide +kernel) (by decide +kernel) (by intro _; rfl) (by rfl) ?_ (by rfl) (by rfl)
    walk_at "wx"
    refine ⟨_, _, rfl, dgk I.hd d4_turn, ?_⟩
    walk_at "wx"
    refine ⟨_, _, rfl, dpk I.hd d4_len d4_put_turn, ?_⟩
    walk_at "wx"
    refine ws_forL d (by intro _; rfl) ?_
    walk_at "wx"
    refine ⟨by show 4 ≤ sizeLine; decide, fun l hl => ⟨l, _, rfl, SqL.of upd_same, fun _ σ H' => H' = upd (upd H p (.dK (D4 aw ac r (t + 1)))) l (.lst [.int 2147483647, .int 2147483629, .int 2147483587, .int 2147483579]) ∧ ∃ f v3 v4 v5, σ = [some (.ref p), some (.int (t + 1)), some (.int f), v3, v4, v5],
      ⟨rfl, _, _, _, _, rfl⟩, ?_, ?_, ?_⟩⟩
    · rintro i σ H' _ ⟨rfl, _⟩
      exact SqL.of upd_same
    · rintro i x σ H' hx ⟨rfl, f, v3, v4, v5, rfl⟩
      obtain ⟨pr, rfl, h1, h2⟩ : ∃ pr : Int, x = .int pr ∧ 2147483579 ≤ pr ∧ pr ≤ 2147483647 := by
        have hm := List.mem_of_getElem? hx
        simp only [List.mem_cons, List.not_mem_nil, or_false] at hm
        rcases hm with rfl | rfl | rfl | rfl <;> exact ⟨_, rfl, by decide, by decide⟩
      walk_at "wg"
      walk_at "wx"
      refine ro_mul (.inl (by decide)) ?_
      walk_at "wx"
      refine ro_fdiv (by decide) ?_
      walk_at "wx"
      refine ws_forL d (by intro _; rfl) ?_
      walk_at "wx"
      have ndl : p ≠ l := fun e => by rw [e, upd_same] at hl; cases hl
      have ncl : ac ≠ l := fun e => by
        have z : ac ≠ p := ne_of I.hc I.hd (by intro q; cases q)
        rw [← e, upd_ne z, I.hc] at hl
        cases hl
      have ncp : ac ≠ p := ne_of I.hc I.hd (by intro q; cases q)
      have e1 : (upd (upd H p (.dK (D4 aw ac r (t + 1)))) l (.lst [.int 2147483647, .int 2147483629, .int 2147483587, .int 2147483579])) p = some (.dK (D4 aw ac r (t + 1))) := by rw [upd_ne ndl, upd_same]
      have e2 : (upd (upd H p (.dK (D4 aw ac r (t + 1)))) l (.lst [.int 2147483647, .int 2147483629, .int 2147483587, .int 2147483579])) ac = some (.lst (cs.map V.int)) := by rw [upd_ne ncl, upd_ne ncp]; exact I.hc
      refine ⟨_, _, rfl, dgk e1 d4_cells, ?_⟩
      refine ⟨ac, _, rfl, SqL.of e2, fun _ σ H' => H' = upd (upd H p (.dK (D4 aw ac r (t + 1)))) l (.lst [.int 2147483647, .int 2147483629, .int 2147483587, .int 2147483579]) ∧ ∃ b v5, σ = [some (.ref p), some (.int (t + 1)), some (.int f), some (.int pr), some (.int b), v5] ∧ 0 ≤ b ∧ b < 1152921504606846976,
        ⟨rfl, _, _, rfl, ?_, ?_⟩, ?_, ?_, ?_⟩
      · have := I.t0; omega
      · have := I.tB; omega
      · rintro j τ H2 _ ⟨rfl, _⟩
        exact SqL.of e2
      · rintro j y τ H2 hy ⟨rfl, b, v5, rfl, hb0, hb1⟩
        obtain ⟨g, rfl⟩ : ∃ g : Int, y = .int g := by
          have hm := List.mem_of_getElem? hy
          obtain ⟨g, _, e⟩ := List.mem_map.mp hm
          exact ⟨g, e.symm⟩
        walk_at "wg"
        walk_at "wx"
        refine ro_mul (.inr (by decide)) ?_
        walk_at "wx"
        refine ro_mod (by omega) ?_
        walk_at "wx"
        refine ⟨rfl, _, _, rfl, Int.emod_nonneg _ (by omega), ?_⟩
        have := Int.emod_lt_of_pos (b * 69621 + g + (t + 1)) (show 0 < pr by omega)
        omega
      · rintro τ H2 ⟨rfl, b, v5, rfl, hb0, hb1⟩
        walk_at "wx"
        refine ro_mul (.inr (by decide)) ?_
        walk_at "wx"
        refine ro_pow ⟨by decide, by decide, by omega⟩ ?_
        walk_at "wx"
        refine ro_mod (by omega) ?_
        walk_at "wx"
        exact ⟨rfl, _, _, _, _, rfl⟩
    · rintro σ H' ⟨rfl, f, v3, v4, v5, rfl⟩
      walk_at "wx"
      exact k _ _ (same_new hl)
abbrev nTake : List Str := ["_law_draw", "_law_many", "_law_found"]
theorem scTake : FnScope nTake ["_law_draw", "_law_many"] (defScope (top 22)) := ⟨rfl, rfl, rfl, by decide +kernel, rfl, by decide +kernel, by decide +kernel⟩
theorem fn_take (b : Bi G.mg) (FM : Fn G "_law_mixed" 1 1 spMixed) (T : Top G "_law_take" (top 22) ["_law_draw", "_law_many"]) : Fn G "_law_take" 2 2 spTake := by
  refine T.fn (N := nTake) scTake (fun vs H Q E h => ?_) (fun X vs H Q E d h => ?_)
  · obtain ⟨_, _, _, _, rfl, _⟩ := h
    rfl
  · have dd := d.toDef
    obtain ⟨H0, p, B, many, rfl, ⟨s0, nd, aw, ac, ws, cs, r, t, nw, nc, I⟩, hB, m0, m1, k⟩ := h
    -- what follows the test, from any state of the draw
    have rest : ∀ (H1 : Hp) (aw ac : Addr) (ws cs : List Int) (r t : Int), Same H0 H1 → H0 aw = none → H0 ac = none → DrawIs H1 p aw ac ws cs r t (B + 1) → WB X ((defBody (top 22)).drop 1) { nx := fun _ H' => Q .non H', rt := Q } [some (.ref p), some (.int many), none] H1 := by
      intro H1 aw ac ws cs r t s1 nw nc J
      refine wb_cons ?_
      walk_at "wx"
      refine ⟨_, _, rfl, dgk J.hd d4_rest, ?_⟩
      walk_at "wx"
      refine ro_mod m0 ?_
      walk_at "wx"
      refine ⟨_, _, rfl, dgk J.hd d4_rest, ?_⟩
      walk_at "wx"
      refine ro_fdiv ⟨m0, m1⟩ ?_
      walk_at "wx"
      refine ⟨_, _, rfl, dpk J.hd d4_len d4_put_rest, ?_⟩
      walk_at "wx"
      have e0 : 0 ≤ r % many := Int.emod_nonneg _ (by omega)
      have e1 : r % many < many := Int.emod_lt_of_pos _ m0
      exact k _ _ e0 e1 ⟨same_upd s1 nd, nd, aw, ac, ws, cs, _, t, nw, nc, J.step J.t0 J.tB (Same.refl _)⟩
    show WB X _ _ [some (.ref p), some (.int many), none] H
    refine wb_cons ?_
    walk_at "wx"
    refine ⟨_, _, rfl, dgk I.hd d4_rest, ?_⟩
    walk_at "wx"
    refine ite_b (fun hr => ?_) (fun hr => ?_)
    · walk_at "wx"
      refine ⟨_, _, rfl, dgk I.hd d4_wide, ?_⟩
      walk_at "wx"
      refine ⟨by show 0 ≤ sizeLine; decide, fun l hl => ?_⟩
      have I2 := I.keep (Nat.le_succ B) (same_new (o := .lst []) hl)
      refine ro_neD dd (dp_ints (SqL.of I2.hw)) (.lst (SqL.of upd_same) .nil) (shaped_ints _) (by decide) ?_
      rw [eqv_nil]
      walk_at "wx"
      cases ws with
      | nil =>
        refine ite_f ?_
        refine we_call dd FM (by decide) (by decide +kernel) (by rfl) (by rfl) ?_
        walk_at "wx"
        refine ⟨p, aw, ac, [], cs, r, t, B + 1, rfl, I2, by omega, fun n H' s => ?_⟩
        walk_at "wx"
        have hp : H' p = some (.dK (D4 aw ac r (t + 1))) := s _ _ upd_same
        refine ⟨_, _, rfl, dpk hp d4_len d4_put_rest, ?_⟩
        have J := I2.step (t' := t + 1) (r' := r) (C := B + 1) (by have := I.t0; omega) (by have := I.tB; omega) s
        exact rest _ aw ac [] cs n (t + 1) (same_upd ((same_upd (s0.trans (same_new hl)) nd).trans s) nd) nw nc (J.step J.t0 J.tB (Same.refl _))
      | cons z ws =>
        refine ite_t ?_
        refine we_bm dd PySem.F.plainAttrs_list PySem.F.slot_list_pop PySem.F.type_list_pop (by rfl) (by rfl) (by rfl) (by rfl) (by rfl) ?_
        walk_at "wx"
        refine ⟨_, _, rfl, dgk I2.hd d4_wide, ty_list I2.hw, ?_⟩
        walk_at "wx"
        refine rm_pop0 I2.hw ?_
        walk_at "wx"
        have e1 : p ≠ aw := ne_of I.hd I.hw (by intro q; cases q)
        refine ⟨_, _, rfl, dpk (by rw [upd_ne e1]; exact I2.hd) d4_len d4_put_rest, ?_⟩
        exact rest _ aw ac ws cs z t (same_upd (same_upd (s0.trans (same_new hl)) nw) nd) nw nc (I2.pop (Same.refl _))
    · refine wb_nil ?_
      exact rest H aw ac ws cs r t s0 nw nc (I.keep (Nat.le_succ B) (Same.refl _))

abbrev nPick : List Str := ["_law_draw", "_law_some"]
theorem scPick : FnScope nPick ["_law_draw", "_law_some"] (defScope (top 23)) := ⟨rfl, rfl, rfl, by decide +kernel, rfl, by decide +kernel, by decide +kernel⟩
theorem fn_pick (b : Bi G.mg) (FT : Fn G "_law_take" 2 2 spTake) (T : Top G "_law_pick" (top 23) ["_law_draw", "_law_some"]) : Fn G "_law_pick" 2 3 (spPick G.K) := by
  refine T.fn (N := nPick) scPick (fun vs H Q E h => ?_) (fun X vs H Q E d h => ?_)
  · obtain ⟨_, _, _, _, _, rfl, _⟩ := h
    rfl
  · have dd := d.toDef
    obtain ⟨H0, p, l, B, xs, rfl, A, hB, hl, l0, l1, k⟩ := h
    show WB X _ _ [some (.ref p), some (.ref l)] H
    refine wb_one ?_
    walk_at "wx"
    refine we_call dd FT (by decide) (by decide +kernel) (by rfl) (by rfl) ?_
    walk_at "wx"
    refine rc_lenL dd (A.same.seq hl) ?_
    walk_at "wx"
    refine ⟨H0, p, B, _, rfl, A, hB, by omega, by omega, fun n H' h0 h1 A' => ?_⟩
    have e : xs[n.toNat]? = some (xs[n.toNat]'(by omega)) := List.getElem?_eq_getElem (by omega)
    have ez : ((n.toNat : Nat) : Int) = n := Int.toNat_of_nonneg h0
    refine rx_list dd (A'.same.seq hl) (by rw [← ez]; exact atI_nat e) ?_
    exact k _ _ _ e A'
abbrev nBegun : List Str := ["_law_script", "_law_wide", "_law_grain"]
theorem scBegun : FnScope nBegun ["_law_script"] (defScope (top 20)) := ⟨rfl, rfl, rfl, by decide +kernel, rfl, by decide +kernel, by decide +kernel⟩
theorem fn_begun (b : Bi G.mg) (T : Top G "_law_begun" (top 20) ["_law_script"]) : Fn G "_law_begun" 1 1 (spBegun G.K) := by
  refine T.fn (N := nBegun) scBegun (fun vs H Q E h => ?_) (fun X vs H Q E d h => ?_)
  · obtain ⟨_, _, rfl, _⟩ := h
    rfl
  · have dd := d.toDef
    obtain ⟨a, ns, rfl, hS, hn, k⟩ := h
    show WB X _ _ [some (.ref a), none, none] H
    refine wb_cons ?_
    refine ws_lcL d 1 [("_law_grain", 2)] (by rfl) (by decide +kernel) (by decide +kernel) (by intro _; rfl) (by rfl) (by decide +kernel) ?_
    walk_at "wx"
    refine ⟨a, _, rfl, hS, fun L hL => ⟨fun i H' => ∃ acc : List Int, acc.length ≤ i ∧ H' = upd H L (.lst (acc.map V.int)), ⟨[], Nat.zero_le _, rfl⟩, ?_, ?_, ?_⟩⟩
    · rintro i H' _ ⟨acc, _, rfl⟩
      exact (same_new hL).seq hS
    · rintro i x H' hx ⟨acc, hl, rfl⟩ X' dX
      obtain ⟨g, hg, rfl⟩ := int_of_map hx
      dsimp only [L2.wipe, List.map, List.set]
      walk_at "wg"
      refine ⟨rfl, fun X' dX => wts_one ?_⟩
      walk_at "wx"
      refine rc_abs ?_
      walk_at "wx"
      refine ro_pow ⟨by decide, by decide, by decide⟩ ?_
      walk_at "wx"
      refine ite_b (fun _ => ?_) (fun _ => ⟨acc, by omega, rfl⟩)
      intro X'' d2
      walk_at "wx"
      refine rc_abs ?_
      walk_at "wx"
      refine ro_pow ⟨by decide, by decide, by decide⟩ ?_
      walk_at "wx"
      have hi : i < ns.length := (List.getElem?_eq_some_iff.mp hg).1
      refine ⟨_, upd_same, by rw [List.length_map]; exact len_lt (by omega), _, ?_, by rw [upd_upd, map_app]⟩
      rw [List.length_append, List.length_singleton]
      omega
    · rintro H' ⟨ws, hw, rfl⟩
      rw [List.length_map] at hw
      refine wb_one ?_
      walk_at "wx"
      refine we_disp4 dd fun p hp => ?_
      have npL : L ≠ p := ne_of_none upd_same hp
      walk_at "wx"
      refine we_lcL dd [("_law_grain", 2)] (by decide +kernel) (by intro _; rfl) ?_
      walk_at "wx"
      refine ⟨a, _, rfl, ((same_new hL).trans (same_new hp)).seq hS, fun M hM => ⟨fun i H' => ∃ acc : List Int, (∀ c ∈ acc, 0 ≤ c ∧ c < 2147483648) ∧ acc.length ≤ i ∧ H' = upd (upd (upd H L (.lst (ws.map V.int))) p (.dK [])) M (.lst (acc.map V.int)), ⟨[], (fun _ h => nomatch h), Nat.zero_le _, rfl⟩, ?_, ?_, ?_⟩⟩
      · rintro i H' _ ⟨acc, _, _, rfl⟩
        exact (((same_new hL).trans (same_new hp)).trans (same_new hM)).seq hS
      · rintro i x H' hx ⟨acc, hc, hl, rfl⟩ X' dX
        obtain ⟨g, hg, rfl⟩ := int_of_map hx
        dsimp only [L2.wipe, List.map, List.set]
        walk_at "wg"
        refine ⟨rfl, fun X' dX => wts_nil (ite_t ?_)⟩
        intro X'' d2
        walk_at "wx"
        refine rc_abs ?_
        walk_at "wx"
        refine ro_mod (by decide) ?_
        have hi : i < ns.length := (List.getElem?_eq_some_iff.mp hg).1
        refine ⟨_, upd_same, by rw [List.length_map]; exact len_lt (by omega), _, ?_, ?_, by rw [upd_upd, map_app]⟩
        · intro c hm
          rcases List.mem_append.mp hm with hm | hm
          · exact hc c hm
          · rw [List.mem_singleton.mp hm]
            have h0 := Int.emod_nonneg (if g < 0 then -g else g) (show (2147483629 : Int) ≠ 0 by decide)
            have h1 := Int.emod_lt_of_pos (if g < 0 then -g else g) (show (0 : Int) < 2147483629 by decide)
            omega
        · rw [List.length_append, List.length_singleton]
          omega
      · rintro H' ⟨cs, hc, _, rfl⟩
        walk_at "wx"
        have npM : p ≠ M := ne_of_none upd_same hM
        have nLM : L ≠ M := ne_of_none (by rw [upd_ne npL]; exact upd_same) hM
        refine ⟨by rw [upd_ne npM]; exact upd_same, ?_⟩
        rw [d4_make]
        have hMp : H M = none := by rw [upd_ne npM.symm, upd_ne nLM.symm] at hM; exact hM
        have hpH : H p = none := by rw [upd_ne npL.symm] at hp; exact hp
        refine k p _ ⟨same_upd (same_upd (same_upd (same_upd (Same.refl _) hL) hpH) hMp) hpH, hpH, L, M, ws, cs, 0, 0, hL, hMp, ⟨upd_same, ?_, ?_, by decide, by decide, hc, by omega, nLM⟩⟩
        · rw [upd_ne npL, upd_ne nLM, upd_ne npL, upd_same]
        · rw [upd_ne npM.symm, upd_same]
end K27

namespace K27
variable {G : Gb}
/-! ### stretches -/
/-- a stretch: its ends, whether it may be open -/
abbrev S3 := Option (Int × Int) × Bool
def sv : S3 → List V
  | (none, m) => [.non, .non, .bl m]
  | (some (l, h), m) => [.int l, .int h, .bl m]
def sd : S3 → PyData
  | (none, m) => .tuple [.none, .none, .bool m]
  | (some (l, h), m) => .tuple [.int l, .int h, .bool m]
def ok3 : S3 → Prop
  | (none, m) => m = true
  | (some (l, h), _) => l ≤ h
def isNum : PyData → Bool
  | .int _ => true
  | _ => false
def isNo : PyData → Bool
  | .none => true
  | _ => false
def leD : PyData → PyData → Bool
  | .int i, .int j => decide (i ≤ j)
  | _, _ => false
/-- is_stretch, of data -/
def isS : PyData → Bool
  | .tuple [a, b, .bool m] => if isNo a || isNo b then isNo a && (isNo b && m) else isNum a && (isNum b && leD a b)
  | _ => false
def isW : PyData → Bool
  | .none => true
  | .int _ => true
  | _ => false
theorem dp_sv {K : PySem.W.Frag} {H : Hp} {a : Addr} {s : S3} (h : SqT K H a (sv s)) : Dp K H (.ref a) (sd s) := by
  obtain ⟨o, m⟩ := s
  cases o with
  | none => exact .tup h (.cons .non (.cons .non (.cons (.bl m) .nil)))
  | some p => exact .tup h (.cons (.int _) (.cons (.int _) (.cons (.bl m) .nil)))
def spNum (K : PySem.W.Frag) : Sp := fun vs H Q _ => ∃ v d, vs = [v] ∧ Dp K H v d ∧ Q (.bl (isNum d)) H
def spWorth (K : PySem.W.Frag) : Sp := fun vs H Q _ => ∃ v d, vs = [v] ∧ Dp K H v d ∧ Q (.bl (isW d)) H
theorem fn_num (b : Bi G.mg) (T : Top G "is_number" (top 6) ["thing"]) : Fn G "is_number" 1 1 (spNum G.K) := by
  refine T.fn (N := ["thing"]) ⟨rfl, rfl, rfl, by decide +kernel, rfl, by decide +kernel, by decide +kernel⟩ (fun vs H Q E h => ?_) (fun X vs H Q E d h => ?_)
  · obtain ⟨_, _, rfl, _⟩ := h
    rfl
  · have dd := d.toDef
    obtain ⟨v, da, rfl, hv, k⟩ := h
    show WB X _ _ [some v] H
    refine wb_one ?_
    cases hv with
    | int i =>
      walk_at "wx"
      refine ite_t ?_
      walk_at "wx"
      exact k
    | bl x =>
      walk_at "wx"
      refine ite_t ?_
      walk_at "wx"
      exact k
    | non =>
      walk_at "wx"
      exact ite_f k
    | str z =>
      walk_at "wx"
      exact ite_f k
    | lst h1 h2 =>
      walk_at "wx"
      exact ite_f k
    | tup h1 h2 =>
      walk_at "wx"
      exact ite_f k
theorem fn_worth (b : Bi G.mg) (F : Fn G "is_number" 1 1 (spNum G.K)) (T : Top G "is_worth" (top 7) ["thing"]) : Fn G "is_worth" 1 2 (spWorth G.K) := by
  refine T.fn (N := ["thing"]) ⟨rfl, rfl, rfl, by decide +kernel, rfl, by decide +kernel, by decide +kernel⟩ (fun vs H Q E h => ?_) (fun X vs H Q E d h => ?_)
  · obtain ⟨_, _, rfl, _⟩ := h
    rfl
  · have dd := d.toDef
    obtain ⟨v, da, rfl, hv, k⟩ := h
    show WB X _ _ [some v] H
    refine wb_one ?_
    walk_at "wx"
    refine ite_b (fun e => ?_) (fun e => ?_)
    · have e' := of_decide_eq_true e
      subst e'
      cases hv
      exact k
    · walk_at "wx"
      refine we_call dd F (by decide) (by decide +kernel) (by rfl) (by rfl) ?_
      walk_at "wx"
      refine ⟨v, da, rfl, hv, ?_⟩
      cases hv with
      | non => exact absurd e (by decide)
      | _ => exact k
def spList (K : PySem.W.Frag) : Sp := fun vs H Q _ => ∃ (v : V) (t : String) (r s : Bool), vs = [v] ∧ TyX K H v (.type t) ∧ kitB t "list" = some r ∧ kitB t "tuple" = some s ∧ ∀ H', Same H H' → Q (.bl (r || s)) H'
theorem _root_.L2.TyX.same {K : PySem.W.Frag} {H H' : Hp} {v : V} {t : Value} (e : Same H H') (h : TyX K H v t) : TyX K H' v t := by
  cases h with
  | base h =>
    refine .base ?_
    cases h with
    | non => exact .non
    | bl => exact .bl _
    | int => exact .int _
    | str => exact .str _
    | flt => exact .flt _
    | lst q => exact .lst (e _ _ q)
    | frz q => exact .frz (e _ _ q)
    | tup q => exact .tup (e _ _ q)
    | dK q => exact .dK (e _ _ q)
    | dT q => exact .dT (e _ _ q)
    | ins q a b c d f => exact .ins (e _ _ q) a b c d f
  | byt => exact .byt _
  | set q => exact .set (e _ _ q)
  | kList q c => exact .kList q c
  | kTuple q c => exact .kTuple q c
  | kDict q c => exact .kDict q c
  | fTuple q => exact .fTuple (e _ _ q)
  | fDict q => exact .fDict (e _ _ q)
theorem fn_list (b : Bi G.mg) (T : Top G "is_list" (top 8) ["thing"]) : Fn G "is_list" 1 1 (spList G.K) := by
  refine T.fn (N := ["thing"]) ⟨rfl, rfl, rfl, by decide +kernel, rfl, by decide +kernel, by decide +kernel⟩ (fun vs H Q E h => ?_) (fun X vs H Q E d h => ?_)
  · obtain ⟨_, _, _, _, rfl, _⟩ := h
    rfl
  · have dd := d.toDef
    obtain ⟨v, t, r, s, rfl, hv, h1, h2, k⟩ := h
    show WB X _ _ [some v] H
    refine wb_one ?_
    walk_at "wx"
    refine ⟨by show 2 ≤ sizeLine; decide, fun p hp => ?_⟩
    walk_at "wx"
    refine rc_isiT dd upd_same (.cons (.ty _) (.cons (.ty _) .nil)) (hv.same (same_new hp)) (kit_bt2 h1 h2) ?_
    exact k _ (same_new hp)
/-- is_tuple_of(thing, 3) -/
def spTup (K : PySem.W.Frag) : Sp := fun vs H Q _ => ∃ (v : V) (d : PyData), vs = [v, .int 3] ∧ Dp K H v d ∧ Q (.bl (match d with | .tuple ds => decide (ds.length = 3) | _ => false)) H
theorem fn_tup (b : Bi G.mg) (T : Top G "is_tuple_of" (top 9) ["thing", "count"]) : Fn G "is_tuple_of" 2 1 (spTup G.K) := by
  refine T.fn (N := ["thing", "count"]) ⟨rfl, rfl, rfl, by decide +kernel, rfl, by decide +kernel, by decide +kernel⟩ (fun vs H Q E h => ?_) (fun X vs H Q E d h => ?_)
  · obtain ⟨_, _, rfl, _⟩ := h
    rfl
  · have dd := d.toDef
    obtain ⟨v, da, rfl, hv, k⟩ := h
    show WB X _ _ [some v, some (.int 3)] H
    refine wb_one ?_
    cases hv with
    | @tup a xs ds h1 h2 =>
      walk_at "wx"
      refine ite_t ?_
      walk_at "wx"
      refine rc_lenT dd h1 ?_
      walk_at "wx"
      have e : decide ((xs.length : Int) = 3) = decide (ds.length = 3) := by
        rw [h2.len, decide_eq_decide]
        omega
      rw [e]
      exact k
    | _ =>
      walk_at "wx"
      exact ite_f k
end K27

namespace K27
variable {G : Gb}
def wv : Option Int → V
  | none => .non
  | some i => .int i
def allowsB : S3 → Option Int → Bool
  | (_, m), none => m
  | (none, _), some _ => false
  | (some (l, h), _), some i => decide (l ≤ i) && decide (i ≤ h)
theorem at0 {α : Type} {a : α} {l : List α} : atI (a :: l) 0 = some a := atI_nat (j := 0) rfl
theorem at1 {α : Type} {a b : α} {l : List α} : atI (a :: b :: l) 1 = some b := atI_nat (j := 1) rfl
theorem at2 {α : Type} {a b c : α} {l : List α} : atI (a :: b :: c :: l) 2 = some c := atI_nat (j := 2) rfl
def spAllowsW (K : PySem.W.Frag) : Sp := fun vs H Q _ => ∃ (a : Addr) (s : S3) (w : Option Int), vs = [.ref a, wv w] ∧ SqT K H a (sv s) ∧ Q (.bl (allowsB s w)) H
theorem fn_allowsW (T : Top G "allows_worth" (top 11) ["stretch", "worth"]) : Fn G "allows_worth" 2 1 (spAllowsW G.K) := by
  refine T.fn (N := ["stretch", "worth"]) ⟨rfl, rfl, rfl, by decide +kernel, rfl, by decide +kernel, by decide +kernel⟩ (fun vs H Q E h => ?_) (fun X vs H Q E d h => ?_)
  · obtain ⟨_, _, _, rfl, _⟩ := h
    rfl
  · have dd := d.toDef
    obtain ⟨a, ⟨o, m⟩, w, rfl, hs, k⟩ := h
    cases w with
    | none =>
      show WB X _ _ [some (.ref a), some .non] H
      refine wb_cons ?_
      walk_at "wx"
      refine ite_t ?_
      walk_at "wx"
      cases o with
      | none => exact rx_tup dd hs at2 k
      | some p => exact rx_tup dd hs at2 k
    | some i =>
      show WB X _ _ [some (.ref a), some (.int i)] H
      refine wb_cons ?_
      walk_at "wx"
      refine ite_f ?_
      walk_at "wx"
      cases o with
      | none =>
        refine rx_tup dd hs at0 ?_
        walk_at "wx"
        exact ite_f k
      | some p =>
        obtain ⟨l, h⟩ := p
        refine rx_tup dd hs at0 ?_
        walk_at "wx"
        refine ite_t ?_
        walk_at "wx"
        refine rx_tup dd hs at0 ?_
        walk_at "wx"
        have k : Q (.bl (decide (l ≤ i) && decide (i ≤ h))) H := k
        refine ite_b (fun e => ?_) (fun e => ?_)
        · walk_at "wx"
          refine rx_tup dd hs at1 ?_
          walk_at "wx"
          rw [e, Bool.true_and] at k
          exact k
        · rw [e, Bool.false_and] at k
          exact k
/-! ### the hull -/
def mayOf (ss : List S3) : Bool := ss.any (·.2)
def lows (ss : List S3) : List Int := ss.filterMap fun s => s.1.map (·.1)
def highs (ss : List S3) : List Int := ss.filterMap fun s => s.1.map (·.2)
/-- r is the hull's value -/
def HullIs (ss : List S3) (r : S3) : Prop := r.2 = mayOf ss ∧ match r.1 with
  | none => lows ss = []
  | some (l, h) => l ∈ lows ss ∧ (∀ y ∈ lows ss, l ≤ y) ∧ h ∈ highs ss ∧ ∀ y ∈ highs ss, y ≤ h
/-- the stretches stand at their addresses -/
def Strs (K : PySem.W.Frag) (H : Hp) (ps : List (Addr × S3)) : Prop := ∀ p ∈ ps, SqT K H p.1 (sv p.2)
theorem Strs.same {K : PySem.W.Frag} {H H' : Hp} {ps : List (Addr × S3)} (e : Same H H') (h : Strs K H ps) : Strs K H' ps := fun p m => e.tup (h p m)
abbrev refs (ps : List (Addr × S3)) : List V := ps.map fun p => .ref p.1
def spHullOf (K : PySem.W.Frag) : Sp := fun vs H Q _ => ∃ (a : Addr) (ps : List (Addr × S3)), vs = [.ref a] ∧ (SqL K H a (refs ps) ∨ SqT K H a (refs ps)) ∧ Strs K H ps ∧ ps.length < 100000 ∧
  ∀ (r : S3) (p : Addr) (H' : Hp), HullIs (ps.map (·.2)) r → Same H H' → H p = none → H' p = some (.tup (sv r)) → Q (.ref p) H'
abbrev nHull : List Str := ["stretches", "may", "lows", "highs", "one"]
theorem scHull : FnScope nHull ["stretches"] (defScope (top 12)) := ⟨rfl, rfl, rfl, by decide +kernel, rfl, by decide +kernel, by decide +kernel⟩
theorem fm_low (ps : List (Addr × S3)) : ps.filterMap (fun p => p.2.1.map fun q => V.int q.1) = (lows (ps.map (·.2))).map V.int := by
  unfold lows
  rw [List.filterMap_map, List.map_filterMap]
  congr 1
  funext p
  obtain ⟨a, o, m⟩ := p
  cases o <;> rfl
theorem fm_high (ps : List (Addr × S3)) : ps.filterMap (fun p => p.2.1.map fun q => V.int q.2) = (highs (ps.map (·.2))).map V.int := by
  unfold highs
  rw [List.filterMap_map, List.map_filterMap]
  congr 1
  funext p
  obtain ⟨a, o, m⟩ := p
  cases o <;> rfl
theorem fm_may (ps : List (Addr × S3)) : ps.filterMap (fun p => some (V.bl p.2.2)) = (ps.map (·.2.2)).map V.bl := by
  rw [List.filterMap_eq_map' , List.map_map] <;> rfl
theorem fn_hullOf (b : Bi G.mg) (T : Top G "hull_of" (top 12) ["stretches"]) : Fn G "hull_of" 1 1 (spHullOf G.K) := by
  refine T.fn (N := nHull) scHull (fun vs H Q E h => ?_) (fun X vs H Q E d h => ?_)
  · obtain ⟨_, _, rfl, _⟩ := h
    rfl
  · have dd := d.toDef
    obtain ⟨a, ps, rfl, hq, hs, hn, k⟩ := h
    show WB X _ _ [some (.ref a), none, none, none, none] H
    rcases hq with hq | hq
    all_goals
      refine wb_cons ?_
      walk_at "wx"
      first
        | (refine we_lcL dd [("one", 4)] (by decide +kernel) (by intro _; rfl) ?_; walk_at "wx"; refine lcL_map (fun p => V.ref p.1) (fun p => some (.bl p.2.2)) hq hn (fun p hp H1 s1 R hR => ?_) (fun L H1 hL s1 h1 => ?_))
        | (refine we_lcT dd [("one", 4)] (by decide +kernel) (by intro _; rfl) ?_; walk_at "wx"; refine lcT_map (fun p => V.ref p.1) (fun p => some (.bl p.2.2)) hq hn (fun p hp H1 s1 R hR => ?_) (fun L H1 hL s1 h1 => ?_))
      · intro X' d'
        dsimp only [L2.wipe, List.map, List.set]
        walk_at "wg"
        refine ⟨rfl, fun X2 d2 => wts_nil (ite_t fun X3 d3 => ?_)⟩
        walk_at "wx"
        have hp' := s1.tup (hs p hp)
        obtain ⟨pa, po, pm⟩ := p
        cases po with
        | none => exact rx_tup d3 hp' at2 (hR _ (Same.refl _))
        | some q => exact rx_tup d3 hp' at2 (hR _ (Same.refl _))
      rw [fm_may] at h1
      walk_at "wx"
      refine rc_any dd (SqL.of h1) ?_
      have em : (ps.map (·.2.2)).any id = mayOf (ps.map (·.2)) := by
        unfold mayOf
        rw [List.any_map, List.any_map] <;> rfl
      rw [em]
      walk_at "wx"
      have hs1 := hs.same s1
      first
        | (refine ws_lcL d 2 [("one", 4)] (by rfl) (by decide +kernel) (by decide +kernel) (by intro _; rfl) (by rfl) (by decide +kernel) ?_; walk_at "wx"; refine lcL_map (fun p => V.ref p.1) (fun p => p.2.1.map fun q => V.int q.1) (s1.seq hq) hn (fun p hp H2 s2 R hR => ?_) (fun Lb H2 hL2 s2 h2 => ?_))
        | (refine ws_lcT d 2 [("one", 4)] (by rfl) (by decide +kernel) (by decide +kernel) (by intro _; rfl) (by rfl) (by decide +kernel) ?_; walk_at "wx"; refine lcT_map (fun p => V.ref p.1) (fun p => p.2.1.map fun q => V.int q.1) (s1.tup hq) hn (fun p hp H2 s2 R hR => ?_) (fun Lb H2 hL2 s2 h2 => ?_))
      · intro X' d'
        dsimp only [L2.wipe, List.map, List.set]
        walk_at "wg"
        refine ⟨rfl, fun X2 d2 => wts_one ?_⟩
        walk_at "wx"
        have hp' := s2.tup (hs1 p hp)
        obtain ⟨pa, po, pm⟩ := p
        cases po with
        | none =>
          refine rx_tup d2 hp' at0 ?_
          walk_at "wx"
          exact ite_f (hR _ (Same.refl _))
        | some q =>
          refine rx_tup d2 hp' at0 ?_
          walk_at "wx"
          refine ite_t fun X3 d3 => ?_
          walk_at "wx"
          exact rx_tup d3 hp' at0 (hR _ (Same.refl _))
      rw [fm_low] at h2
      have hs2 := hs1.same s2
      walk_at "wx"
      first
        | (refine ws_lcL d 3 [("one", 4)] (by rfl) (by decide +kernel) (by decide +kernel) (by intro _; rfl) (by rfl) (by decide +kernel) ?_; walk_at "wx"; refine lcL_map (fun p => V.ref p.1) (fun p => p.2.1.map fun q => V.int q.2) (s2.seq (s1.seq hq)) hn (fun p hp H3 s3 R hR => ?_) (fun L3 H3 hL3 s3 h3 => ?_))
        | (refine ws_lcT d 3 [("one", 4)] (by rfl) (by decide +kernel) (by decide +kernel) (by intro _; rfl) (by rfl) (by decide +kernel) ?_; walk_at "wx"; refine lcT_map (fun p => V.ref p.1) (fun p => p.2.1.map fun q => V.int q.2) (s2.tup (s1.tup hq)) hn (fun p hp H3 s3 R hR => ?_) (fun L3 H3 hL3 s3 h3 => ?_))
      · intro X' d'
        dsimp only [L2.wipe, List.map, List.set]
        walk_at "wg"
        refine ⟨rfl, fun X2 d2 => wts_one ?_⟩
        walk_at "wx"
        have hp' := s3.tup (hs2 p hp)
        obtain ⟨pa, po, pm⟩ := p
        cases po with
        | none =>
          refine rx_tup d2 hp' at1 ?_
          walk_at "wx"
          exact ite_f (hR _ (Same.refl _))
        | some q =>
          refine rx_tup d2 hp' at1 ?_
          walk_at "wx"
          refine ite_t fun X3 d3 => ?_
          walk_at "wx"
          exact rx_tup d3 hp' at1 (hR _ (Same.refl _))
      rw [fm_high] at h3
      walk_at "wx"
      have h2' : H3 Lb = some (.lst ((lows (ps.map (·.2))).map V.int)) := s3 _ _ h2
      refine ⟨_, truL dd (SqL.of h2'), ?_⟩
      rw [List.isEmpty_map]
      have hle : (lows (ps.map (·.2))).length = (highs (ps.map (·.2))).length := by
        unfold lows highs
        generalize ps.map (·.2) = ss
        induction ss with
        | nil => rfl
        | cons s ss ih =>
          obtain ⟨o, m⟩ := s
          cases o with
          | none => exact ih
          | some q => exact congrArg Nat.succ ih
      cases e : (lows (ps.map (·.2))).isEmpty with
      | true =>
        refine ite_f ?_
        walk_at "wx"
        refine ⟨by show 3 ≤ sizeLine; decide, fun p hp => ?_⟩
        have hp0 : H p = none := s1.free (s2.free (s3.free hp))
        exact k (none, mayOf (ps.map (·.2))) p _ ⟨rfl, List.isEmpty_iff.mp e⟩ (((s1.trans s2).trans s3).trans (same_new hp)) hp0 upd_same
      | false =>
        have l0 : 0 < (lows (ps.map (·.2))).length := by
          cases e2 : lows (ps.map (·.2)) with
          | nil => rw [e2] at e; cases e
          | cons x xs => exact Nat.succ_pos _
        refine ite_t ?_
        walk_at "wx"
        refine rc_minL dd (SqL.of h2') l0 fun l hl1 hl2 => ?_
        walk_at "wx"
        refine rc_maxL dd (SqL.of h3) (hle ▸ l0) fun h hh1 hh2 => ?_
        walk_at "wx"
        refine ⟨by show 3 ≤ sizeLine; decide, fun p hp => ?_⟩
        have hp0 : H p = none := s1.free (s2.free (s3.free hp))
        exact k (some (l, h), mayOf (ps.map (·.2))) p _ ⟨rfl, hl1, hl2, hh1, hh2⟩ (((s1.trans s2).trans s3).trans (same_new hp)) hp0 upd_same
end K27

namespace K27
variable {G : Gb}
theorem no_dec {K : PySem.W.Frag} {H : Hp} {v : V} {d : PyData} (h : Dp K H v d) : decide (v = .non) = isNo d := by cases h <;> rfl
def spIs (K : PySem.W.Frag) : Sp := fun vs H Q _ => ∃ v d, vs = [v] ∧ Dp K H v d ∧ Q (.bl (isS d)) H
theorem isS_len {ds : List PyData} (h : ¬ ds.length = 3) : isS (.tuple ds) = false := by
  cases e : isS (.tuple ds) with
  | false => rfl
  | true =>
    unfold isS at e
    split at e
    · rename_i h'
      cases h'
      exact absurd rfl h
    · cases e
abbrev nIs : List Str := ["thing", "low", "high", "may"]
theorem scIs : FnScope nIs ["thing"] (defScope (top 14)) := ⟨rfl, rfl, rfl, by decide +kernel, rfl, by decide +kernel, by decide +kernel⟩
theorem fn_is (b : Bi G.mg) (FT : Fn G "is_tuple_of" 2 1 (spTup G.K)) (FN : Fn G "is_number" 1 1 (spNum G.K)) (T : Top G "is_stretch" (top 14) ["thing"]) : Fn G "is_stretch" 1 2 (spIs G.K) := by
  refine T.fn (N := nIs) scIs (fun vs H Q E h => ?_) (fun X vs H Q E d h => ?_)
  · obtain ⟨_, _, rfl, _⟩ := h
    rfl
  · have dd := d.toDef
    obtain ⟨v, da, rfl, hv, k⟩ := h
    show WB X _ _ [some v, none, none, none] H
    refine wb_cons ?_
    walk_at "wx"
    refine we_call dd FT (by decide) (by decide +kernel) (by rfl) (by rfl) ?_
    walk_at "wx"
    refine ⟨v, da, rfl, hv, ?_⟩
    have no : isS da = false → Q (.bl false) H := fun e => by rw [← e]; exact k
    cases hv with
    | @tup a xs ds h1 h2 =>
      walk_at "wx"
      by_cases e3 : ds.length = 3
      · obtain ⟨x, y, z, rfl⟩ : ∃ x y z, xs = [x, y, z] := by
          have l := h2.len
          rw [e3] at l
          match xs, l with
          | [x, y, z], _ => exact ⟨x, y, z, rfl⟩
        cases h2 with | cons hx h2 =>
        cases h2 with | cons hy h2 =>
        cases h2 with | cons hz h2 =>
        cases h2
        refine ite_f ?_
        walk_at "wx"
        refine rx_tup dd h1 at2 ?_
        have hz' := hz
        cases hz with
        | bl m =>
          walk_at "wx"
          refine ite_f ?_
          walk_at "wx"
          refine ws_asg (by rfl) (by rfl) (by rfl) ?_
          walk_at "wx"
          refine wg_tup dd h1 (by rfl) (by rfl) ?_
          walk_at "wx"
          have k : Q (.bl (if isNo _ || isNo _ then isNo _ && (isNo _ && m) else isNum _ && (isNum _ && leD _ _))) H := k
          have final : isNo _ = false → isNo _ = false → WB X ((defBody (top 14)).drop 3) { nx := fun _ H' => Q .non H', rt := Q } [some (.ref a), some x, some y, some (.bl m)] H := fun nx ny => by
            rw [nx, ny] at k
            have k : Q (.bl (isNum _ && (isNum _ && leD _ _))) H := k
            refine wb_one ?_
            walk_at "wx"
            refine we_call dd FN (by decide) (by decide +kernel) (by rfl) (by rfl) ?_
            walk_at "wx"
            refine ⟨x, _, rfl, hx, ?_⟩
            walk_at "wx"
            refine ite_b (fun e => ?_) (fun e => by rw [e, Bool.false_and] at k; exact k)
            rw [e, Bool.true_and] at k
            walk_at "wx"
            refine we_call dd FN (by decide) (by decide +kernel) (by rfl) (by rfl) ?_
            walk_at "wx"
            refine ⟨y, _, rfl, hy, ?_⟩
            walk_at "wx"
            refine ite_b (fun e2 => ?_) (fun e2 => by rw [e2, Bool.false_and] at k; exact k)
            rw [e2, Bool.true_and] at k
            walk_at "wx"
            cases hx with
            | int i =>
              cases hy with
              | int j =>
                walk_at "wx"
                exact k
              | _ => cases e2
            | _ => cases e
          rw [no_dec hx]
          refine ite_b (fun ex => ?_) (fun ex => ?_)
          · rw [ex, Bool.true_or] at k
            have k : Q (.bl (true && (isNo _ && m))) H := k
            rw [Bool.true_and] at k
            refine ite_t ?_
            walk_at "wx"
            rw [no_dec hx, ex]
            refine ite_t ?_
            walk_at "wx"
            rw [no_dec hy]
            refine ite_b (fun ey => ?_) (fun ey => ?_)
            · walk_at "wx"
              rw [ey, Bool.true_and] at k
              exact k
            · rw [ey, Bool.false_and] at k
              exact k
          · walk_at "wx"
            rw [no_dec hy]
            refine ite_b (fun ey => ?_) (fun ey => ?_)
            · rw [ex, ey] at k
              have k : Q (.bl false) H := k
              walk_at "wx"
              rw [no_dec hx, ex]
              exact ite_f k
            · refine wb_nil ?_
              exact final ex ey
        | _ =>
          walk_at "wx"
          refine ite_t ?_
          walk_at "wx"
          exact no rfl
      · have e4 : decide (ds.length = 3) = false := decide_eq_false e3
        refine ite_b (fun _ => ?_) (fun h => by rw [e4] at h; cases h)
        walk_at "wy"
        refine no ?_
        exact isS_len e3
    | _ =>
      walk_at "wy"
      exact no rfl
/-! ### the functions that refuse -/
/-- the classes of errors that this text raises -/
structure Er (G : Gb) where
  S : Addr
  st : Addr
  sts : Addr
  w : Addr
  eS : G.mg "SheetError" = some (.ref S)
  est : ExC G "BadStretch" st
  ests : ExC G "BadStretches" sts
  ew : ExC G "BadWorth" w
  mst : ExM G "SheetError" S st
  msts : ExM G "SheetError" S sts
  mw : ExM G "SheetError" S w
  cst : ExcC G.K st
  csts : ExcC G.K sts
  cw : ExcC G.K w
def spWant (K : PySem.W.Frag) (C : Addr) : Sp := fun vs H Q E => ∃ v d, vs = [v] ∧ Dp K H v d ∧ (isS d = true → Q .non H) ∧ (isS d = false → E (.ref C) none H)
theorem fn_want (b : Bi G.mg) (e : Er G) (FI : Fn G "is_stretch" 1 2 (spIs G.K)) (T : Top G "want_stretch" (top 18) ["thing"]) : Fn G "want_stretch" 1 3 (spWant G.K e.st) := by
  refine T.fn (N := ["thing"]) ⟨rfl, rfl, rfl, by decide +kernel, rfl, by decide +kernel, by decide +kernel⟩ (fun vs H Q E h => ?_) (fun X vs H Q E d h => ?_)
  · obtain ⟨_, _, rfl, _⟩ := h
    rfl
  · have dd := d.toDef
    obtain ⟨v, da, rfl, hv, k1, k2⟩ := h
    show WB X _ _ [some v] H
    refine wb_one ?_
    walk_at "wy"
    refine we_call dd FI (by decide) (by decide +kernel) (by rfl) (by rfl) ?_
    walk_at "wy"
    refine ⟨v, da, rfl, hv, ?_⟩
    walk_at "wy"
    cases ei : isS da with
    | true =>
      walk_at "wy"
      exact k1 ei
    | false =>
      walk_at "wy"
      exact ws_raise d e.est (by decide +kernel) (k2 ei)
/-- allows(stretch, worth): s the stretch, where it is one -/
def spAllows (K : PySem.W.Frag) (C D : Addr) : Sp := fun vs H Q E => ∃ v d w dw, vs = [v, w] ∧ Dp K H v d ∧ Dp K H w dw ∧ (isS d = false → E (.ref C) none H) ∧ (isS d = true → isW dw = false → E (.ref D) none H) ∧
  (isS d = true → isW dw = true → ∃ (a : Addr) (s : S3) (o : Option Int), v = .ref a ∧ SqT K H a (sv s) ∧ w = wv o ∧ Q (.bl (allowsB s o)) H)
theorem fn_allows (b : Bi G.mg) (e : Er G) (FS : Fn G "want_stretch" 1 3 (spWant G.K e.st)) (FW : Fn G "is_worth" 1 2 (spWorth G.K)) (FA : Fn G "allows_worth" 2 1 (spAllowsW G.K)) (T : Top G "allows" (top 15) ["stretch", "worth"]) : Fn G "allows" 2 4 (spAllows G.K e.st e.w) := by
  refine T.fn (N := ["stretch", "worth"]) ⟨rfl, rfl, rfl, by decide +kernel, rfl, by decide +kernel, by decide +kernel⟩ (fun vs H Q E h => ?_) (fun X vs H Q E d h => ?_)
  · obtain ⟨_, _, _, _, rfl, _⟩ := h
    rfl
  · have dd := d.toDef
    obtain ⟨v, da, w, dw, rfl, hv, hw, k1, k2, k3⟩ := h
    show WB X _ _ [some v, some w] H
    refine wb_cons ?_
    walk_at "wy"
    refine we_callW d FS (by decide) (by decide +kernel) (by rfl) (by rfl) ?_
    walk_at "wy"
    refine ⟨v, da, rfl, hv, fun es => ?_, fun es => k1 es⟩
    walk_at "wy"
    refine we_call dd FW (by decide) (by decide +kernel) (by rfl) (by rfl) ?_
    walk_at "wy"
    refine ⟨w, dw, rfl, hw, ?_⟩
    walk_at "wy"
    cases ew : isW dw with
    | false =>
      walk_at "wy"
      exact ws_raise d e.ew (by decide +kernel) (k2 es ew)
    | true =>
      walk_at "wy"
      refine we_call dd FA (by decide) (by decide +kernel) (by rfl) (by rfl) ?_
      walk_at "wy"
      obtain ⟨a, s, o, rfl, hs, rfl, k⟩ := k3 es ew
      exact ⟨a, s, o, rfl, hs, k⟩
end K27

namespace K27
variable {G : Gb}
def innerC : Option (Int × Int) → Option (Int × Int) → Bool
  | none, _ => true
  | some _, none => false
  | some (l, h), some (l', h') => decide (l' ≤ l) && decide (h ≤ h')
def innerB : S3 → S3 → Bool
  | (o, m), (o', m') => if m && !m' then false else innerC o o'
theorem dec_and {p q : Prop} [Decidable p] [Decidable q] : decide (p ∧ q) = (decide p && decide q) := by
  by_cases hp : p <;> by_cases hq : q <;> simp [hp, hq]
theorem inner_of {s s' r : S3} (h : HullIs [s, s'] r) (o1 : ok3 s) (o2 : ok3 s') : PyData.eqv (sd r) (sd s') = innerB s s' := by
  obtain ⟨o, m⟩ := s
  obtain ⟨o', m'⟩ := s'
  obtain ⟨ro, rm⟩ := r
  obtain ⟨hm, hr⟩ := h
  have hm : rm = (m || m') := by
    have e : mayOf [(o, m), (o', m')] = (m || (m' || false)) := rfl
    rw [Bool.or_false] at e
    exact hm.trans e
  subst hm
  cases o with
  | none =>
    have o1 : m = true := o1
    subst o1
    cases o' with
    | none =>
      have o2 : m' = true := o2
      subst o2
      cases ro with
      | none => rfl
      | some p =>
        obtain ⟨l, h⟩ := p
        have hr : l ∈ ([] : List Int) ∧ _ := hr
        cases hr.1
    | some q =>
      obtain ⟨l', h'⟩ := q
      cases ro with
      | none =>
        have hr : [l'] = ([] : List Int) := hr
        cases hr
      | some p =>
        obtain ⟨l, h⟩ := p
        have hr : l ∈ [l'] ∧ (∀ y ∈ [l'], l ≤ y) ∧ h ∈ [h'] ∧ ∀ y ∈ [h'], y ≤ h := hr
        obtain rfl := List.mem_singleton.mp hr.1
        obtain rfl := List.mem_singleton.mp hr.2.2.1
        show ((l == l) && ((h == h) && ((true || m') == m' && true))) = if true && !m' then false else true
        rw [beq_self_eq_true, beq_self_eq_true]
        cases m' <;> rfl
  | some q =>
    obtain ⟨l1, h1⟩ := q
    cases o' with
    | none =>
      have o2 : m' = true := o2
      subst o2
      cases ro with
      | none =>
        have hr : [l1] = ([] : List Int) := hr
        cases hr
      | some p =>
        obtain ⟨l, h⟩ := p
        show false = _
        cases m <;> rfl
    | some q =>
      obtain ⟨l', h'⟩ := q
      cases ro with
      | none =>
        have hr : [l1, l'] = ([] : List Int) := hr
        cases hr
      | some p =>
        obtain ⟨l, h⟩ := p
        have hr : l ∈ [l1, l'] ∧ (∀ y ∈ [l1, l'], l ≤ y) ∧ h ∈ [h1, h'] ∧ ∀ y ∈ [h1, h'], y ≤ h := hr
        obtain ⟨a1, a2, a3, a4⟩ := hr
        have b1 := a2 l1 (by simp)
        have b2 := a2 l' (by simp)
        have b3 := a4 h1 (by simp)
        have b4 := a4 h' (by simp)
        have c1 : l = l1 ∨ l = l' := by simpa using a1
        have c2 : h = h1 ∨ h = h' := by simpa using a3
        show ((l == l') && ((h == h') && ((m || m') == m' && true))) = if m && !m' then false else (decide (l' ≤ l1) && decide (h1 ≤ h'))
        have e1 : (l == l') = decide (l' ≤ l1) := by
          rw [Bool.eq_iff_iff]
          simp only [beq_iff_eq, decide_eq_true_eq]
          omega
        have e2 : (h == h') = decide (h1 ≤ h') := by
          rw [Bool.eq_iff_iff]
          simp only [beq_iff_eq, decide_eq_true_eq]
          omega
        rw [e1, e2]
        cases m <;> cases m' <;> simp
theorem isS_sd {s : S3} (h : ok3 s) : isS (sd s) = true := by
  obtain ⟨o, m⟩ := s
  cases o with
  | none => exact (h : m = true)
  | some p =>
    obtain ⟨l, h'⟩ := p
    exact decide_eq_true (h : l ≤ h')
theorem shaped_sd {s : S3} : SeqAt.shaped (sd s) = true := by
  obtain ⟨o, m⟩ := s
  cases o <;> rfl
def spWithin (K : PySem.W.Frag) (C : Addr) : Sp := fun vs H Q E => ∃ v d w d', vs = [v, w] ∧ Dp K H v d ∧ Dp K H w d' ∧ (isS d = false → E (.ref C) none H) ∧ (isS d = true → isS d' = false → E (.ref C) none H) ∧
  (isS d = true → isS d' = true → ∃ (a a' : Addr) (s s' : S3), v = .ref a ∧ w = .ref a' ∧ SqT K H a (sv s) ∧ SqT K H a' (sv s') ∧ ok3 s ∧ ok3 s' ∧ ∀ H', Same H H' → Q (.bl (innerB s s')) H')
theorem fn_within (e : Er G) (FS : Fn G "want_stretch" 1 3 (spWant G.K e.st)) (FH : Fn G "hull_of" 1 1 (spHullOf G.K)) (T : Top G "is_within" (top 16) ["one", "other"]) : Fn G "is_within" 2 4 (spWithin G.K e.st) := by
  refine T.fn (N := ["one", "other"]) ⟨rfl, rfl, rfl, by decide +kernel, rfl, by decide +kernel, by decide +kernel⟩ (fun vs H Q E h => ?_) (fun X vs H Q E d h => ?_)
  · obtain ⟨_, _, _, _, rfl, _⟩ := h
    rfl
  · have dd := d.toDef
    obtain ⟨v, da, w, dw, rfl, hv, hw, k1, k2, k3⟩ := h
    show WB X _ _ [some v, some w] H
    refine wb_cons ?_
    walk_at "wy"
    refine we_callW d FS (by decide) (by decide +kernel) (by rfl) (by rfl) ?_
    walk_at "wy"
    refine ⟨v, da, rfl, hv, fun es => ?_, fun es => k1 es⟩
    walk_at "wy"
    refine we_callW d FS (by decide) (by decide +kernel) (by rfl) (by rfl) ?_
    walk_at "wy"
    refine ⟨w, dw, rfl, hw, fun ew => ?_, fun ew => k2 es ew⟩
    walk_at "wy"
    refine we_call dd FH (by decide) (by decide +kernel) (by rfl) (by rfl) ?_
    walk_at "wy"
    obtain ⟨a, a', s, s', rfl, rfl, hs, hs', o1, o2, k⟩ := k3 es ew
    refine ⟨by show 2 ≤ sizeLine; decide, fun p hp => ?_⟩
    walk_at "wy"
    have n1 := same_new (o := .lst [.ref a, .ref a']) hp
    refine ⟨p, [(a, s), (a', s')], rfl, .inl (SqL.of upd_same), ?_, by show 2 < 100000; decide, fun r q H' hr sm _ hq => ?_⟩
    · intro p hm
      rcases List.mem_cons.mp hm with rfl | hm
      · exact n1.tup hs
      · rcases List.mem_cons.mp hm with rfl | hm
        · exact n1.tup hs'
        · cases hm
    walk_at "wy"
    refine ro_eqD dd (dp_sv (SqT.of hq)) (dp_sv (sm.tup (n1.tup hs'))) shaped_sd shaped_sd ?_
    rw [inner_of hr o1 o2]
    exact k _ (n1.trans sm)
/-- hull(stretches): of what is no list; of a list (a tuple) of data -/
def spHull (K : PySem.W.Frag) (C : Addr) : Sp := fun vs H Q E => ∃ v, vs = [v] ∧
  ((∃ t, TyX K H v (.type t) ∧ kitB t "list" = some false ∧ kitB t "tuple" = some false ∧ ∀ H', Same H H' → E (.ref C) none H') ∨
   (∃ (a : Addr) (zs : List (V × PyData)), v = .ref a ∧ (SqL K H a (zs.map (·.1)) ∨ SqT K H a (zs.map (·.1))) ∧ (∀ z ∈ zs, Dp K H z.1 z.2) ∧ zs.length < 100000 ∧ ((zs = [] ∨ ∃ z ∈ zs, isS z.2 = false) → ∀ H', Same H H' → E (.ref C) none H') ∧
    (zs ≠ [] → (∀ z ∈ zs, isS z.2 = true) → ∃ ps : List (Addr × S3), zs.map (·.1) = refs ps ∧ Strs K H ps ∧
      ∀ (r : S3) (p : Addr) (H' : Hp), HullIs (ps.map (·.2)) r → Same H H' → H p = none → H' p = some (.tup (sv r)) → Q (.ref p) H')))
abbrev nHullF : List Str := ["stretches", "one"]
theorem scHullF : FnScope nHullF ["stretches"] (defScope (top 17)) := ⟨rfl, rfl, rfl, by decide +kernel, rfl, by decide +kernel, by decide +kernel⟩
theorem fn_hull (b : Bi G.mg) (e : Er G) (FL : Fn G "is_list" 1 1 (spList G.K)) (FI : Fn G "is_stretch" 1 2 (spIs G.K)) (FH : Fn G "hull_of" 1 1 (spHullOf G.K)) (T : Top G "hull" (top 17) ["stretches"]) : Fn G "hull" 1 3 (spHull G.K e.sts) := by
  refine T.fn (N := nHullF) scHullF (fun vs H Q E h => ?_) (fun X vs H Q E d h => ?_)
  · obtain ⟨_, rfl, _⟩ := h
    rfl
  · have dd := d.toDef
    obtain ⟨v, rfl, h⟩ := h
    show WB X _ _ [some v, none] H
    refine wb_cons ?_
    walk_at "wy"
    refine we_call dd FL (by decide) (by decide +kernel) (by rfl) (by rfl) ?_
    walk_at "wy"
    rcases h with ⟨t, ht, k1, k2, k⟩ | ⟨a, zs, rfl, hq, hz, hn, k1, k2⟩
    · refine ⟨v, t, _, _, rfl, ht, k1, k2, fun H1 s1 => ?_⟩
      walk_at "wy"
      exact ws_raise d e.ests (by decide +kernel) (k H1 s1)
    · rcases hq with hq | hq
      all_goals
        first
          | refine ⟨.ref a, "list", true, false, rfl, ty_seqL hq, by decide +kernel, by decide +kernel, fun H1 s1 => ?_⟩
          | refine ⟨.ref a, "tuple", false, true, rfl, ty_seqT hq, by decide +kernel, by decide +kernel, fun H1 s1 => ?_⟩
        walk_at "wy"
        first
          | refine ⟨_, truL dd (s1.seq hq), ?_⟩
          | refine ⟨_, truT dd (s1.tup hq), ?_⟩
        rw [List.isEmpty_map]
        cases ez : zs.isEmpty with
        | true =>
          walk_at "wy"
          exact ws_raise d e.ests (by decide +kernel) (k1 (.inl (List.isEmpty_iff.mp ez)) H1 s1)
        | false =>
          have hne : zs ≠ [] := fun q => by rw [q] at ez; cases ez
          walk_at "wy"
          first
            | (refine we_lcL dd [("one", 1)] (by decide +kernel) (by intro _; rfl) ?_; walk_at "wy"; refine lcL_map (fun z : V × PyData => z.1) (fun z => some (.bl (isS z.2))) (s1.seq hq) hn (fun z hm H2 s2 R hR => ?_) (fun L H2 hL s2 h2 => ?_))
            | (refine we_lcT dd [("one", 1)] (by decide +kernel) (by intro _; rfl) ?_; walk_at "wy"; refine lcT_map (fun z : V × PyData => z.1) (fun z => some (.bl (isS z.2))) (s1.tup hq) hn (fun z hm H2 s2 R hR => ?_) (fun L H2 hL s2 h2 => ?_))
          · intro X' d'
            dsimp only [L2.wipe, List.map, List.set]
            walk_at "wg"
            refine ⟨rfl, fun X2 d2 => wts_nil (ite_t fun X3 d3 => ?_)⟩
            walk_at "wy"
            refine we_call d3 FI (by decide) (by decide +kernel) (by rfl) (by rfl) ?_
            walk_at "wy"
            exact ⟨z.1, z.2, rfl, (s1.trans s2).dp _ _ (hz z hm), hR _ (Same.refl _)⟩
          · have em : zs.filterMap (fun z => some (V.bl (isS z.2))) = (zs.map fun z => isS z.2).map V.bl := by
              rw [List.filterMap_eq_map', List.map_map] <;> rfl
            rw [em] at h2
            walk_at "wy"
            refine rc_all dd (SqL.of h2) ?_
            walk_at "wy"
            rw [List.all_map]
            cases ea : zs.all (id ∘ fun z => isS z.2) with
            | false =>
              walk_at "wy"
              refine ws_raise d e.ests (by decide +kernel) (k1 (.inr ?_) H2 (s1.trans s2))
              obtain ⟨z, hm, hb⟩ := List.all_eq_false.mp ea
              exact ⟨z, hm, by simpa using hb⟩
            | true =>
              obtain ⟨ps, ep, hs, k⟩ := k2 hne fun z hm => List.all_eq_true.mp ea z hm
              rw [ep] at hq
              have hl : ps.length = zs.length := by
                have q := congrArg List.length ep
                rw [List.length_map, List.length_map] at q
                exact q.symm
              walk_at "wy"
              refine we_call dd FH (by decide) (by decide +kernel) (by rfl) (by rfl) ?_
              walk_at "wy"
              have s3 := s1.trans s2
              refine ⟨a, ps, rfl, ?_, hs.same s3, by rw [hl]; exact hn, fun r p H' hr sm hp hp' => k r p H' hr (s3.trans sm) (s3.free hp) hp'⟩
              first
                | exact .inl (s3.seq hq)
                | exact .inr (s3.tup hq)
end K27

namespace K27
variable {G : Gb}
/-! ### the law's own helpers -/
theorem fn_lets (T : Top G "_law_lets" (top 25) ["_law_span", "_law_worth"]) : Fn G "_law_lets" 2 1 (spAllowsW G.K) := by
  refine T.fn (N := ["_law_span", "_law_worth"]) ⟨rfl, rfl, rfl, by decide +kernel, rfl, by decide +kernel, by decide +kernel⟩ (fun vs H Q E h => ?_) (fun X vs H Q E d h => ?_)
  · obtain ⟨_, _, _, rfl, _⟩ := h
    rfl
  · have dd := d.toDef
    obtain ⟨a, ⟨o, m⟩, w, rfl, hs, k⟩ := h
    cases w with
    | none =>
      show WB X _ _ [some (.ref a), some .non] H
      refine wb_cons ?_
      walk_at "wy"
      cases o with
      | none => exact rx_tup dd hs at2 k
      | some p => exact rx_tup dd hs at2 k
    | some i =>
      show WB X _ _ [some (.ref a), some (.int i)] H
      refine wb_cons ?_
      walk_at "wy"
      cases o with
      | none =>
        refine rx_tup dd hs at0 ?_
        walk_at "wy"
        exact k
      | some p =>
        obtain ⟨l, h⟩ := p
        refine rx_tup dd hs at0 ?_
        walk_at "wy"
        refine rx_tup dd hs at0 ?_
        walk_at "wy"
        have k : Q (.bl (decide (l ≤ i) && decide (i ≤ h))) H := k
        refine ite_b (fun e => ?_) (fun e => ?_)
        · walk_at "wy"
          refine rx_tup dd hs at1 ?_
          walk_at "wy"
          rw [e, Bool.true_and] at k
          exact k
        · rw [e, Bool.false_and] at k
          exact k
def spInner (K : PySem.W.Frag) : Sp := fun vs H Q _ => ∃ (a a' : Addr) (s s' : S3), vs = [.ref a, .ref a'] ∧ SqT K H a (sv s) ∧ SqT K H a' (sv s') ∧ Q (.bl (innerB s s')) H
theorem fn_inner (T : Top G "_law_is_inner" (top 26) ["_law_one", "_law_other"]) : Fn G "_law_is_inner" 2 1 (spInner G.K) := by
  refine T.fn (N := ["_law_one", "_law_other"]) ⟨rfl, rfl, rfl, by decide +kernel, rfl, by decide +kernel, by decide +kernel⟩ (fun vs H Q E h => ?_) (fun X vs H Q E d h => ?_)
  · obtain ⟨_, _, _, _, rfl, _⟩ := h
    rfl
  · have dd := d.toDef
    obtain ⟨a, a', ⟨o, m⟩, ⟨o', m'⟩, rfl, hs, hs', k⟩ := h
    show WB X _ _ [some (.ref a), some (.ref a')] H
    have g2 : atI (sv (o, m)) 2 = some (.bl m) := by cases o <;> exact at2
    have g2' : atI (sv (o', m')) 2 = some (.bl m') := by cases o' <;> exact at2
    refine wb_cons ?_
    walk_at "wy"
    refine rx_tup dd hs g2 ?_
    have rest : (m && !m') = false → WB X ((defBody (top 26)).drop 1) { nx := fun _ H' => Q .non H', rt := Q } [some (.ref a), some (.ref a')] H := fun em => by
      have k : Q (.bl (if m && !m' then false else innerC o o')) H := k
      rw [em] at k
      refine wb_one ?_
      walk_at "wy"
      cases o with
      | none =>
        refine rx_tup dd hs at0 ?_
        walk_at "wy"
        exact k
      | some p =>
        obtain ⟨l, h⟩ := p
        refine rx_tup dd hs at0 ?_
        walk_at "wy"
        cases o' with
        | none =>
          refine rx_tup dd hs' at0 ?_
          walk_at "wy"
          exact k
        | some p' =>
          obtain ⟨l', h'⟩ := p'
          have k : Q (.bl (decide (l' ≤ l) && decide (h ≤ h'))) H := k
          refine rx_tup dd hs' at0 ?_
          walk_at "wy"
          refine rx_tup dd hs' at0 ?_
          walk_at "wy"
          refine rx_tup dd hs at0 ?_
          walk_at "wy"
          refine ite_b (fun e => ?_) (fun e => by rw [e, Bool.false_and] at k; exact k)
          rw [e, Bool.true_and] at k
          walk_at "wy"
          refine rx_tup dd hs at1 ?_
          walk_at "wy"
          refine rx_tup dd hs' at1 ?_
          walk_at "wy"
          exact k
    cases m with
    | true =>
      walk_at "wx"
      refine ite_t ?_
      walk_at "wx"
      refine rx_tup dd hs' g2' ?_
      cases m' with
      | true =>
        walk_at "wx"
        refine ite_f ?_
        refine wb_nil ?_
        exact rest rfl
      | false =>
        walk_at "wy"
        exact k
    | false =>
      walk_at "wx"
      refine ite_f ?_
      walk_at "wx"
      refine ite_f ?_
      refine wb_nil ?_
      exact rest rfl
end K27

namespace K27
variable {G : Gb}
/-- the law's hull: as the program's, but that a hull of open ones alone may be open -/
def LHullIs (ss : List S3) (r : S3) : Prop := match r.1 with
  | none => lows ss = [] ∧ r.2 = true
  | some (l, h) => r.2 = mayOf ss ∧ l ∈ lows ss ∧ (∀ y ∈ lows ss, l ≤ y) ∧ h ∈ highs ss ∧ ∀ y ∈ highs ss, y ≤ h
def spLHull (K : PySem.W.Frag) : Sp := fun vs H Q _ => ∃ (a : Addr) (ps : List (Addr × S3)), vs = [.ref a] ∧ SqL K H a (refs ps) ∧ Strs K H ps ∧ ps.length < 100000 ∧
  ∀ (r : S3) (p : Addr) (H' : Hp), LHullIs (ps.map (·.2)) r → Same H H' → H p = none → H' p = some (.tup (sv r)) → Q (.ref p) H'
abbrev nLHull : List Str := ["_law_some", "_law_lows", "_law_highs", "_law_may", "_law_one"]
theorem scLHull : FnScope nLHull ["_law_some"] (defScope (top 24)) := ⟨rfl, rfl, rfl, by decide +kernel, rfl, by decide +kernel, by decide +kernel⟩
theorem fm_high' (ps : List (Addr × S3)) : ps.filterMap (fun p => p.2.1.map fun q => V.int q.2) = (highs (ps.map (·.2))).map V.int := fm_high ps
theorem inV_bools (bs : List Bool) : inV (.bl true) (bs.map V.bl) = bs.any id := by
  unfold inV
  rw [List.any_map]
  congr 1
  funext b
  cases b <;> rfl
theorem flat_bools (bs : List Bool) : (bs.map V.bl).all flatV = true := by
  rw [List.all_map]
  exact List.all_eq_true.mpr fun _ _ => rfl
theorem lh_len (ss : List S3) : (lows ss).length = (highs ss).length := by
  unfold lows highs
  induction ss with
  | nil => rfl
  | cons s ss ih =>
    obtain ⟨o, m⟩ := s
    cases o with
    | none => exact ih
    | some q => exact congrArg Nat.succ ih
theorem fn_lhull (b : Bi G.mg) (T : Top G "_law_hull" (top 24) ["_law_some"]) : Fn G "_law_hull" 1 1 (spLHull G.K) := by
  refine T.fn (N := nLHull) scLHull (fun vs H Q E h => ?_) (fun X vs H Q E d h => ?_)
  · obtain ⟨_, _, rfl, _⟩ := h
    rfl
  · have dd := d.toDef
    obtain ⟨a, ps, rfl, hq, hs, hn, k⟩ := h
    show WB X _ _ [some (.ref a), none, none, none, none] H
    refine wb_cons ?_
    refine ws_lcL d 1 [("_law_one", 4)] (by rfl) (by decide +kernel) (by decide +kernel) (by intro _; rfl) (by rfl) (by decide +kernel) ?_
    walk_at "wy"
    refine lcL_map (fun p => V.ref p.1) (fun p => p.2.1.map fun q => V.int q.1) hq hn (fun p hp H2 s2 R hR => ?_) (fun Lb H2 hL2 s2 h2 => ?_)
    · intro X' d'
      dsimp only [L2.wipe, List.map, List.set]
      walk_at "wg"
      refine ⟨rfl, fun X2 d2 => wts_one ?_⟩
      walk_at "wy"
      have hp' := s2.tup (hs p hp)
      obtain ⟨pa, po, pm⟩ := p
      cases po with
      | none =>
        refine rx_tup d2 hp' at0 ?_
        walk_at "wx"
        exact ite_f (hR _ (Same.refl _))
      | some q =>
        refine rx_tup d2 hp' at0 ?_
        walk_at "wx"
        refine ite_t fun X3 d3 => ?_
        walk_at "wx"
        exact rx_tup d3 hp' at0 (hR _ (Same.refl _))
    rw [fm_low] at h2
    have hs2 := hs.same s2
    walk_at "wy"
    refine ws_lcL d 2 [("_law_one", 4)] (by rfl) (by decide +kernel) (by decide +kernel) (by intro _; rfl) (by rfl) (by decide +kernel) ?_
    walk_at "wy"
    refine lcL_map (fun p => V.ref p.1) (fun p => p.2.1.map fun q => V.int q.2) (s2.seq hq) hn (fun p hp H3 s3 R hR => ?_) (fun Lc H3 hL3 s3 h3 => ?_)
    · intro X' d'
      dsimp only [L2.wipe, List.map, List.set]
      walk_at "wg"
      refine ⟨rfl, fun X2 d2 => wts_one ?_⟩
      walk_at "wy"
      have hp' := s3.tup (hs2 p hp)
      obtain ⟨pa, po, pm⟩ := p
      cases po with
      | none =>
        refine rx_tup d2 hp' at0 ?_
        walk_at "wx"
        exact ite_f (hR _ (Same.refl _))
      | some q =>
        refine rx_tup d2 hp' at0 ?_
        walk_at "wx"
        refine ite_t fun X3 d3 => ?_
        walk_at "wx"
        exact rx_tup d3 hp' at1 (hR _ (Same.refl _))
    rw [fm_high] at h3
    have hs3 := hs2.same s3
    walk_at "wy"
    refine we_lcL dd [("_law_one", 4)] (by decide +kernel) (by intro _; rfl) ?_
    walk_at "wy"
    refine lcL_map (fun p => V.ref p.1) (fun p => some (.bl p.2.2)) (s3.seq (s2.seq hq)) hn (fun p hp H1 s1 R hR => ?_) (fun L H1 hL s1 h1 => ?_)
    · intro X' d'
      dsimp only [L2.wipe, List.map, List.set]
      walk_at "wg"
      refine ⟨rfl, fun X2 d2 => wts_nil (ite_t fun X3 d3 => ?_)⟩
      walk_at "wy"
      have hp' := s1.tup (hs3 p hp)
      obtain ⟨pa, po, pm⟩ := p
      cases po with
      | none => exact rx_tup d3 hp' at2 (hR _ (Same.refl _))
      | some q => exact rx_tup d3 hp' at2 (hR _ (Same.refl _))
    rw [fm_may] at h1
    refine ro_in dd (.inl (SqL.of h1)) rfl (flat_bools _) ?_
    rw [inV_bools]
    have em : (ps.map (·.2.2)).any id = mayOf (ps.map (·.2)) := by
      unfold mayOf
      rw [List.any_map, List.any_map] <;> rfl
    rw [em]
    walk_at "wy"
    refine ⟨by show 0 ≤ sizeLine; decide, fun n hn0 => ?_⟩
    have s4 := same_new (o := .lst []) hn0
    have h2' : (upd H1 n (.lst [])) Lb = some (.lst ((lows (ps.map (·.2))).map V.int)) := s4 _ _ (s1 _ _ (s3 _ _ h2))
    have h3' : (upd H1 n (.lst [])) Lc = some (.lst ((highs (ps.map (·.2))).map V.int)) := s4 _ _ (s1 _ _ h3)
    refine ro_eqD dd (dp_ints (SqL.of h2')) (.lst (SqL.of upd_same) .nil) (shaped_ints _) (by decide) ?_
    rw [eqv_nil]
    have sA := ((s2.trans s3).trans s1).trans s4
    walk_at "wy"
    cases e : (lows (ps.map (·.2))).isEmpty with
    | true =>
      walk_at "wy"
      refine ⟨by show 3 ≤ sizeLine; decide, fun p hp => ?_⟩
      exact k (none, true) p _ ⟨List.isEmpty_iff.mp e, rfl⟩ (sA.trans (same_new hp)) (sA.free hp) upd_same
    | false =>
      have l0 : 0 < (lows (ps.map (·.2))).length := by
        cases e2 : lows (ps.map (·.2)) with
        | nil => rw [e2] at e; cases e
        | cons x xs => exact Nat.succ_pos _
      walk_at "wy"
      refine rc_minL dd (SqL.of h2') l0 fun l hl1 hl2 => ?_
      walk_at "wy"
      refine rc_maxL dd (SqL.of h3') ((lh_len _) ▸ l0) fun h hh1 hh2 => ?_
      walk_at "wy"
      refine ⟨by show 3 ≤ sizeLine; decide, fun p hp => ?_⟩
      exact k (some (l, h), mayOf (ps.map (·.2))) p _ ⟨rfl, hl1, hl2, hh1, hh2⟩ (sA.trans (same_new hp)) (sA.free hp) upd_same
/-- a drawn stretch: a new one -/
def spDrawn : Sp := fun vs H Q _ => ∃ (H0 : Hp) (d : Addr) (B : Nat), vs = [.ref d] ∧ DrawAt H0 H d B ∧ B < 900000000000 ∧
  ∀ (s : S3) (p : Addr) (H0' H' : Hp), ok3 s → Same H0 H0' → DrawAt H0' H' d (B + 4) → H0 p = none → H0' p = some (.tup (sv s)) → Q (.ref p) H'
abbrev nDrawn : List Str := ["_law_draw", "_law_low", "_law_may"]
theorem scDrawn : FnScope nDrawn ["_law_draw"] (defScope (top 27)) := ⟨rfl, rfl, rfl, by decide +kernel, rfl, by decide +kernel, by decide +kernel⟩
theorem fn_drawn (FT : Fn G "_law_take" 2 2 spTake) (FP : Fn G "_law_pick" 2 3 (spPick G.K)) (T : Top G "_law_drawn_stretch" (top 27) ["_law_draw"]) : Fn G "_law_drawn_stretch" 1 4 spDrawn := by
  refine T.fn (N := nDrawn) scDrawn (fun vs H Q E h => ?_) (fun X vs H Q E d h => ?_)
  · obtain ⟨_, _, _, rfl, _⟩ := h
    rfl
  · have dd := d.toDef
    obtain ⟨H0, p, B, rfl, A, hB, k⟩ := h
    show WB X _ _ [some (.ref p), none, none] H
    refine wb_cons ?_
    refine ws_par2 d 1 2 rfl rfl (by decide) (by decide +kernel) (by decide +kernel) (by intro _; rfl) (by rfl) ?_ (by rfl) (by rfl)
    walk_at "wy"
    refine we_call dd FT (by decide) (by decide +kernel) (by rfl) (by rfl) ?_
    walk_at "wy"
    refine ⟨H0, p, B, 9, rfl, A, by omega, by decide, by decide, fun n H1 _ _ A1 => ?_⟩
    walk_at "wy"
    refine we_call dd FT (by decide) (by decide +kernel) (by rfl) (by rfl) ?_
    walk_at "wy"
    refine ⟨H0, p, B + 1, 2, rfl, A1, by omega, by decide, by decide, fun m H2 _ _ A2 => ?_⟩
    walk_at "wy"
    refine we_call dd FT (by decide) (by decide +kernel) (by rfl) (by rfl) ?_
    walk_at "wy"
    refine ⟨H0, p, B + 1 + 1, 5, rfl, A2, by omega, by decide, by decide, fun z H3 _ _ A3 => ?_⟩
    walk_at "wy"
    refine ite_b (fun _ => ?_) (fun _ => ?_)
    · walk_at "wy"
      refine ⟨by show 3 ≤ sizeLine; decide, fun q hq => ?_⟩
      have n0 := A3.same.free hq
      exact k (none, true) q _ _ rfl (same_new n0) ((A3.laid hq).mono (by omega)) n0 upd_same
    · walk_at "wy"
      refine we_call dd FP (by decide) (by decide +kernel) (by rfl) (by rfl) ?_
      walk_at "wy"
      refine ro_pow ⟨by decide, by decide, by decide⟩ ?_
      walk_at "wy"
      refine ⟨by show 6 ≤ sizeLine; decide, fun q hq => ?_⟩
      walk_at "wy"
      have n0 := A3.same.free hq
      refine ⟨_, p, q, B + 1 + 1 + 1, _, rfl, A3.laid hq, by omega, SqL.of upd_same, by decide, by decide, fun i x H4 hx A4 => ?_⟩
      obtain ⟨y, rfl, hy⟩ : ∃ y : Int, x = .int y ∧ 0 ≤ y := by
        have hm := List.mem_of_getElem? hx
        simp only [List.mem_cons, List.not_mem_nil, or_false] at hm
        rcases hm with rfl | rfl | rfl | rfl | rfl | rfl <;> exact ⟨_, rfl, by decide⟩
      walk_at "wy"
      refine ⟨by show 3 ≤ sizeLine; decide, fun t ht => ?_⟩
      have n1 := A4.same.free ht
      refine k (some (n - 4, n - 4 + y), decide (m = 1)) t _ _ (by show n - 4 ≤ n - 4 + y; omega) ((same_new n0).trans (same_new n1)) ((A4.laid ht).mono (by omega)) ((same_new n0).free n1) upd_same
end K27

namespace K27
variable {G : Gb}
/-! ### what is refused: the law's look at errors -/
/-- what error_of(word, x, y) comes to: none, or an error of the class at C -/
inductive Case (G : Gb) (e : Er G) (H : Hp) : Str → V → V → Option Addr → Prop
  | a1 {x y : V} {d d' : PyData} (hx : Dp G.K H x d) (hy : Dp G.K H y d') (h : isS d = false) : Case G e H "allows" x y (some e.st)
  | a2 {x y : V} {d d' : PyData} (hx : Dp G.K H x d) (hy : Dp G.K H y d') (h : isS d = true) (h' : isW d' = false) : Case G e H "allows" x y (some e.w)
  | a3 {a : Addr} {s : S3} {o : Option Int} (hs : SqT G.K H a (sv s)) (ok : ok3 s) : Case G e H "allows" (.ref a) (wv o) none
  | w1 {x y : V} {d d' : PyData} (hx : Dp G.K H x d) (hy : Dp G.K H y d') (h : isS d = false) : Case G e H "is_within" x y (some e.st)
  | w2 {x y : V} {d d' : PyData} (hx : Dp G.K H x d) (hy : Dp G.K H y d') (h : isS d = true) (h' : isS d' = false) : Case G e H "is_within" x y (some e.st)
  | w3 {a a' : Addr} {s s' : S3} (hs : SqT G.K H a (sv s)) (hs' : SqT G.K H a' (sv s')) (ok : ok3 s) (ok' : ok3 s') : Case G e H "is_within" (.ref a) (.ref a') none
  | h1 {x : V} {t : String} (hx : TyX G.K H x (.type t)) (h1 : kitB t "list" = some false) (h2 : kitB t "tuple" = some false) : Case G e H "hull" x .non (some e.sts)
  | h2 {a : Addr} {zs : List (V × PyData)} (hq : SqL G.K H a (zs.map (·.1)) ∨ SqT G.K H a (zs.map (·.1))) (hz : ∀ z ∈ zs, Dp G.K H z.1 z.2) (hn : zs.length < 100000) (hb : zs = [] ∨ ∃ z ∈ zs, isS z.2 = false) : Case G e H "hull" (.ref a) .non (some e.sts)
def spErr (G : Gb) (e : Er G) : Sp := fun vs H Q _ => ∃ (w : Str) (x y : V) (o : Option Addr), vs = [.str w, x, y] ∧ Case G e H w x y o ∧ (o = none → ∀ H', Same H H' → Q .non H') ∧
  (∀ C, o = some C → ∀ (a : Addr) (H' : Hp), Same H H' → H' a = some (ExV a (.ref C) none) → Q (.ref a) H')
abbrev nErr : List Str := ["_law_word", "_law_one", "_law_other", "_law_error", "caught"]
theorem scErr : FnScope nErr ["_law_word", "_law_one", "_law_other"] (defScope (top 28)) := ⟨rfl, rfl, rfl, by decide +kernel, rfl, by decide +kernel, by decide +kernel⟩
theorem wv_dp {K : PySem.W.Frag} {H : Hp} (o : Option Int) : ∃ d, Dp K H (wv o) d ∧ isW d = true := by
  cases o with
  | none => exact ⟨_, .non, rfl⟩
  | some i => exact ⟨_, .int i, rfl⟩
theorem fn_err (e : Er G) (FA : Fn G "allows" 2 4 (spAllows G.K e.st e.w)) (FW : Fn G "is_within" 2 4 (spWithin G.K e.st)) (FH : Fn G "hull" 1 3 (spHull G.K e.sts)) (T : Top G "_law_error_of" (top 28) ["_law_word", "_law_one", "_law_other"]) : Fn G "_law_error_of" 3 5 (spErr G e) := by
  refine T.fn (N := nErr) scErr (fun vs H Q E h => ?_) (fun X vs H Q E d h => ?_)
  · obtain ⟨_, _, _, _, rfl, _⟩ := h
    rfl
  · have dd := d.toDef
    obtain ⟨w, x, y, o, rfl, c, k0, k1⟩ := h
    show WB X _ _ [some (.str w), some x, some y, none, none] H
    refine wb_cons ?_
    walk_at "wy"
    refine ws_tryV d 4 3 rfl rfl (by decide +kernel) (locs (by decide +kernel)) (by decide +kernel) e.eS (fun X' d' => ?_)
    have dd' := d'.toDef
    -- what follows the try where nothing is raised, where an error of the class at C is
    have nx : o = none → ∀ H', Same H H' → WB X ((defBody (top 28)).drop 2) { nx := fun _ H' => Q .non H', rt := Q } [some (.str w), some x, some y, some .non, none] H' := fun eo H' s => by
      refine wb_one ?_
      walk_at "wy"
      exact k0 eo H' s
    have er : ∀ C, o = some C → ExM G "SheetError" e.S C → ∀ H', Same H H' → (PySem.W.exmOne G.K (.ref C) (.ref e.S) = some true ∧ ∀ a, H' a = none → WB X ((defBody (top 28)).drop 2) { nx := fun _ H' => Q .non H', rt := Q }
        [some (.str w), some x, some y, some (.ref a), none] (upd H' a (ExV a (.ref C) none))) := fun C eo m H' s => ⟨m.one, fun a ha => by
      refine wb_one ?_
      walk_at "wy"
      exact k1 C eo a _ (s.trans (same_new ha)) upd_same⟩
    have s1 : decide (("allows" : Str) = "allows") = true := by decide +kernel
    have s2 : decide (("is_within" : Str) = "allows") = false := by decide +kernel
    have s3 : decide (("is_within" : Str) = "is_within") = true := by decide +kernel
    have s4 : decide (("hull" : Str) = "allows") = false := by decide +kernel
    have s5 : decide (("hull" : Str) = "is_within") = false := by decide +kernel
    cases c with
    | a1 hx hy h =>
      walk_at "wx"
      rw [s1]
      walk_at "wy"
      refine we_callW d' FA (by decide) (by decide +kernel) (by rfl) (by rfl) ?_
      walk_at "wy"
      exact ⟨_, _, _, _, rfl, hx, hy, fun _ => er _ rfl e.mst _ (Same.refl _), fun q => (by rw [h] at q; cases q), fun q => (by rw [h] at q; cases q)⟩
    | a2 hx hy h h' =>
      walk_at "wx"
      rw [s1]
      walk_at "wy"
      refine we_callW d' FA (by decide) (by decide +kernel) (by rfl) (by rfl) ?_
      walk_at "wy"
      exact ⟨_, _, _, _, rfl, hx, hy, fun q => (by rw [h] at q; cases q), fun _ _ => er _ rfl e.mw _ (Same.refl _), fun _ q => (by rw [h'] at q; cases q)⟩
    | @a3 a s o hs ok =>
      walk_at "wx"
      rw [s1]
      walk_at "wy"
      refine we_callW d' FA (by decide) (by decide +kernel) (by rfl) (by rfl) ?_
      walk_at "wy"
      obtain ⟨d2, h2, h3⟩ := wv_dp (K := G.K) (H := H) o
      refine ⟨_, _, _, _, rfl, dp_sv hs, h2, fun q => (by rw [isS_sd ok] at q; cases q), fun _ q => (by rw [h3] at q; cases q), fun _ _ => ⟨a, s, o, rfl, hs, rfl, ?_⟩⟩
      walk_at "wx"
      exact k0 rfl _ (Same.refl _)
    | w1 hx hy h =>
      walk_at "wx"
      rw [s2]
      walk_at "wx"
      refine ite_f ?_
      walk_at "wx"
      rw [s3]
      walk_at "wy"
      refine we_callW d' FW (by decide) (by decide +kernel) (by rfl) (by rfl) ?_
      walk_at "wy"
      exact ⟨_, _, _, _, rfl, hx, hy, fun _ => er _ rfl e.mst _ (Same.refl _), fun q => (by rw [h] at q; cases q), fun q => (by rw [h] at q; cases q)⟩
    | w2 hx hy h h' =>
      walk_at "wx"
      rw [s2]
      walk_at "wx"
      refine ite_f ?_
      walk_at "wx"
      rw [s3]
      walk_at "wy"
      refine we_callW d' FW (by decide) (by decide +kernel) (by rfl) (by rfl) ?_
      walk_at "wy"
      exact ⟨_, _, _, _, rfl, hx, hy, fun q => (by rw [h] at q; cases q), fun _ _ => er _ rfl e.mst _ (Same.refl _), fun _ q => (by rw [h'] at q; cases q)⟩
    | @w3 a a' s s' hs hs' ok ok' =>
      walk_at "wx"
      rw [s2]
      walk_at "wx"
      refine ite_f ?_
      walk_at "wx"
      rw [s3]
      walk_at "wy"
      refine we_callW d' FW (by decide) (by decide +kernel) (by rfl) (by rfl) ?_
      walk_at "wy"
      refine ⟨_, _, _, _, rfl, dp_sv hs, dp_sv hs', fun q => (by rw [isS_sd ok] at q; cases q), fun _ q => (by rw [isS_sd ok'] at q; cases q), fun _ _ => ⟨a, a', s, s', rfl, rfl, hs, hs', ok, ok', fun H' sm => ?_⟩⟩
      walk_at "wx"
      exact k0 rfl _ sm
    | h1 hx h1 h2 =>
      walk_at "wx"
      rw [s4]
      walk_at "wx"
      refine ite_f ?_
      walk_at "wx"
      rw [s5]
      walk_at "wy"
      refine we_callW d' FH (by decide) (by decide +kernel) (by rfl) (by rfl) ?_
      walk_at "wy"
      exact .inl ⟨_, hx, h1, h2, fun H' sm => er _ rfl e.msts _ sm⟩
    | @h2 a zs hq hz hn hb =>
      walk_at "wx"
      rw [s4]
      walk_at "wx"
      refine ite_f ?_
      walk_at "wx"
      rw [s5]
      walk_at "wy"
      refine we_callW d' FH (by decide) (by decide +kernel) (by rfl) (by rfl) ?_
      walk_at "wy"
      refine .inr ⟨a, zs, rfl, hq, hz, hn, fun _ H' sm => er _ rfl e.msts _ sm, fun hne hall => ?_⟩
      rcases hb with hb | ⟨z, hm, hb⟩
      · exact absurd hb hne
      · rw [hall z hm] at hb
        cases hb
end K27

namespace K27
variable {G : Gb}
def spRefused (K : PySem.W.Frag) : Sp := fun vs H Q _ => ∃ (H0 : Hp) (d l : Addr) (B : Nat) (ps : List (Addr × S3)), vs = [.ref d, .ref l] ∧ DrawAt H0 H d B ∧ B < 800000000000 ∧ SqL K H0 l (refs ps) ∧ Strs K H0 ps ∧ (∀ p ∈ ps, ok3 p.2) ∧ 0 < ps.length ∧ ps.length < 1000 ∧
  ∀ (H0' H' : Hp), Same H0 H0' → DrawAt H0' H' d (B + 10) → Q (.bl true) H'
abbrev nRef : List Str := ["_law_draw", "_law_some", "_law_bad", "_law_good", "_law_spoilt", "_law_thing"]
theorem scRef : FnScope nRef ["_law_draw", "_law_some"] (defScope (top 29)) := ⟨rfl, rfl, rfl, by decide +kernel, rfl, by decide +kernel, by decide +kernel⟩
theorem fn_ref (b : Bi G.mg) (e : Er G) (FT : Fn G "_law_take" 2 2 spTake) (FP : Fn G "_law_pick" 2 3 (spPick G.K)) (FI : Fn G "is_stretch" 1 2 (spIs G.K)) (FE : Fn G "_law_error_of" 3 5 (spErr G e)) (T : Top G "_law_is_refused" (top 29) ["_law_draw", "_law_some"]) :
    Fn G "_law_is_refused" 2 6 (spRefused G.K) := by
  refine T.fn (N := nRef) scRef (fun vs H Q E h => ?_) (fun X vs H Q E d h => ?_)
  · obtain ⟨_, _, _, _, _, rfl, _⟩ := h
    rfl
  · have dd := d.toDef
    obtain ⟨H0, p, l, B, ps, rfl, A, hB, hl, hs, ho, l0, l1, k⟩ := h
    show WB X _ _ [some (.ref p), some (.ref l), none, none, none, none] H
    refine wb_cons ?_
    walk_at "wx"
    refine we_call dd FP (by decide) (by decide +kernel) (by rfl) (by rfl) ?_
    walk_at "wA"
    walk_at "wn"
    walk_at "wA"
    with_reducible refine we_lit (G := G) (Fm := fun H0 H => DrawAt H0 H p B) (H0 := H0) frm_draw (by with_unfolding_all (repeat' constructor)) A fun v H1' H1 s1 A1 dv => ?_
    walk_at "wx"
    cases dv with | @lst q xs ds hq hd =>
    refine ⟨H1', p, q, B, xs, rfl, A1, by omega, hq, by rw [hd.len]; decide, by rw [hd.len]; decide, fun i bad H2 hi A2 => ?_⟩
    obtain ⟨db, hb, dpb⟩ := hd.get hi
    have hall : ∀ (f : PyData → Bool) (l : List PyData), (l.all fun d => !f d) = true → ∀ d, d ∈ l → f d = false := fun f l h d m => by
      have := List.all_eq_true.mp h d m
      simpa using this
    have nb : isS db = false := hall isS _ (by decide) db (List.mem_of_getElem? hb)
    obtain ⟨⟨pa, ps0⟩, pr, rfl⟩ : ∃ p0 pr, ps = p0 :: pr := by
      cases ps with
      | nil => cases l0
      | cons p0 pr => exact ⟨p0, pr, rfl⟩
    have hg : SqT G.K H0 pa (sv ps0) := hs (pa, ps0) List.mem_cons_self
    have og : ok3 ps0 := ho (pa, ps0) List.mem_cons_self
    have S2 : Same H0 H2 := s1.trans A2.same
    walk_at "wx"
    refine rx_list dd (S2.seq hl) at0 ?_
    walk_at "wx"
    refine we_call dd FI (by decide) (by decide +kernel) (by rfl) (by rfl) ?_
    walk_at "wx"
    refine ⟨bad, db, rfl, A2.same.dp _ _ dpb, ?_⟩
    rw [nb]
    walk_at "wy"
    refine we_call dd FE (by decide) (by decide +kernel) (by rfl) (by rfl) ?_
    walk_at "wx"
    refine we_call dd FP (by decide) (by decide +kernel) (by rfl) (by rfl) ?_
    walk_at "wA"
    walk_at "wn"
    walk_at "wA"
    with_reducible refine we_lit (G := G) (Fm := fun H0 H => DrawAt H0 H p (B + 1)) (H0 := H1') frm_draw (by with_unfolding_all (repeat' constructor)) A2 fun v2 H3' H3 s3 A3 dv2 => ?_
    walk_at "wx"
    cases dv2 with | @lst q2 xs2 ds2 hq2 hd2 =>
    refine ⟨H3', p, q2, B + 1, xs2, rfl, A3, by omega, hq2, by rw [hd2.len]; decide, by rw [hd2.len]; decide, fun i2 y H4 hi2 A4 => ?_⟩
    obtain ⟨dy, _, dpy⟩ := hd2.get hi2
    have b4 : Dp G.K H4 bad db := A4.same.dp _ _ (s3.dp _ _ dpb)
    walk_at "wx"
    refine ⟨_, bad, y, _, rfl, .a1 b4 (A4.same.dp _ _ dpy) nb, (fun q => nomatch q), fun C eC a5 H5 s5 h5 => ?_⟩
    cases eC
    walk_at "wx"
    refine we_glob (v := .ref e.st) dd (by decide +kernel) e.est.gC rfl ?_
    walk_at "wx"
    refine rc_isV (x := .non) dd e.cst (.own _) h5 kit_self ?_
    walk_at "wy"
    have A5 := A4.keep s5
    have b5 : Dp G.K H5 bad db := s5.dp _ _ b4
    have S5 : Same H0 H5 := s1.trans (s3.trans A5.same)
    -- is_within, both ways
    refine we_call dd FE (by decide) (by decide +kernel) (by rfl) (by rfl) ?_
    walk_at "wx"
    refine ⟨_, bad, _, _, rfl, .w1 b5 (dp_sv (S5.tup hg)) nb, (fun q => nomatch q), fun C eC a6 H6 s6 h6 => ?_⟩
    cases eC
    walk_at "wx"
    refine we_glob (v := .ref e.st) dd (by decide +kernel) e.est.gC rfl ?_
    walk_at "wx"
    refine rc_isV (x := .non) dd e.cst (.own _) h6 kit_self ?_
    walk_at "wy"
    refine we_call dd FE (by decide) (by decide +kernel) (by rfl) (by rfl) ?_
    walk_at "wx"
    refine ⟨_, _, bad, _, rfl, .w2 (dp_sv ((S5.trans s6).tup hg)) (s6.dp _ _ b5) (isS_sd og) nb, (fun q => nomatch q), fun C eC a7 H7 s7 h7 => ?_⟩
    cases eC
    walk_at "wx"
    refine we_glob (v := .ref e.st) dd (by decide +kernel) e.est.gC rfl ?_
    walk_at "wx"
    refine rc_isV (x := .non) dd e.cst (.own _) h7 kit_self ?_
    walk_at "wy"
    have A7 := A5.keep (s6.trans s7)
    refine we_call dd FE (by decide) (by decide +kernel) (by rfl) (by rfl) ?_
    walk_at "wx"
    refine we_call dd FP (by decide) (by decide +kernel) (by rfl) (by rfl) ?_
    walk_at "wA"
    walk_at "wn"
    walk_at "wA"
    with_reducible refine we_lit (G := G) (Fm := fun H0 H => DrawAt H0 H p (B + 1 + 1)) (H0 := H3') frm_draw (by with_unfolding_all (repeat' constructor)) A7 fun v8 H8' H8 s8 A8 dv8 => ?_
    walk_at "wx"
    cases dv8 with | @lst q8 xs8 ds8 hq8 hd8 =>
    refine ⟨H8', p, q8, B + 1 + 1, xs8, rfl, A8, by omega, hq8, by rw [hd8.len]; decide, by rw [hd8.len]; decide, fun i8 y8 H9 hi8 A9 => ?_⟩
    obtain ⟨dy8, hb8, dpy8⟩ := hd8.get hi8
    have nw : isW dy8 = false := hall isW _ (by decide) dy8 (List.mem_of_getElem? hb8)
    have S8 : Same H0 H8' := s1.trans (s3.trans s8)
    walk_at "wx"
    refine ⟨_, _, y8, _, rfl, .a2 (dp_sv ((S8.trans A9.same).tup hg)) (A9.same.dp _ _ dpy8) (isS_sd og) nw, (fun q => nomatch q), fun C eC a10 H10 s10 h10 => ?_⟩
    cases eC
    walk_at "wx"
    refine we_glob (v := .ref e.w) dd (by decide +kernel) e.ew.gC rfl ?_
    walk_at "wx"
    refine rc_isV (x := .non) dd e.cw (.own _) h10 kit_self ?_
    walk_at "wy"
    have A10 := A9.keep s10
    have S10 : Same H0 H10 := S8.trans A10.same
    refine rc_listOf dd (.inl (S10.seq hl)) fun L hL => ?_
    have A11 := A10.laid (o := .lst (refs ((pa, ps0) :: pr))) hL
    have nL := A10.same.free hL
    walk_at "wx"
    (with_reducible refine we_bm dd PySem.F.plainAttrs_list PySem.F.slot_list_insert PySem.F.type_list_insert ?q1 ?q2 ?q3 ?q4 ?q5 ?_); (case q1 => exact rfl); (case q2 => exact rfl); (case q3 => exact rfl); (case q4 => exact rfl); (case q5 => exact rfl)
    walk_at "wx"
    refine ⟨ty_list upd_same, ?_⟩
    walk_at "wx"
    refine we_call dd FT (by decide) (by decide +kernel) (by rfl) (by rfl) ?_
    walk_at "wx"
    have S11 : Same H0 (upd H10 L (.lst (refs ((pa, ps0) :: pr)))) := S10.trans (same_new hL)
    refine rc_lenL dd (S11.seq hl) ?_
    walk_at "wx"
    have e11 : (((refs ((pa, ps0) :: pr)).length : Nat) : Int) = (pr.length : Int) + 1 := by
      show (((((pa, ps0) :: pr).map _).length : Nat) : Int) = _
      rw [List.length_map, List.length_cons]
      omega
    have l1' : pr.length + 1 < 1000 := l1
    refine ⟨_, p, _, _, rfl, A11, by omega, by omega, by omega, fun n H12 n0 n1 A12 => ?_⟩
    walk_at "wx"
    have hL12 : H12 L = some (.lst (refs ((pa, ps0) :: pr))) := A12.same _ _ upd_same
    refine rm_insert hL12 (len_lt (by show (((pa, ps0) :: pr).map _).length < _; rw [List.length_map, List.length_cons]; omega)) n0 (by omega) ?_
    have A13 := A12.put (o' := .lst ((refs ((pa, ps0) :: pr)).take n.toNat ++ [bad] ++ (refs ((pa, ps0) :: pr)).drop n.toNat)) (p := L) upd_same
    rw [upd_upd] at A13
    -- the data of the spoilt list
    obtain ⟨zs, ez⟩ : ∃ zs : List (V × PyData), zs = ((((pa, ps0) :: pr).map fun q : Addr × S3 => (V.ref q.1, sd q.2)).take n.toNat ++ [(bad, db)] ++ (((pa, ps0) :: pr).map fun q : Addr × S3 => (V.ref q.1, sd q.2)).drop n.toNat) := ⟨_, rfl⟩
    have ez1 : zs.map (·.1) = (refs ((pa, ps0) :: pr)).take n.toNat ++ [bad] ++ (refs ((pa, ps0) :: pr)).drop n.toNat := by
      rw [ez, List.map_append, List.map_append, List.map_take, List.map_drop, List.map_map] <;> rfl
    have hzb : ∃ z ∈ zs, isS z.2 = false := ⟨(bad, db), by rw [ez]; simp, nb⟩
    have hzl : zs.length < 100000 := by
      have := congrArg List.length ez1
      rw [List.length_map, List.length_append, List.length_append, List.length_take, List.length_drop] at this
      simp only [List.length_map, List.length_cons, List.length_nil] at this
      omega
    have hzd : ∀ Hx, Same H8' Hx → ∀ z ∈ zs, Dp G.K Hx z.1 z.2 := fun Hx sx z hm => by
      rw [ez] at hm
      have hps : ∀ z ∈ (((pa, ps0) :: pr).map fun q : Addr × S3 => (V.ref q.1, sd q.2)), Dp G.K Hx z.1 z.2 := fun z hm => by
        obtain ⟨q, hq, rfl⟩ := List.mem_map.mp hm
        exact dp_sv ((S8.trans sx).tup (hs q hq))
      rcases List.mem_append.mp hm with hm | hm
      · rcases List.mem_append.mp hm with hm | hm
        · exact hps z (List.mem_of_mem_take hm)
        · rw [List.mem_singleton.mp hm]
          exact (s8.trans sx).dp _ _ (s3.dp _ _ dpb)
      · exact hps z (List.mem_of_mem_drop hm)
    rw [← ez1] at A13 ⊢
    generalize eH : upd H12 L (.lst (zs.map (·.1))) = H13 at A13 ⊢
    have hL13 : H13 L = some (.lst (zs.map (·.1))) := by rw [← eH]; exact upd_same
    have S13 : Same H8' H13 := fun b u q => by
      have nb' : b ≠ L := ne_of_none q nL
      have q1 := A12.same b u (by rw [upd_ne nb']; exact q)
      rw [← eH, upd_ne nb']
      exact q1
    walk_at "wx"
    with_reducible refine ws_forL d ?hf ?_
    case hf => intro _; rfl
    walk_at "wx"
    refine rc_tupleL dd (SqL.of hL13) fun t1 ht1 => ?_
    walk_at "wx"
    refine ⟨by show 0 ≤ sizeLine; decide, fun t2 ht2 => ?_⟩
    walk_at "wx"
    refine ⟨by show 0 ≤ sizeLine; decide, fun t3 ht3 => ?_⟩
    walk_at "wx"
    with_reducible refine we_newD fun t4 ht4 => ?_
    walk_at "wx"
    refine ⟨by show 8 ≤ sizeLine; decide, fun M hM => ?_⟩
    have u1 := same_new (o := .tup (zs.map (·.1))) ht1
    have u2 := same_new (o := .lst []) ht2
    have u3 := same_new (o := .tup []) ht3
    have u4 := same_new (o := .dK []) ht4
    have u5 := same_new (o := .lst [.ref L, .ref t1, .ref t2, .ref t3, .non, .int 5, .str "x", .ref t4]) hM
    have f1 := u5 _ _ (u4 _ _ (u3 _ _ (u2 _ _ (u1 _ _ hL13))))
    have f2 := u5 _ _ (u4 _ _ (u3 _ _ (u2 _ _ (upd_same (H := H13) (a := t1) (o := .tup (zs.map (·.1)))))))
    have f3 := u5 _ _ (u4 _ _ (u3 _ _ (upd_same (a := t2) (o := .lst []))))
    have f4 := u5 _ _ (u4 _ _ (upd_same (a := t3) (o := .tup [])))
    have f5 := u5 _ _ (upd_same (a := t4) (o := .dK []))
    have f6 := upd_same (H := upd (upd (upd (upd H13 t1 (.tup (zs.map (·.1)))) t2 (.lst [])) t3 (.tup [])) t4 (.dK [])) (a := M) (o := .lst [.ref L, .ref t1, .ref t2, .ref t3, .non, .int 5, .str "x", .ref t4])
    have uu := (((u1.trans u2).trans u3).trans u4).trans u5
    generalize eF : upd (upd (upd (upd (upd H13 t1 (.tup (zs.map (·.1)))) t2 (.lst [])) t3 (.tup [])) t4 (.dK [])) M (.lst [.ref L, .ref t1, .ref t2, .ref t3, .non, .int 5, .str "x", .ref t4]) = HF at f1 f2 f3 f4 f5 f6 uu ⊢
    have SF := S13.trans uu
    refine ⟨M, _, rfl, SqL.of f6, fun _ σ H' => Same HF H' ∧ ∃ v5, σ = [some (.ref p), some (.ref l), some bad, some (.ref pa), some (.ref L), v5], ⟨Same.refl _, _, rfl⟩, ?_, ?_, ?_⟩
    · rintro i σ H' _ ⟨sF, _⟩
      exact sF.seq (SqL.of f6)
    · rintro i x σ H' hx ⟨sF, v5, rfl⟩
      have case : Case G e H' "hull" x .non (some e.sts) := by
        have hm := List.mem_of_getElem? hx
        simp only [List.mem_cons, List.not_mem_nil, or_false] at hm
        rcases hm with rfl | rfl | rfl | rfl | rfl | rfl | rfl | rfl
        · exact .h2 (zs := zs) (.inl (SqL.of (sF _ _ f1))) (hzd _ (SF.trans sF)) hzl (.inr hzb)
        · exact .h2 (zs := zs) (.inr (SqT.of (sF _ _ f2))) (hzd _ (SF.trans sF)) hzl (.inr hzb)
        · exact .h2 (zs := []) (.inl (SqL.of (sF _ _ f3))) (fun _ h => nomatch h) (by decide) (.inl rfl)
        · exact .h2 (zs := []) (.inr (SqT.of (sF _ _ f4))) (fun _ h => nomatch h) (by decide) (.inl rfl)
        · exact .h1 (.base .non) (by decide +kernel) (by decide +kernel)
        · exact .h1 (.base (.int 5)) (by decide +kernel) (by decide +kernel)
        · exact .h1 (.base (.str "x")) (by decide +kernel) (by decide +kernel)
        · exact .h1 (.base (.dK (sF _ _ f5))) (by decide +kernel) (by decide +kernel)
      walk_at "wg"
      walk_at "wx"
      refine we_call dd FE (by decide) (by decide +kernel) (by rfl) (by rfl) ?_
      walk_at "wx"
      refine ⟨_, x, _, _, rfl, case, (fun q => nomatch q), fun C eC a14 H14 s14 h14 => ?_⟩
      cases eC
      walk_at "wx"
      refine we_glob (v := .ref e.sts) dd (by decide +kernel) e.ests.gC rfl ?_
      walk_at "wx"
      refine rc_isV (x := .non) dd e.csts (.own _) h14 kit_self ?_
      walk_at "wy"
      exact ⟨sF.trans s14, _, rfl⟩
    · rintro σ H' ⟨sF, v5, rfl⟩
      walk_at "wx"
      refine we_call dd FE (by decide) (by decide +kernel) (by rfl) (by rfl) ?_
      walk_at "wx"
      have SH : Same H0 H' := S8.trans (SF.trans sF)
      refine ⟨_, _, _, _, rfl, .a3 (o := none) (SH.tup hg) og, fun _ H15 s15 => ?_, fun C q => nomatch q⟩
      walk_at "wy"
      refine we_call dd FE (by decide) (by decide +kernel) (by rfl) (by rfl) ?_
      walk_at "wx"
      obtain ⟨⟨za, zs0⟩, hz⟩ : ∃ z, ((pa, ps0) :: pr).getLast? = some z := by
        rw [List.getLast?_eq_some_getLast (by simp)]
        exact ⟨_, rfl⟩
      have hzm := List.mem_of_getLast? hz
      refine rx_list dd ((SH.trans s15).seq hl) (at_last (x := .ref za) (by rw [List.getLast?_map, hz]; rfl)) ?_
      walk_at "wx"
      refine ⟨_, _, _, _, rfl, .w3 ((SH.trans s15).tup hg) ((SH.trans s15).tup (hs _ hzm)) og (ho _ hzm), fun _ H16 s16 => ?_, fun C q => nomatch q⟩
      walk_at "wy"
      exact k _ _ (S8.trans (same_new nL)) ((A13.keep (uu.trans (sF.trans (s15.trans s16)))).mono (by omega))
end K27

namespace K27
variable {G : Gb}
theorem low_mem {ss : List S3} {y : Int} : y ∈ lows ss ↔ ∃ h m, (some (y, h), m) ∈ ss := by
  unfold lows
  rw [List.mem_filterMap]
  constructor
  · rintro ⟨⟨o, m⟩, hm, e⟩
    cases o with
    | none => cases e
    | some p =>
      obtain ⟨l, h⟩ := p
      cases e
      exact ⟨h, m, hm⟩
  · rintro ⟨h, m, hm⟩
    exact ⟨_, hm, rfl⟩
theorem high_mem {ss : List S3} {y : Int} : y ∈ highs ss ↔ ∃ l m, (some (l, y), m) ∈ ss := by
  unfold highs
  rw [List.mem_filterMap]
  constructor
  · rintro ⟨⟨o, m⟩, hm, e⟩
    cases o with
    | none => cases e
    | some p =>
      obtain ⟨l, h⟩ := p
      cases e
      exact ⟨l, m, hm⟩
  · rintro ⟨h, m, hm⟩
    exact ⟨_, hm, rfl⟩
theorem may_of {ss : List S3} {s : S3} (h : s ∈ ss) (e : s.2 = true) : mayOf ss = true := List.any_eq_true.mpr ⟨s, h, e⟩
theorem all_open {ss : List S3} (h : ∀ s ∈ ss, ok3 s) (n : ss ≠ []) (e : lows ss = []) : mayOf ss = true := by
  cases ss with
  | nil => exact absurd rfl n
  | cons s ss =>
    obtain ⟨o, m⟩ := s
    cases o with
    | none => exact may_of List.mem_cons_self (h _ List.mem_cons_self)
    | some p => cases e
/-- the hull's value is one -/
theorem hull_one {ss : List S3} {r r' : S3} (h : HullIs ss r) (h' : HullIs ss r') : r = r' := by
  obtain ⟨o, m⟩ := r
  obtain ⟨o', m'⟩ := r'
  obtain ⟨h1, h2⟩ := h
  obtain ⟨h1', h2'⟩ := h'
  have em : m = m' := Eq.trans h1 (Eq.symm h1')
  subst em
  cases o with
  | none =>
    have h2 : lows ss = [] := h2
    cases o' with
    | none => rfl
    | some p =>
      have a := h2'.1
      rw [h2] at a
      cases a
  | some p =>
    cases o' with
    | none =>
      have h2' : lows ss = [] := h2'
      have a := h2.1
      rw [h2'] at a
      cases a
    | some p' =>
      obtain ⟨l, h⟩ := p
      obtain ⟨l', h'⟩ := p'
      obtain ⟨a1, a2, a3, a4⟩ := h2
      obtain ⟨b1, b2, b3, b4⟩ := h2'
      have c1 := a2 _ b1
      have c2 := b2 _ a1
      have c3 := a4 _ b3
      have c4 := b4 _ a3
      have e1 : l = l' := by omega
      have e2 : h = h' := by omega
      rw [e1, e2]
theorem lhull_hull {ss : List S3} {r : S3} (ho : ∀ s ∈ ss, ok3 s) (n : ss ≠ []) (h : LHullIs ss r) : HullIs ss r := by
  obtain ⟨o, m⟩ := r
  cases o with
  | none =>
    obtain ⟨h1, h2⟩ : lows ss = [] ∧ m = true := h
    exact ⟨h2.trans (all_open ho n h1).symm, h1⟩
  | some p =>
    obtain ⟨h1, h2⟩ := h
    exact ⟨h1, h2⟩
theorem hull_ok {ss : List S3} {r : S3} (ho : ∀ s ∈ ss, ok3 s) (n : ss ≠ []) (h : HullIs ss r) : ok3 r := by
  obtain ⟨o, m⟩ := r
  obtain ⟨h1, h2⟩ := h
  cases o with
  | none => exact Eq.trans h1 (all_open ho n h2)
  | some p =>
    obtain ⟨l, h⟩ := p
    obtain ⟨a1, a2, a3, a4⟩ := h2
    obtain ⟨y, m', hm⟩ := low_mem.mp a1
    have c1 : l ≤ y := ho _ hm
    have c2 := a4 y (high_mem.mpr ⟨l, m', hm⟩)
    show l ≤ h
    omega
theorem eqv_sd (s : S3) : PyData.eqv (sd s) (sd s) = true := by
  obtain ⟨o, m⟩ := s
  cases o with
  | none =>
    show (true && (true && (m == m && true))) = true
    rw [beq_self_eq_true]
    rfl
  | some p =>
    obtain ⟨l, h⟩ := p
    show ((l == l) && ((h == h) && (m == m && true))) = true
    rw [beq_self_eq_true, beq_self_eq_true, beq_self_eq_true]
    rfl
theorem hull_self {s r : S3} (o : ok3 s) (h : HullIs [s] r) : r = s := by
  refine hull_one h ?_
  obtain ⟨o', m⟩ := s
  cases o' with
  | none => exact ⟨by show m = (m || false); rw [Bool.or_false], rfl⟩
  | some p =>
    obtain ⟨l, hh⟩ := p
    refine ⟨by show m = (m || false); rw [Bool.or_false], ?_⟩
    show l ∈ [l] ∧ (∀ y ∈ [l], l ≤ y) ∧ hh ∈ [hh] ∧ ∀ y ∈ [hh], y ≤ hh
    simp
theorem inner_hull {ss : List S3} {s r : S3} (h : HullIs ss r) (hs : s ∈ ss) : innerB s r = true := by
  obtain ⟨o, m⟩ := s
  obtain ⟨ro, rm⟩ := r
  obtain ⟨h1, h2⟩ := h
  have c : innerC o ro = true := by
    cases o with
    | none => rfl
    | some p =>
      obtain ⟨l, h⟩ := p
      have b1 := low_mem.mpr ⟨h, m, hs⟩
      have b2 := high_mem.mpr ⟨l, m, hs⟩
      cases ro with
      | none =>
        have h2 : lows ss = [] := h2
        rw [h2] at b1
        cases b1
      | some q =>
        obtain ⟨l', h'⟩ := q
        have c1 := h2.2.1 _ b1
        have c2 := h2.2.2.2 _ b2
        show (decide (l' ≤ l) && decide (h ≤ h')) = true
        rw [decide_eq_true c1, decide_eq_true c2]
        rfl
  have g : (m && !rm) = false := by
    cases m with
    | false => rfl
    | true =>
      have e : rm = true := Eq.trans h1 (may_of hs rfl)
      rw [e]
      rfl
  show (if (m && !rm) = true then false else innerC o ro) = true
  rw [g]
  exact c
/-! ### the promises, at stretches that stand -/
theorem hull_at {K : PySem.W.Frag} {C a : Addr} {H : Hp} {Q : VK} {E : XK} {ps : List (Addr × S3)} (hq : SqL K H a (refs ps) ∨ SqT K H a (refs ps)) (hs : Strs K H ps) (ho : ∀ p ∈ ps, ok3 p.2) (h0 : ps ≠ []) (hl : ps.length < 100000)
    (q : ∀ (r : S3) (p : Addr) (H' : Hp), HullIs (ps.map (·.2)) r → Same H H' → H p = none → H' p = some (.tup (sv r)) → Q (.ref p) H') : spHull K C [.ref a] H Q E := by
  have e : (ps.map fun p : Addr × S3 => (V.ref p.1, sd p.2)).map (·.1) = refs ps := by
    rw [List.map_map] <;> rfl
  refine ⟨_, rfl, .inr ⟨a, ps.map fun p => (.ref p.1, sd p.2), rfl, by rw [e]; exact hq, ?_, by rw [List.length_map]; exact hl, ?_, fun _ _ => ⟨ps, e, hs, q⟩⟩⟩
  · intro z hz
    obtain ⟨p, hp, rfl⟩ := List.mem_map.mp hz
    exact dp_sv (hs p hp)
  · rintro (h | ⟨z, hz, h⟩)
    · exact absurd (List.map_eq_nil_iff.mp h) h0
    · obtain ⟨p, hp, rfl⟩ := List.mem_map.mp hz
      rw [isS_sd (ho p hp)] at h
      cases h
theorem within_at {K : PySem.W.Frag} {C a a' : Addr} {s s' : S3} {H : Hp} {Q : VK} {E : XK} (h : SqT K H a (sv s)) (h' : SqT K H a' (sv s')) (o : ok3 s) (o' : ok3 s') (q : ∀ H', Same H H' → Q (.bl (innerB s s')) H') : spWithin K C [.ref a, .ref a'] H Q E :=
  ⟨_, _, _, _, rfl, dp_sv h, dp_sv h', (fun e => by rw [isS_sd o] at e; cases e), (fun _ e => by rw [isS_sd o'] at e; cases e), fun _ _ => ⟨a, a', s, s', rfl, rfl, h, h', o, o', q⟩⟩
def wd : Option Int → PyData
  | none => .none
  | some i => .int i
theorem dp_wv {K : PySem.W.Frag} {H : Hp} (o : Option Int) : Dp K H (wv o) (wd o) := by
  cases o with
  | none => exact .non
  | some i => exact .int i
theorem isW_wd (o : Option Int) : isW (wd o) = true := by cases o <;> rfl
theorem allows_at {K : PySem.W.Frag} {C D a : Addr} {s : S3} {w : Option Int} {H : Hp} {Q : VK} {E : XK} (h : SqT K H a (sv s)) (o : ok3 s) (q : Q (.bl (allowsB s w)) H) : spAllows K C D [.ref a, wv w] H Q E :=
  ⟨_, _, _, _, rfl, dp_sv h, dp_wv w, (fun e => by rw [isS_sd o] at e; cases e), (fun _ e => by rw [isW_wd] at e; cases e), fun _ _ => ⟨a, s, w, rfl, h, rfl, q⟩⟩
/-- the worths that the law goes through -/
theorem worths_all {a c i j : Int} : ∀ x ∈ [V.non, .int a, .int c] ++ rgV i j, ∃ o, x = wv o := by
  intro x h
  rcases List.mem_append.mp h with h | h
  · simp only [List.mem_cons, List.not_mem_nil, or_false] at h
    rcases h with rfl | rfl | rfl
    · exact ⟨none, rfl⟩
    · exact ⟨some _, rfl⟩
    · exact ⟨some _, rfl⟩
  · obtain ⟨n, _, rfl⟩ := List.mem_map.mp h
    exact ⟨some _, rfl⟩
/-! ### keywords -/
def gSwap {α : Type} : List α → List α → List α
  | [], [w, s] => [s, w]
  | _, _ => []
def gOne {α : Type} : List α → List α → List α
  | [], [s] => [s]
  | _, _ => []
theorem rel_swap {vs : List V} {us : List Value} {zs : List V} {ws : List Value} (h1 : Vals vs us) (h2 : Vals zs ws) : Vals (gSwap vs zs) (gSwap us ws) := by
  cases h1 with
  | cons _ _ => exact .nil
  | nil =>
    cases h2 with
    | nil => exact .nil
    | cons a h2 =>
      cases h2 with
      | nil => exact .nil
      | cons c h2 =>
        cases h2 with
        | nil => exact .cons c (.cons a .nil)
        | cons _ _ => exact .nil
theorem rel_one {vs : List V} {us : List Value} {zs : List V} {ws : List Value} (h1 : Vals vs us) (h2 : Vals zs ws) : Vals (gOne vs zs) (gOne us ws) := by
  cases h1 with
  | cons _ _ => exact .nil
  | nil =>
    cases h2 with
    | nil => exact .nil
    | cons a h2 =>
      cases h2 with
      | nil => exact .cons a .nil
      | cons _ _ => exact .nil
theorem k_allows {sp : Sp} (T : Top G "allows" (top 15) ["stretch", "worth"]) (F : Fn G "allows" 2 4 sp) : FnK G "allows" ["worth", "stretch"] gSwap 4 sp := by
  refine T.fnk F gSwap (fun kV doc pm an cdv ct us ws hl => ?_) rel_swap
  match us, ws, hl with
  | [], [_, _], _ => rfl
  | [], [], h => cases h
  | [], [_], h => cases h
  | [], _ :: _ :: _ :: _, h => cases h
  | _ :: _, _, h => cases h
theorem k_within {sp : Sp} (T : Top G "is_within" (top 16) ["one", "other"]) (F : Fn G "is_within" 2 4 sp) : FnK G "is_within" ["other", "one"] gSwap 4 sp := by
  refine T.fnk F gSwap (fun kV doc pm an cdv ct us ws hl => ?_) rel_swap
  match us, ws, hl with
  | [], [_, _], _ => rfl
  | [], [], h => cases h
  | [], [_], h => cases h
  | [], _ :: _ :: _ :: _, h => cases h
  | _ :: _, _, h => cases h
theorem k_hull {sp : Sp} (T : Top G "hull" (top 17) ["stretches"]) (F : Fn G "hull" 1 3 sp) : FnK G "hull" ["stretches"] gOne 3 sp := by
  refine T.fnk F gOne (fun kV doc pm an cdv ct us ws hl => ?_) rel_one
  match us, ws, hl with
  | [], [_], _ => rfl
  | [], [], h => cases h
  | [], _ :: _ :: _, h => cases h
  | _ :: _, _, h => cases h
theorem kw_is {sp : Sp} (T : Top G "is_stretch" (top 14) ["thing"]) (F : Fn G "is_stretch" 1 2 sp) : FnK G "is_stretch" ["thing"] gOne 2 sp := by
  refine T.fnk F gOne (fun kV doc pm an cdv ct us ws hl => ?_) rel_one
  match us, ws, hl with
  | [], [_], _ => rfl
  | [], [], h => cases h
  | [], _ :: _ :: _, h => cases h
  | _ :: _, _, h => cases h
end K27

namespace K27
variable {G : Gb}
abbrev nLaw : List Str := ["_law_script", "_law_draw", "_law_turn", "_law_some", "_law_one", "_law_other", "_law_found", "_law_worth", "_law_k", "_law_part"]
theorem scLaw : FnScope nLaw ["_law_script"] (defScope (top 30)) := ⟨rfl, rfl, rfl, by decide +kernel, rfl, by decide +kernel, by decide +kernel⟩
def forBody : Stmt → List Stmt
  | .For _ _ b _ _ => b
  | _ => []
/-- what the law asks of -/
structure Lw (G : Gb) (e : Er G) : Prop where
  b : Bi G.mg
  FH : Fn G "hull" 1 3 (spHull G.K e.sts)
  FLH : Fn G "_law_hull" 1 1 (spLHull G.K)
  FI : Fn G "is_stretch" 1 2 (spIs G.K)
  FW : Fn G "is_within" 2 4 (spWithin G.K e.st)
  FN : Fn G "_law_is_inner" 2 1 (spInner G.K)
  FA : Fn G "allows" 2 4 (spAllows G.K e.st e.w)
  FL : Fn G "_law_lets" 2 1 (spAllowsW G.K)
  FR : Fn G "_law_is_refused" 2 6 (spRefused G.K)
  KA : FnK G "allows" ["worth", "stretch"] gSwap 4 (spAllows G.K e.st e.w)
  KW : FnK G "is_within" ["other", "one"] gSwap 4 (spWithin G.K e.st)
  KH : FnK G "hull" ["stretches"] gOne 3 (spHull G.K e.sts)
  KI : FnK G "is_stretch" ["thing"] gOne 2 (spIs G.K)
theorem law_rest {e : Er G} (F : Lw G e) {X : Cx} {W : WX} (d : Fr X G nLaw (defScope (top 30)) 6 W) {D : Ends} {va vi v7 : Option V} {p L pa za pf : Addr} {s0 z0 r : S3} {ps : List (Addr × S3)} {Hb H : Hp} {B : Nat}
    (A : DrawAt Hb H p B) (hB : B < 800000000000) (hL : SqL G.K Hb L (refs ps)) (hs : Strs G.K Hb ps) (ho : ∀ p ∈ ps, ok3 p.2) (n0 : 0 < ps.length) (n1 : ps.length < 1000) (ha : (pa, s0) ∈ ps) (hz : (za, z0) ∈ ps)
    (hf : SqT G.K H pf (sv r)) (hr : HullIs (ps.map (·.2)) r)
    (q : ∀ H0' H' v7, Same Hb H0' → DrawAt H0' H' p (B + 10) → D.nx [va, some (.ref p), vi, some (.ref L), some (.ref pa), some (.ref za), some (.ref pf), v7, none, none] H') :
    WB X ((forBody ((defBody (top 30)).getD 1 (.Pass ⟨0, 0, 0, 0⟩))).drop 3) D [va, some (.ref p), vi, some (.ref L), some (.ref pa), some (.ref za), some (.ref pf), v7, none, none] H := by
  have dd := d.toDef
  have b := F.b
  have Sb : Same Hb H := A.same
  have os0 : ok3 s0 := ho _ ha
  have oz0 : ok3 z0 := ho _ hz
  have hoss : ∀ s ∈ ps.map (·.2), ok3 s := by
    intro s h
    obtain ⟨p, hp, rfl⟩ := List.mem_map.mp h
    exact ho p hp
  have hpne : ps ≠ [] := fun e => by rw [e] at n0; cases n0
  have hne : ps.map (·.2) ≠ [] := fun e => hpne (List.map_eq_nil_iff.mp e)
  have okr : ok3 r := hull_ok hoss hne hr
  refine wb_cons ?_
  walk_at "wx"
  refine we_call dd F.FLH (by decide) (by decide +kernel) (by rfl) (by rfl) ?_
  walk_at "wx"
  refine ⟨L, ps, rfl, Sb.seq hL, hs.same Sb, by omega, fun r1 p1 H1 hr1 s1 _ hp1 => ?_⟩
  have er1 : r1 = r := hull_one (lhull_hull hoss hne hr1) hr
  walk_at "wx"
  refine ro_neD dd (dp_sv (s1.tup hf)) (dp_sv (SqT.of hp1)) shaped_sd shaped_sd ?_
  rw [er1, eqv_sd]
  have hf1 : SqT G.K H1 pf (sv r) := s1.tup hf
  walk_at "wy"
  refine we_call dd F.FI (by decide) (by decide +kernel) (by rfl) (by rfl) ?_
  walk_at "wx"
  refine ⟨_, _, rfl, dp_sv hf1, ?_⟩
  rw [isS_sd okr]
  walk_at "wy"
  -- each part is within the hull
  refine we_lcL dd [("_law_part", 9)] (by decide +kernel) (by intro _; rfl) ?_
  walk_at "wx"
  refine lcL_map (zs := ps) (fun p : Addr × S3 => V.ref p.1) (fun p => some (.bl (innerB p.2 r))) (s1.seq (Sb.seq hL)) (by omega) (fun z hz' H2 s2 R hR => ?_) (fun L2 H2 hL2 s2 h2 => ?_)
  · intro X' d'
    dsimp only [L2.wipe, List.map, List.set]
    walk_at "wg"
    refine ⟨rfl, fun X2 d2 => wts_nil (ite_t fun X3 d3 => ?_)⟩
    walk_at "wx"
    refine we_call d3 F.FW (by decide) (by decide +kernel) (by rfl) (by rfl) ?_
    walk_at "wx"
    exact within_at ((Sb.trans (s1.trans s2)).tup (hs z hz')) (s2.tup hf1) (ho z hz') okr fun H' s' => hR _ s'
  have em : ps.filterMap (fun p => some (V.bl (innerB p.2 r))) = (ps.map fun p => innerB p.2 r).map V.bl := by
    rw [List.filterMap_eq_map', List.map_map] <;> rfl
  rw [em] at h2
  refine ro_in dd (.inl (SqL.of h2)) rfl (flat_bools _) ?_
  rw [inV_noB]
  have en : (ps.map fun p => innerB p.2 r).any (!·) = false := by
    rw [List.any_eq_false]
    intro x hx
    obtain ⟨p, hp, rfl⟩ := List.mem_map.mp hx
    rw [inner_hull hr (List.mem_map_of_mem (f := fun p : Addr × S3 => p.2) hp)]
    decide
  rw [en]
  walk_at "wy"
  -- hull([one])
  refine we_call dd F.FH (by decide) (by decide +kernel) (by rfl) (by rfl) ?_
  walk_at "wx"
  refine ⟨by show 1 ≤ sizeLine; decide, fun l1 hl1 => ?_⟩
  walk_at "wA"
  have t1 := same_new (o := .lst [.ref pa]) hl1
  have S2 := Sb.trans (s1.trans (s2.trans t1))
  refine hull_at (ps := [(pa, s0)]) (.inl (SqL.of upd_same)) (fun z h => by rw [List.mem_singleton.mp h]; exact S2.tup (hs _ ha)) (fun z h => by rw [List.mem_singleton.mp h]; exact os0) (by simp) (by show 1 < 100000; decide) fun r2 p2 H3 hr2 s3 _ hp2 => ?_
  have er2 : r2 = s0 := hull_self os0 hr2
  walk_at "wx"
  refine ro_neD dd (dp_sv (SqT.of hp2)) (dp_sv ((S2.trans s3).tup (hs _ ha))) shaped_sd shaped_sd ?_
  rw [er2, eqv_sd]
  have S3 := S2.trans s3
  have hf3 : SqT G.K H3 pf (sv r) := (s2.trans (t1.trans s3)).tup hf1
  walk_at "wy"
  -- one within other, found within one
  refine we_call dd F.FW (by decide) (by decide +kernel) (by rfl) (by rfl) ?_
  walk_at "wx"
  refine within_at (S3.tup (hs _ ha)) (S3.tup (hs _ hz)) os0 oz0 fun H4 s4 => ?_
  walk_at "wx"
  refine we_call dd F.FN (by decide) (by decide +kernel) (by rfl) (by rfl) ?_
  walk_at "wx"
  refine ⟨pa, za, s0, z0, rfl, (S3.trans s4).tup (hs _ ha), (S3.trans s4).tup (hs _ hz), ?_⟩
  walk_at "wx"
  rw [ne_self]
  walk_at "wy"
  refine we_call dd F.FW (by decide) (by decide +kernel) (by rfl) (by rfl) ?_
  walk_at "wx"
  refine within_at (s4.tup hf3) ((S3.trans s4).tup (hs _ ha)) okr os0 fun H5 s5 => ?_
  have S5 := S3.trans (s4.trans s5)
  have hf5 : SqT G.K H5 pf (sv r) := (s4.trans s5).tup hf3
  walk_at "wx"
  refine we_call dd F.FN (by decide) (by decide +kernel) (by rfl) (by rfl) ?_
  walk_at "wx"
  refine ⟨pf, pa, r, s0, rfl, hf5, S5.tup (hs _ ha), ?_⟩
  walk_at "wx"
  rw [ne_self]
  walk_at "wy"
  -- the worths
  with_reducible refine ws_forL d ?hf ?_
  case hf => intro _; rfl
  refine we_mono (Q := fun y H6 => ∃ (l : Addr) (xs : List V), y = .ref l ∧ Same H5 H6 ∧ SqL G.K H6 l xs ∧ ∀ x ∈ xs, ∃ o, x = wv o) (fun y H6 h => ?_) ?_
  rotate_left
  · walk_at "wx"
    refine ro_pow ⟨by decide, by decide, by decide⟩ ?_
    walk_at "wx"
    refine ro_pow ⟨by decide, by decide, by decide⟩ ?_
    walk_at "wx"
    refine ⟨by show 3 ≤ sizeLine; decide, fun l6 hl6 => ?_⟩
    with_reducible refine we_listRg dd b (by decide +kernel) (by decide +kernel) ?h1 ?h2 ?_
    case h1 => rfl
    case h2 => rfl
    walk_at "wx"
    refine ⟨_, _, rfl, rfl, ⟨by decide, by decide, by decide, by decide, by decide⟩, fun l7 hl7 => ?_⟩
    walk_at "wx"
    refine ro_cat (same_new hl7 _ _ upd_same) upd_same (by decide) fun l8 hl8 => ?_
    exact ⟨l8, _, rfl, (same_new hl6).trans ((same_new hl7).trans (same_new hl8)), SqL.of upd_same, worths_all⟩
  obtain ⟨l, xs, rfl, s6, h6, hx⟩ := h
  refine ⟨l, xs, rfl, h6, fun _ σ H' => Same H6 H' ∧ ∃ v7, σ = [va, some (.ref p), vi, some (.ref L), some (.ref pa), some (.ref za), some (.ref pf), v7, none, none], ⟨Same.refl _, _, rfl⟩, ?_, ?_, ?_⟩
  · rintro i σ H' _ ⟨sF, _⟩
    exact sF.seq h6
  · rintro i x σ H' hi ⟨sF, v7, rfl⟩
    obtain ⟨o, rfl⟩ := hx x (List.mem_of_getElem? hi)
    have S7 := S5.trans (s6.trans sF)
    have hf7 : SqT G.K H' pf (sv r) := (s6.trans sF).tup hf5
    walk_at "wg"
    walk_at "wx"
    refine we_call dd F.FA (by decide) (by decide +kernel) (by rfl) (by rfl) ?_
    walk_at "wx"
    refine allows_at (S7.tup (hs _ ha)) os0 ?_
    walk_at "wx"
    refine we_call dd F.FL (by decide) (by decide +kernel) (by rfl) (by rfl) ?_
    walk_at "wx"
    refine ⟨pa, s0, o, rfl, S7.tup (hs _ ha), ?_⟩
    walk_at "wx"
    rw [ne_self]
    walk_at "wy"
    refine we_call dd F.FA (by decide) (by decide +kernel) (by rfl) (by rfl) ?_
    walk_at "wx"
    refine allows_at hf7 okr ?_
    walk_at "wx"
    refine we_call dd F.FL (by decide) (by decide +kernel) (by rfl) (by rfl) ?_
    walk_at "wx"
    refine ⟨pf, r, o, rfl, hf7, ?_⟩
    walk_at "wx"
    rw [ne_self]
    walk_at "wy"
    exact ⟨sF, _, rfl⟩
  rintro σ H7 ⟨sF, v7, rfl⟩
  have S7 := S5.trans (s6.trans sF)
  have hf7 : SqT G.K H7 pf (sv r) := (s6.trans sF).tup hf5
  -- by keywords
  walk_at "wx"
  refine we_callK0 dd F.KA (by decide) (by decide +kernel) (by rfl) (by rfl) (by rfl) ?_
  walk_at "wx"
  refine allows_at (w := none) (S7.tup (hs _ ha)) os0 ?_
  walk_at "wx"
  refine we_call dd F.FL (by decide) (by decide +kernel) (by rfl) (by rfl) ?_
  walk_at "wx"
  refine ⟨pa, s0, none, rfl, S7.tup (hs _ ha), ?_⟩
  walk_at "wx"
  rw [ne_self]
  walk_at "wy"
  refine we_callK0 dd F.KW (by decide) (by decide +kernel) (by rfl) (by rfl) (by rfl) ?_
  walk_at "wx"
  refine within_at (S7.tup (hs _ ha)) (S7.tup (hs _ hz)) os0 oz0 fun H8 s8 => ?_
  have S8 := S7.trans s8
  walk_at "wx"
  refine we_call dd F.FN (by decide) (by decide +kernel) (by rfl) (by rfl) ?_
  walk_at "wx"
  refine ⟨pa, za, s0, z0, rfl, S8.tup (hs _ ha), S8.tup (hs _ hz), ?_⟩
  walk_at "wx"
  rw [ne_self]
  walk_at "wy"
  refine we_callK0 dd F.KH (by decide) (by decide +kernel) (by rfl) (by rfl) (by rfl) ?_
  walk_at "wA"
  walk_at "wn"
  walk_at "wA"
  refine hull_at (ps := ps) (.inl (S8.seq hL)) (hs.same S8) ho hpne (by omega) fun r9 p9 H9 hr9 s9 _ hp9 => ?_
  have er9 : r9 = r := hull_one hr9 hr
  have S9 := S8.trans s9
  walk_at "wx"
  refine ro_neD dd (dp_sv (SqT.of hp9)) (dp_sv ((s8.trans s9).tup hf7)) shaped_sd shaped_sd ?_
  rw [er9, eqv_sd]
  walk_at "wy"
  refine we_callK0 dd F.KI (by decide) (by decide +kernel) (by rfl) (by rfl) (by rfl) ?_
  walk_at "wx"
  refine ⟨_, _, rfl, dp_sv (S9.tup (hs _ ha)), ?_⟩
  rw [isS_sd os0]
  walk_at "wy"
  refine we_call dd F.FR (by decide) (by decide +kernel) (by rfl) (by rfl) ?_
  walk_at "wx"
  have S1 := Sb.trans (s1.trans s2)
  refine ⟨Hb, p, L, B, ps, rfl, A.keep (s1.trans (s2.trans (t1.trans (s3.trans (s4.trans (s5.trans (s6.trans (sF.trans (s8.trans s9))))))))), hB, hL, hs, ho, n0, n1, fun H0' H' s' A' => ?_⟩
  walk_at "wy"
  exact q _ _ _ s' A'
end K27

namespace K27
variable {G : Gb}
def spLaw (K : PySem.W.Frag) : Sp := fun vs H Q _ => ∃ (a : Addr) (ns : List Int), vs = [.ref a] ∧ SqL K H a (ns.map V.int) ∧ ns.length ≤ 63 ∧ ∀ H', Q (.bl true) H'
/-- the stretches drawn so far, in the list at L -/
def Drawn (H0 : Hp) (p L : Addr) (B : Nat) (j : Nat) (H : Hp) : Prop := ∃ (Hb : Hp) (ps : List (Addr × S3)), Same H0 Hb ∧ DrawAt Hb H p (B + 4 * j) ∧ ps.length = j ∧ Hb L = some (.lst (refs ps)) ∧ (∀ q ∈ ps, ok3 q.2 ∧ Hb q.1 = some (.tup (sv q.2)))
theorem fn_law {e : Er G} (F : Lw G e) (FB : Fn G "_law_begun" 1 1 (spBegun G.K)) (FT : Fn G "_law_take" 2 2 spTake) (FD : Fn G "_law_drawn_stretch" 1 4 spDrawn) (T : Top G "law" (top 30) ["_law_script"]) : Fn G "law" 1 7 (spLaw G.K) := by
  refine T.fn (N := nLaw) scLaw (fun vs H Q E h => ?_) (fun X vs H Q E d h => ?_)
  · obtain ⟨_, _, rfl, _⟩ := h
    rfl
  · have dd := d.toDef
    have b := F.b
    obtain ⟨a, ns, rfl, hq, hn, k⟩ := h
    show WB X _ _ [some (.ref a), none, none, none, none, none, none, none, none, none] H
    refine wb_cons ?_
    walk_at "wx"
    refine we_call dd FB (by decide) (by decide +kernel) (by rfl) (by rfl) ?_
    walk_at "wx"
    refine ⟨a, ns, rfl, hq, hn, fun p Hd A => ?_⟩
    walk_at "wx"
    refine ws_forR d (by decide +kernel) b.b_range (by rfl) (by intro _; rfl) ?_
    walk_at "wx"
    refine rc_lenL dd (A.same.seq hq) ?_
    walk_at "wx"
    refine rc_min2 dd ?_
    walk_at "wx"
    have hl : (((ns.map V.int).length : Nat) : Int) ≤ 63 := by
      rw [List.length_map]
      omega
    refine ⟨by split <;> omega, by split <;> omega, fun i σ H' => ∃ (H0 : Hp) (v2 v3 v4 v5 v6 v7 : Option V), DrawAt H0 H' p (i * 40) ∧ σ = [some (.ref a), some (.ref p), v2, v3, v4, v5, v6, v7, none, none], ⟨H, _, _, _, _, _, _, A.mono (by omega), rfl⟩, ?_, ?_⟩
    · rintro i σ H' hi ⟨H0, v2, v3, v4, v5, v6, v7, A', rfl⟩
      have hi' : i < 100 := by
        have : (6 + if (((ns.map V.int).length : Nat) : Int) < 30 then (((ns.map V.int).length : Nat) : Int) else 30 : Int) ≤ 36 := by split <;> omega
        omega
      walk_at "wg"
      refine wb_cons ?_
      refine ws_lcR d 3 [("_law_k", 8)] (by rfl) (by decide +kernel) (by decide +kernel) (by decide +kernel) b.b_range (by intro _; rfl) (by rfl) (by rfl) (by decide +kernel) ?_
      walk_at "wx"
      refine we_call dd FT (by decide) (by decide +kernel) (by rfl) (by rfl) ?_
      walk_at "wx"
      refine ⟨H0, p, i * 40, 4, rfl, A', by omega, by decide, by decide, fun n H1 c0 c1 A1 => ?_⟩
      walk_at "wx"
      refine ⟨by omega, by omega, fun L hL0 => ⟨Drawn H0 p L (i * 40 + 1), ?_, ?_, ?_⟩⟩
      · refine ⟨upd H0 L (.lst []), [], same_new (A1.same.free hL0), (A1.laid hL0).mono (by omega), rfl, upd_same, fun _ h => nomatch h⟩
      · rintro j H2 hj ⟨Hb, ps, sb, A2, el, hL, hp⟩ X' d'
        dsimp only [L2.wipe, List.map, List.set]
        walk_at "wg"
        refine ⟨rfl, fun X2 d2 => wts_nil (ite_t fun X3 d3 => ?_)⟩
        walk_at "wx"
        refine we_call d3 FD (by decide) (by decide +kernel) (by rfl) (by rfl) ?_
        walk_at "wx"
        refine ⟨Hb, p, i * 40 + 1 + 4 * j, rfl, A2, by omega, fun s q Hb' H3 os s3 A3 hq0 hq1 => ?_⟩
        have hL3 := s3 _ _ hL
        have nL : ∀ (z : Addr) (y : List V), Hb' z = some (.tup y) → z ≠ L := fun z y hz e => by
          rw [e, hL3] at hz
          cases hz
        refine ⟨refs ps, A3.same _ _ hL3, len_lt (by rw [List.length_map]; omega), upd Hb' L (.lst (refs ps ++ [.ref q])), ps ++ [(q, s)], same_upd (sb.trans s3) (A1.same.free hL0), (A3.put hL3).mono (by omega), by rw [List.length_append, el]; rfl, ?_, ?_⟩
        · rw [upd_same, refs, refs, List.map_append]
          rfl
        · intro z hz
          rcases List.mem_append.mp hz with hz | hz
          · have h3 := s3 _ _ (hp z hz).2
            exact ⟨(hp z hz).1, by rw [upd_ne (nL _ _ h3)]; exact h3⟩
          · rw [List.mem_singleton.mp hz]
            exact ⟨os, by rw [upd_ne (nL _ _ hq1)]; exact hq1⟩
      · rintro H2 ⟨Hb, ps, sb, A2, el, hL, hp⟩
        have hs : Strs G.K Hb ps := fun z hz => SqT.of (hp z hz).2
        have ho : ∀ z ∈ ps, ok3 z.2 := fun z hz => (hp z hz).1
        have l0 : 0 < ps.length := by omega
        have l1 : ps.length ≤ 4 := by omega
        rw [← el] at A2
        have hne : ps ≠ [] := fun e => by rw [e] at l0; cases l0
        obtain ⟨⟨pa, s0⟩, hh⟩ : ∃ z, ps[0]? = some z := ⟨_, List.getElem?_eq_getElem l0⟩
        obtain ⟨⟨za, z0⟩, hz⟩ : ∃ z, ps.getLast? = some z := by
          rw [List.getLast?_eq_some_getLast hne]
          exact ⟨_, rfl⟩
        have ha := List.mem_of_getElem? hh
        have hzm := List.mem_of_getLast? hz
        refine wb_cons ?_
        refine ws_par2 d 4 5 rfl rfl (by decide) (by decide +kernel) (by decide +kernel) (by intro _; rfl) (by rfl) ?_ (by rfl) (by rfl)
        walk_at "wx"
        refine rx_list dd (SqL.of (A2.same _ _ hL)) (atI_nat (j := 0) (by rw [List.getElem?_map, hh]; rfl)) ?_
        walk_at "wx"
        refine rx_list dd (SqL.of (A2.same _ _ hL)) (at_last (x := .ref za) (by rw [List.getLast?_map, hz]; rfl)) ?_
        walk_at "wx"
        refine we_call dd F.FH (by decide) (by decide +kernel) (by rfl) (by rfl) ?_
        walk_at "wx"
        refine we_call dd FT (by decide) (by decide +kernel) (by rfl) (by rfl) ?_
        walk_at "wx"
        refine ⟨Hb, p, _, 2, rfl, A2, by omega, by decide, by decide, fun m H3 c2 c3 A3 => ?_⟩
        walk_at "wx"
        have hL3 := A3.same _ _ hL
        refine ite_b (fun _ => ?_) (fun _ => ?_)
        all_goals
          walk_at "wx"
          first
            | refine rc_tupleL dd (SqL.of hL3) fun t ht => ?_
            | refine rc_listOf dd (.inl (SqL.of hL3)) fun t ht => ?_
          walk_at "wA"
          refine hull_at (ps := ps) (by first | exact .inr (SqT.of upd_same) | exact .inl (SqL.of upd_same)) (hs.same (A3.same.trans (same_new ht))) ho hne (by omega) fun r pf H5 hr s5 _ hpf => ?_
          exact law_rest F d (A3.keep ((same_new ht).trans s5)) (by omega) (SqL.of hL) hs ho l0 (by omega) ha hzm (SqT.of hpf) hr fun H0' H' v7 s' A' => ⟨H0', _, _, _, _, _, _, A'.mono (by omega), rfl⟩
    · rintro σ H' ⟨H0, v2, v3, v4, v5, v6, v7, A', rfl⟩
      walk_at "wx"
      exact k _
end K27

namespace K27
/-- a def stands at its name -/
structure DefAt (K : PySem.W.Frag) (x : Str) (st : Stmt) : Prop where
  is : ∃ (f : Addr) (oc : Value) (od : Option Addr) (kV dc pm : Value) (an : Option Addr) (cd ct : Value) (sl : Array (Option Value)), PySem.W.nsIn K mainGlobals x = some (some (.ref f)) ∧
    K.lookup f = some ⟨oc, od, .func (PySem.W.fnOf x x (defArgs st) (defBody st) (defScope st) .none kV dc pm an cd ct), sl⟩ ∧ PySem.W.codeIn K cd x = true ∧ PySem.W.keepIn K (.ref f) = true
theorem at_mk {K : PySem.W.Frag} {x : Str} {st : Stmt} {f : Addr} {oc : Value} {od : Option Addr} {kV dc pm : Value} {an : Option Addr} {cd ct : Value} {sl : Array (Option Value)} (a : PySem.W.nsIn K mainGlobals x = some (some (.ref f)))
    (l : K.lookup f = some ⟨oc, od, .func (PySem.W.fnOf x x (defArgs st) (defBody st) (defScope st) .none kV dc pm an cd ct), sl⟩) (c : PySem.W.codeIn K cd x = true) (k : PySem.W.keepIn K (.ref f) = true) : DefAt K x st :=
  ⟨f, oc, od, kV, dc, pm, an, cd, ct, sl, a, l, c, k⟩
theorem DefAt.top {G : Gb} {x : Str} {st : Stmt} {ps : List Str} {h : Heap} (D : DefAt G.K x st) (X : G.K.In h) (M : h.Ns mainGlobals G.mg)
    (hb : ∀ (kV doc pm : Value) (an : Option Addr) (cdv ct : Value) (us : List Value), us.length = ps.length → bindArgs (PySem.W.fnOf x x (defArgs st) (defBody st) (defScope st) .none kV doc pm an cdv ct) { pos := us } = pure (ps.zip us))
    (pn : ps = (defArgs st).args.map (·.arg)) : Top G x st ps := by
  obtain ⟨f, oc, od, kV, dc, pm, an, cd, ct, sl, a, l, c, k⟩ := D.is
  have F := fun_mk (st := st) l c k
  exact ⟨⟨f, _, PySem.W.mg_of X M a, F, F.binds hb⟩, pn⟩
/-- an error's class stands at its name, below the class at S -/
structure ErrAt (K : PySem.W.Frag) (x : Str) (S C : Addr) : Prop where
  gC : PySem.W.nsIn K mainGlobals x = some (some (.ref C))
  xC : PySem.W.excIn K C [.type "ValueError", .type "Exception", .type "BaseException", .type "object"] "ValueError.__new__" = true
  kC : PySem.W.keepIn K (.ref C) = true
  bC : PySem.W.subIn K (.ref C) (.type "BaseException") = some true
  tC : PySem.W.typeIn K (.ref C) = some (.type "type")
  sC : PySem.W.subIn K (.ref C) (.ref S) = some true
  hg : PySem.W.findIn K (.ref C) "__getattribute__" = some (some (.builtin "BaseException.__getattribute__"))
  hk : PySem.W.findIn K (.ref C) "__getattr__" = some none
  hd : PySem.W.hasDictIn K C = true
  ha : PySem.W.findIn K (.ref C) "__class__" = some (some (.builtin "object.__class__"))
  hn : PySem.W.specialIn K (.builtin "object.__class__") "__get__" = some (some (.builtin "getset_descriptor.__get__"))
  ht : PySem.W.takesIn K (.builtin "object.__class__") = some true
  hm : PySem.W.mroIn K C (.type "object") = some true
theorem ErrAt.exc {K : PySem.W.Frag} {x : Str} {S C : Addr} (e : ErrAt K x S C) : ExcC K C := ⟨e.hg, e.hk, e.bC, e.hd, e.ha, e.hn, e.ht, e.hm⟩
theorem ErrAt.cls {G : Gb} {x : Str} {S C : Addr} {h : Heap} (e : ErrAt G.K x S C) (X : G.K.In h) (M : h.Ns mainGlobals G.mg) : ExC G x C := ⟨PySem.W.mg_of X M e.gC, e.xC, e.kC, e.bC, e.tC⟩
/-- the root of the program's errors -/
structure RootAt (K : PySem.W.Frag) (S : Addr) : Prop where
  gS : PySem.W.nsIn K mainGlobals "SheetError" = some (some (.ref S))
  hd : PySem.W.hasDictIn K S = true
  bS : PySem.W.subIn K (.ref S) (.type "BaseException") = some true
  tS : PySem.W.typeIn K (.ref S) = some (.type "type")
def er_mk {G : Gb} {S c1 c2 c3 : Addr} {h : Heap} (X : G.K.In h) (M : h.Ns mainGlobals G.mg) (R : RootAt G.K S) (e1 : ErrAt G.K "BadStretch" S c1) (e2 : ErrAt G.K "BadStretches" S c2) (e3 : ErrAt G.K "BadWorth" S c3) : Er G where
  S := S
  st := c1
  sts := c2
  w := c3
  eS := PySem.W.mg_of X M R.gS
  est := e1.cls X M
  ests := e2.cls X M
  ew := e3.cls X M
  mst := ⟨R.hd, R.bS, R.tS, e1.sC⟩
  msts := ⟨R.hd, R.bS, R.tS, e2.sC⟩
  mw := ⟨R.hd, R.bS, R.tS, e3.sC⟩
  cst := e1.exc
  csts := e2.exc
  cw := e3.exc
/-- no name of the language is hidden -/
structure BiAt (K : PySem.W.Frag) : Prop where
  z_int : PySem.W.nsIn K mainGlobals "int" = some none
  z_bool : PySem.W.nsIn K mainGlobals "bool" = some none
  z_str : PySem.W.nsIn K mainGlobals "str" = some none
  z_list : PySem.W.nsIn K mainGlobals "list" = some none
  z_tuple : PySem.W.nsIn K mainGlobals "tuple" = some none
  z_set : PySem.W.nsIn K mainGlobals "set" = some none
  z_dict : PySem.W.nsIn K mainGlobals "dict" = some none
  z_type : PySem.W.nsIn K mainGlobals "type" = some none
  z_len : PySem.W.nsIn K mainGlobals "len" = some none
  z_isinstance : PySem.W.nsIn K mainGlobals "isinstance" = some none
  z_abs : PySem.W.nsIn K mainGlobals "abs" = some none
  z_min : PySem.W.nsIn K mainGlobals "min" = some none
  z_max : PySem.W.nsIn K mainGlobals "max" = some none
  z_any : PySem.W.nsIn K mainGlobals "any" = some none
  z_all : PySem.W.nsIn K mainGlobals "all" = some none
  z_sum : PySem.W.nsIn K mainGlobals "sum" = some none
  z_sorted : PySem.W.nsIn K mainGlobals "sorted" = some none
  z_repr : PySem.W.nsIn K mainGlobals "repr" = some none
  z_range : PySem.W.nsIn K mainGlobals "range" = some none
  z_enumerate : PySem.W.nsIn K mainGlobals "enumerate" = some none
  z_zip : PySem.W.nsIn K mainGlobals "zip" = some none
  z_reversed : PySem.W.nsIn K mainGlobals "reversed" = some none
  z_ValueError : PySem.W.nsIn K mainGlobals "ValueError" = some none
theorem BiAt.bi {G : Gb} {h : Heap} (b : BiAt G.K) (X : G.K.In h) (M : h.Ns mainGlobals G.mg) : Bi G.mg where
  b_int := PySem.W.mg_none_of X M b.z_int
  b_bool := PySem.W.mg_none_of X M b.z_bool
  b_str := PySem.W.mg_none_of X M b.z_str
  b_list := PySem.W.mg_none_of X M b.z_list
  b_tuple := PySem.W.mg_none_of X M b.z_tuple
  b_set := PySem.W.mg_none_of X M b.z_set
  b_dict := PySem.W.mg_none_of X M b.z_dict
  b_type := PySem.W.mg_none_of X M b.z_type
  b_len := PySem.W.mg_none_of X M b.z_len
  b_isinstance := PySem.W.mg_none_of X M b.z_isinstance
  b_abs := PySem.W.mg_none_of X M b.z_abs
  b_min := PySem.W.mg_none_of X M b.z_min
  b_max := PySem.W.mg_none_of X M b.z_max
  b_any := PySem.W.mg_none_of X M b.z_any
  b_all := PySem.W.mg_none_of X M b.z_all
  b_sum := PySem.W.mg_none_of X M b.z_sum
  b_sorted := PySem.W.mg_none_of X M b.z_sorted
  b_repr := PySem.W.mg_none_of X M b.z_repr
  b_range := PySem.W.mg_none_of X M b.z_range
  b_enumerate := PySem.W.mg_none_of X M b.z_enumerate
  b_zip := PySem.W.mg_none_of X M b.z_zip
  b_reversed := PySem.W.mg_none_of X M b.z_reversed
  b_ValueError := PySem.W.mg_none_of X M b.z_ValueError
/-- what the text's top has written -/
structure AllAt (K : PySem.W.Frag) : Prop where
  b : BiAt K
  h6 : DefAt K "is_number" (top 6)
  h7 : DefAt K "is_worth" (top 7)
  h8 : DefAt K "is_list" (top 8)
  h9 : DefAt K "is_tuple_of" (top 9)
  h11 : DefAt K "allows_worth" (top 11)
  h12 : DefAt K "hull_of" (top 12)
  h14 : DefAt K "is_stretch" (top 14)
  h15 : DefAt K "allows" (top 15)
  h16 : DefAt K "is_within" (top 16)
  h17 : DefAt K "hull" (top 17)
  h18 : DefAt K "want_stretch" (top 18)
  h20 : DefAt K "_law_begun" (top 20)
  h21 : DefAt K "_law_mixed" (top 21)
  h22 : DefAt K "_law_take" (top 22)
  h23 : DefAt K "_law_pick" (top 23)
  h24 : DefAt K "_law_hull" (top 24)
  h25 : DefAt K "_law_lets" (top 25)
  h26 : DefAt K "_law_is_inner" (top 26)
  h27 : DefAt K "_law_drawn_stretch" (top 27)
  h28 : DefAt K "_law_error_of" (top 28)
  h29 : DefAt K "_law_is_refused" (top 29)
  h30 : DefAt K "law" (top 30)
theorem law_all {G : Gb} {h : Heap} {S c1 c2 c3 : Addr} (X : G.K.In h) (M : h.Ns mainGlobals G.mg) (A : AllAt G.K) (R : RootAt G.K S) (e1 : ErrAt G.K "BadStretch" S c1) (e2 : ErrAt G.K "BadStretches" S c2) (e3 : ErrAt G.K "BadWorth" S c3) : Fn G "law" 1 7 (spLaw G.K) := by
  have b := A.b.bi X M
  have e := er_mk X M R e1 e2 e3
  have T6 : Top G "is_number" (top 6) ["thing"] := A.h6.top X M (fun _ _ _ _ _ _ us hl => match us, hl with | [_], _ => rfl) rfl
  have T7 : Top G "is_worth" (top 7) ["thing"] := A.h7.top X M (fun _ _ _ _ _ _ us hl => match us, hl with | [_], _ => rfl) rfl
  have T8 : Top G "is_list" (top 8) ["thing"] := A.h8.top X M (fun _ _ _ _ _ _ us hl => match us, hl with | [_], _ => rfl) rfl
  have T9 : Top G "is_tuple_of" (top 9) ["thing", "count"] := A.h9.top X M (fun _ _ _ _ _ _ us hl => match us, hl with | [_, _], _ => rfl) rfl
  have T11 : Top G "allows_worth" (top 11) ["stretch", "worth"] := A.h11.top X M (fun _ _ _ _ _ _ us hl => match us, hl with | [_, _], _ => rfl) rfl
  have T12 : Top G "hull_of" (top 12) ["stretches"] := A.h12.top X M (fun _ _ _ _ _ _ us hl => match us, hl with | [_], _ => rfl) rfl
  have T14 : Top G "is_stretch" (top 14) ["thing"] := A.h14.top X M (fun _ _ _ _ _ _ us hl => match us, hl with | [_], _ => rfl) rfl
  have T15 : Top G "allows" (top 15) ["stretch", "worth"] := A.h15.top X M (fun _ _ _ _ _ _ us hl => match us, hl with | [_, _], _ => rfl) rfl
  have T16 : Top G "is_within" (top 16) ["one", "other"] := A.h16.top X M (fun _ _ _ _ _ _ us hl => match us, hl with | [_, _], _ => rfl) rfl
  have T17 : Top G "hull" (top 17) ["stretches"] := A.h17.top X M (fun _ _ _ _ _ _ us hl => match us, hl with | [_], _ => rfl) rfl
  have T18 : Top G "want_stretch" (top 18) ["thing"] := A.h18.top X M (fun _ _ _ _ _ _ us hl => match us, hl with | [_], _ => rfl) rfl
  have T20 : Top G "_law_begun" (top 20) ["_law_script"] := A.h20.top X M (fun _ _ _ _ _ _ us hl => match us, hl with | [_], _ => rfl) rfl
  have T21 : Top G "_law_mixed" (top 21) ["_law_draw"] := A.h21.top X M (fun _ _ _ _ _ _ us hl => match us, hl with | [_], _ => rfl) rfl
  have T22 : Top G "_law_take" (top 22) ["_law_draw", "_law_many"] := A.h22.top X M (fun _ _ _ _ _ _ us hl => match us, hl with | [_, _], _ => rfl) rfl
  have T23 : Top G "_law_pick" (top 23) ["_law_draw", "_law_some"] := A.h23.top X M (fun _ _ _ _ _ _ us hl => match us, hl with | [_, _], _ => rfl) rfl
  have T24 : Top G "_law_hull" (top 24) ["_law_some"] := A.h24.top X M (fun _ _ _ _ _ _ us hl => match us, hl with | [_], _ => rfl) rfl
  have T25 : Top G "_law_lets" (top 25) ["_law_span", "_law_worth"] := A.h25.top X M (fun _ _ _ _ _ _ us hl => match us, hl with | [_, _], _ => rfl) rfl
  have T26 : Top G "_law_is_inner" (top 26) ["_law_one", "_law_other"] := A.h26.top X M (fun _ _ _ _ _ _ us hl => match us, hl with | [_, _], _ => rfl) rfl
  have T27 : Top G "_law_drawn_stretch" (top 27) ["_law_draw"] := A.h27.top X M (fun _ _ _ _ _ _ us hl => match us, hl with | [_], _ => rfl) rfl
  have T28 : Top G "_law_error_of" (top 28) ["_law_word", "_law_one", "_law_other"] := A.h28.top X M (fun _ _ _ _ _ _ us hl => match us, hl with | [_, _, _], _ => rfl) rfl
  have T29 : Top G "_law_is_refused" (top 29) ["_law_draw", "_law_some"] := A.h29.top X M (fun _ _ _ _ _ _ us hl => match us, hl with | [_, _], _ => rfl) rfl
  have T30 : Top G "law" (top 30) ["_law_script"] := A.h30.top X M (fun _ _ _ _ _ _ us hl => match us, hl with | [_], _ => rfl) rfl
  have FNum := fn_num b T6
  have FWo := fn_worth b FNum T7
  have FLi := fn_list b T8
  have FTu := fn_tup b T9
  have FAW := fn_allowsW T11
  have FHO := fn_hullOf b T12
  have FIs := fn_is b FTu FNum T14
  have FWant := fn_want b e FIs T18
  have FA := fn_allows b e FWant FWo FAW T15
  have FW := fn_within e FWant FHO T16
  have FH := fn_hull b e FLi FIs FHO T17
  have FM := fn_mixed b T21
  have FT := fn_take b FM T22
  have FP := fn_pick b FT T23
  have FE := fn_err e FA FW FH T28
  exact fn_law ⟨b, FH, fn_lhull b T24, FIs, FW, fn_inner T26, FA, fn_lets T25, fn_ref b e FT FP FIs FE T29, k_allows T15 FA, k_within T16 FW, k_hull T17 FH, kw_is T14 FIs⟩ (fn_begun b T20) FT (fn_drawn FT FP T27) T30
theorem all_mk {l : PySem.W.OpenLaw} {w : World} {K : PySem.W.Frag} {h : Heap} {mg : Str → Option Value} {fa S c1 c2 c3 : Addr} (X : K.In h) (M : h.Ns mainGlobals mg) (hfa : mg "law" = some (.ref fa)) (A : AllAt K) (R : RootAt K S) (e1 : ErrAt K "BadStretch" S c1) (e2 : ErrAt K "BadStretches" S c2) (e3 : ErrAt K "BadWorth" S c3) :
    ∃ fd : FuncData, (∀ (s : Shared) (v : Value), BindsTo s fd ⟨[v], []⟩ [("_law_script", v)]) ∧ ∀ base : Heap, K.In base → base.Ns mainGlobals mg → FnOk l.prog w K mg base (L2.CX l.prog w) 7 fa fd ["_law_script"] (spLaw K) := by
  obtain ⟨f, oc, od, kV, dc, pm, an, cd, ct, sl, a, lk, c, k⟩ := A.h30.is
  have ef := hfa.symm.trans (PySem.W.mg_of X M a)
  cases ef
  refine ⟨PySem.W.fnOf "law" "law" (defArgs (top 30)) (defBody (top 30)) (defScope (top 30)) .none kV dc pm an cd ct, fun s v => .of_eq rfl, fun base X' M' => ?_⟩
  obtain ⟨f', fd', ps', h1, kp, ok, _, _, ep, st', F2⟩ := (law_all (G := ⟨l.prog, w, K, mg, base⟩) (h := base) X' M' A R e1 e2 e3).is
  have F1 := fun_mk (st := top 30) lk c k
  have ef := hfa.symm.trans h1
  injection ef with ef
  injection ef with ef
  subst ef
  have e3 := fun_one F1 F2
  subst e3
  have e4 : ps' = [("_law_script" : Str)] := ep
  subst e4
  exact ok
theorem walk {l : PySem.W.OpenLaw} {q : Program} {loose : List Str} {XP : (Str → Option Value) → Heap → Prop} {YP : World → Heap → Prop} {d : DefRec} {K : Params → PySem.W.Frag} (hn : l.most = some 63) (hdf : d.params.defaults = [])
    (hY : ∀ (w : World) (h : Heap), YP w h → (K w.params).In h)
    (F : ∀ (w : World) (mg : Str → Option Value) (fa : Addr) (h : Heap), (K w.params).In h → h.Ns mainGlobals mg → mg d.name = some (.ref fa) →
      ∃ fd : FuncData, (∀ (s : Shared) (u : Value), BindsTo s fd ⟨[u], []⟩ [("_law_script", u)]) ∧ ∀ base : Heap, (K w.params).In base → base.Ns mainGlobals mg → FnOk l.prog w (K w.params) mg base (L2.CX l.prog w) 7 fa fd ["_law_script"] (spLaw (K w.params))) :
    PySem.W.WalkO q loose XP YP l.row.toRowW d [] (fun f vs => PySem.call f vs) :=
  L2.walk_of (n := 63) (k := 7) (x := "_law_script") (CX := fun w => L2.CX l.prog w) (sp := fun w => spLaw (K w.params)) hn (by decide) hdf ⟨rfl, by decide, by decide⟩ hY F (fun _ _ a ns hl _ hS => ⟨a, ns, rfl, hS, hl, fun _ => rfl⟩) fun w H s e s' h => by
    obtain ⟨_, _, _, _, _, _, _, _, _, _, _, _, z⟩ := h
    exact z
end K27

end

open PySem PySem.W PyProof.Rows in
set_option maxRecDepth 100000 in
set_option maxHeartbeats 0 in
theorem PySem.Challenge.cw_whysheets_k27_stretches_by_themselves_holds : PySem.Challenge.rw_whysheets_k27_stretches_by_themselves.Holds := by
  w_on; o_law; k_head; (case hw => w_witness2)
  k_fill
  refine K27.walk (l := PySem.Challenge.rw_whysheets_k27_stretches_by_themselves) rfl rfl (fun w h Y => PySem.W.kIn_of Y) ?F
  case F =>
    intro w mg fa h KX G hmg
    refine' K27.all_mk KX G hmg ?A ?R ?e1 ?e2 ?e3
    (case R => (refine' K27.RootAt.mk ?gS ?hd ?bS ?tS; (case gS => k_is); (case hd => k_is); (case bS => k_is); (case tS => k_is)))
    (case e1 => (refine' K27.ErrAt.mk ?gC ?xC ?kC ?bC ?tC ?sC ?hg ?hk ?hd ?ha ?hn ?ht ?hm; (case gC => k_is); (case xC => k_exc); (case kC => k_is); (case bC => k_is); (case tC => k_is); (case sC => k_is); (case hg => k_is); (case hk => k_is); (case hd => k_is); (case ha => k_is); (case hn => k_is); (case ht => k_is); (case hm => k_is)))
    (case e2 => (refine' K27.ErrAt.mk ?gC ?xC ?kC ?bC ?tC ?sC ?hg ?hk ?hd ?ha ?hn ?ht ?hm; (case gC => k_is); (case xC => k_exc); (case kC => k_is); (case bC => k_is); (case tC => k_is); (case sC => k_is); (case hg => k_is); (case hk => k_is); (case hd => k_is); (case ha => k_is); (case hn => k_is); (case ht => k_is); (case hm => k_is)))
    (case e3 => (refine' K27.ErrAt.mk ?gC ?xC ?kC ?bC ?tC ?sC ?hg ?hk ?hd ?ha ?hn ?ht ?hm; (case gC => k_is); (case xC => k_exc); (case kC => k_is); (case bC => k_is); (case tC => k_is); (case sC => k_is); (case hg => k_is); (case hk => k_is); (case hd => k_is); (case ha => k_is); (case hn => k_is); (case ht => k_is); (case hm => k_is)))
    case A =>
      refine' K27.AllAt.mk ?b ?h6 ?h7 ?h8 ?h9 ?h11 ?h12 ?h14 ?h15 ?h16 ?h17 ?h18 ?h20 ?h21 ?h22 ?h23 ?h24 ?h25 ?h26 ?h27 ?h28 ?h29 ?h30
      (case b => (refine' K27.BiAt.mk ?zint ?zbool ?zstr ?zlist ?ztuple ?zset ?zdict ?ztype ?zlen ?zisinstance ?zabs ?zmin ?zmax ?zany ?zall ?zsum ?zsorted ?zrepr ?zrange ?zenumerate ?zzip ?zreversed ?zValueError; (case zint => k_is); (case zbool => k_is); (case zstr => k_is); (case zlist => k_is); (case ztuple => k_is); (case zset => k_is); (case zdict => k_is); (case ztype => k_is); (case zlen => k_is); (case zisinstance => k_is); (case zabs => k_is); (case zmin => k_is); (case zmax => k_is); (case zany => k_is); (case zall => k_is); (case zsum => k_is); (case zsorted => k_is); (case zrepr => k_is); (case zrange => k_is); (case zenumerate => k_is); (case zzip => k_is); (case zreversed => k_is); (case zValueError => k_is)))
      (case h6 => (refine' K27.at_mk ?a ?l ?c ?k; (case a => k_is); (case l => k_is); (case c => k_is); (case k => k_is)))
      (case h7 => (refine' K27.at_mk ?a ?l ?c ?k; (case a => k_is); (case l => k_is); (case c => k_is); (case k => k_is)))
      (case h8 => (refine' K27.at_mk ?a ?l ?c ?k; (case a => k_is); (case l => k_is); (case c => k_is); (case k => k_is)))
      (case h9 => (refine' K27.at_mk ?a ?l ?c ?k; (case a => k_is); (case l => k_is); (case c => k_is); (case k => k_is)))
      (case h11 => (refine' K27.at_mk ?a ?l ?c ?k; (case a => k_is); (case l => k_is); (case c => k_is); (case k => k_is)))
      (case h12 => (refine' K27.at_mk ?a ?l ?c ?k; (case a => k_is); (case l => k_is); (case c => k_is); (case k => k_is)))
      (case h14 => (refine' K27.at_mk ?a ?l ?c ?k; (case a => k_is); (case l => k_is); (case c => k_is); (case k => k_is)))
      (case h15 => (refine' K27.at_mk ?a ?l ?c ?k; (case a => k_is); (case l => k_is); (case c => k_is); (case k => k_is)))
      (case h16 => (refine' K27.at_mk ?a ?l ?c ?k; (case a => k_is); (case l => k_is); (case c => k_is); (case k => k_is)))
      (case h17 => (refine' K27.at_mk ?a ?l ?c ?k; (case a => k_is); (case l => k_is); (case c => k_is); (case k => k_is)))
      (case h18 => (refine' K27.at_mk ?a ?l ?c ?k; (case a => k_is); (case l => k_is); (case c => k_is); (case k => k_is)))
      (case h20 => (refine' K27.at_mk ?a ?l ?c ?k; (case a => k_is); (case l => k_is); (case c => k_is); (case k => k_is)))
      (case h21 => (refine' K27.at_mk ?a ?l ?c ?k; (case a => k_is); (case l => k_is); (case c => k_is); (case k => k_is)))
      (case h22 => (refine' K27.at_mk ?a ?l ?c ?k; (case a => k_is); (case l => k_is); (case c => k_is); (case k => k_is)))
      (case h23 => (refine' K27.at_mk ?a ?l ?c ?k; (case a => k_is); (case l => k_is); (case c => k_is); (case k => k_is)))
      (case h24 => (refine' K27.at_mk ?a ?l ?c ?k; (case a => k_is); (case l => k_is); (case c => k_is); (case k => k_is)))
      (case h25 => (refine' K27.at_mk ?a ?l ?c ?k; (case a => k_is); (case l => k_is); (case c => k_is); (case k => k_is)))
      (case h26 => (refine' K27.at_mk ?a ?l ?c ?k; (case a => k_is); (case l => k_is); (case c => k_is); (case k => k_is)))
      (case h27 => (refine' K27.at_mk ?a ?l ?c ?k; (case a => k_is); (case l => k_is); (case c => k_is); (case k => k_is)))
      (case h28 => (refine' K27.at_mk ?a ?l ?c ?k; (case a => k_is); (case l => k_is); (case c => k_is); (case k => k_is)))
      (case h29 => (refine' K27.at_mk ?a ?l ?c ?k; (case a => k_is); (case l => k_is); (case c => k_is); (case k => k_is)))
      (case h30 => (refine' K27.at_mk ?a ?l ?c ?k; (case a => k_is); (case l => k_is); (case c => k_is); (case k => k_is)))
