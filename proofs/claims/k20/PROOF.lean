import PyProof.Rows.All
import Wide.All
import OpenK.AllK
import Wide.FinOn
import HandS.ForMost
import HandS.ForExc
import HandS.IsInst
import HandS.AnyAll
import HandS.Nested
import HandS.Wide
import HandS.TupAny
import HandS.Flow
import HandS.Conv
import HandS.HeadHook4
import HandS.HeadWalk
import HandS.EndTab
import HandS.Walk
import HandS.SortRule
import HandS.TupMul
import HandS.Dict
import HandS.Style
import HandS.Zip
import HandS.Iter
import KE.GoesEnum
import KE.GoesMore
import HandS.MapSum
import HandS.Evl
import HandS.Head0
import HandS.Head1
import HandS.Head2
import PySem.Challenge.RW_emberlane_k20_where_one_is_far_on
set_option Elab.async false
set_option linter.all false
set_option maxRecDepth 100000
set_option maxHeartbeats 4000000
/-! Quiet code: small defs that only read, so that a generator expression may call them. -/
namespace Qt
open PySem PySem.Spec PyProof.Rows L2

abbrev Up (h g : Heap) : Prop := ∀ b o, h.get? b = some o → g.get? b = some o
theorem Up.rfl' {h : Heap} : Up h h := fun _ _ e => e
theorem Up.tr {h g k : Heap} (a : Up h g) (b : Up g k) : Up h k := fun c o e => b c o (a c o e)
theorem up_lt {h g : Heap} (a : Up h g) {L : Addr} (hL : g.objs.size ≤ L) : h.get? L = none := by
  cases q : h.get? L with
  | none => rfl
  | some o => exact absurd (Nat.lt_of_lt_of_le (Heap.lt_size (a _ _ q)) hL) (Nat.lt_irrefl _)

/-- where quiet code stands: the program, the written part, the things that are read, a heap that stays -/
structure Qc where
  prog : Program
  w : World
  K : PySem.W.Frag
  mg : Str → Option Value
  H : Hp
  hd : Heap

structure Qc.Ok (c : Qc) : Prop where
  kin : c.K.In c.hd
  glo : c.hd.Ns mainGlobals c.mg
  bui : ∃ mb, c.hd.Ns builtinsNs mb ∧ ∀ x : Str, x ≠ "__name__" → mb x = bootBuiltins x
  lim : c.hd.NoLimit
  hok : HOk c.prog c.w c.H c.hd

/-- the names of a frame -/
abbrev Nm := List (Str × V)
structure At (c : Qc) (env : Env) (N : Nm) (h : Heap) : Prop where
  up : Up c.hd h
  kd : env.scope.kind = .function
  gl : env.globals = mainGlobals
  bl : env.builtins = builtinsNs
  nm : ∃ m, h.Ns env.locals m ∧ ∀ x v, N.lookup x = some v → ∃ u, RelV v u ∧ Look env h m x u
theorem look_up {env : Env} {h g : Heap} {m : Str → Option Value} {x : Str} {u : Value} (k : Up h g) (l : Look env h m x u) : Look env g m x u := by
  rcases l with l | ⟨l, a, e, i⟩
  · exact .inl l
  · exact .inr ⟨l, a, e, i.keeps k⟩
theorem At.more {c : Qc} {env : Env} {N : Nm} {h g : Heap} (a : At c env N h) (k : Up h g) : At c env N g :=
  ⟨a.up.tr k, a.kd, a.gl, a.bl, let ⟨m, n, q⟩ := a.nm; ⟨m, n.keeps k, fun x v e => let ⟨u, r, l⟩ := q x v e; ⟨u, r, look_up k l⟩⟩⟩

structure Rm (k : Nat) (A : Around) : Prop where
  hd : A.handled = none
  dp : A.depth + k < recursionLimit
theorem Rm.mono {j k : Nat} {A : Around} (r : Rm k A) (h : j ≤ k) : Rm j A := ⟨r.hd, by have := r.dp; omega⟩
theorem Rm.deeper {k : Nat} {A : Around} (r : Rm (k + 1) A) (env : Env) : Rm k (A.deeper env) := ⟨r.hd, by have := r.dp; show A.depth + 1 + k < _; omega⟩

section
variable (c : Qc) (k : Nat) (env : Env) (N : Nm)
/-- an expression that gives v and leaves all as it was -/
def QE (e : Expr) (v : V) : Prop := ∀ (A : Around) (E : Value → Shared → Prop) (Q : Value → Shared → Prop) (s : Shared), Rm k A → At c env N s.heap →
  (∀ u g tk, RelV v u → Up s.heap g → Q u { s with heap := g, toks := tk }) → wpAny (model c.prog c.w) A (eval e env) Q E s
/-- a test -/
def QT (e : Expr) (b : Bool) : Prop := ∀ (A : Around) (E : Value → Shared → Prop) (Q : Bool → Shared → Prop) (s : Shared), Rm k A → At c env N s.heap →
  (∀ g tk, Up s.heap g → Q b { s with heap := g, toks := tk }) → wpAny (model c.prog c.w) A (isTrue e env (eval e env)) Q E s
/-- arguments -/
def QA (es : List Expr) (vs : List V) : Prop := ∀ (pos : Pos) (A : Around) (E : Value → Shared → Prop) (Q : List Value → Shared → Prop) (s : Shared), Rm k A → At c env N s.heap →
  (∀ us g tk, Vals vs us → Up s.heap g → Q us { s with heap := g, toks := tk }) → wpAny (model c.prog c.w) A (spliced (backTo pos (starEach es env))) Q E s
/-- a block that returns v -/
def QB (st : List Stmt) (v : V) : Prop := ∀ (A : Around) (E : Value → Shared → Prop) (Q : Flow → Shared → Prop) (s : Shared), Rm k A → At c env N s.heap → c.hd.get? env.locals = none →
  (∀ u g tk, RelV v u → (∀ b o, b ≠ env.locals → s.heap.get? b = some o → g.get? b = some o) → Q (.ret u) { s with heap := g, toks := tk }) → wpAny (model c.prog c.w) A (execs st env) Q E s
end
/-- a def called -/
def QF (c : Qc) (k : Nat) (f : Addr) (fd : FuncData) (ps : List Str) (vs : List V) (v : V) : Prop := ∀ (A : Around) (R : Result → Shared → Prop) (args : Args) (us : List Value) (s : Shared), Rm k A → Up c.hd s.heap → BindsTo s fd args (ps.zip us) → Vals vs us →
  (∀ u g tk, RelV v u → Up s.heap g → R (.ok (.ret u)) { s with heap := g, toks := tk }) → codeAny (model c.prog c.w) A (.call (.ref f) args) R s

section
variable {c : Qc} {k : Nat} {env : Env} {N : Nm} {x : Str} {v : V} {e a b : Expr} {es : List Expr} {pos p : Pos}

theorem q_name (hN : N.lookup x = some v) (hd : (x == ("__debug__" : Str)) = false := by decide) (hcd : (x == ("__classdict__" : Str)) = false := by decide) : QE c k env N (.Name x pos) v := by
  intro A E Q s r i h
  obtain ⟨m, n, q⟩ := i.nm
  obtain ⟨u, ru, l⟩ := q x v hN
  have fin : Q u s := h u s.heap s.toks ru Up.rfl'
  rcases l with ⟨l1, l2⟩ | ⟨l1 | l1, ad, l2, l3⟩
  · exact wpAny_Name (wpAny_loadName_local i.kd l1 n l2 fin) hd
  · exact wpAny_Name (wpAny_loadName_cell i.kd l1 l2 l3 fin) hd
  · exact wpAny_Name (wpAny_loadName_free i.kd l1 l2 l3 fin hcd) hd
theorem q_int {i : Int} {j : Nat} : QE c k env N (.Constant (.int i) j pos) (.int i) := fun A E Q s r _ h =>
  wpAny_Constant_int (h _ s.heap _ ⟨_, rfl⟩ Up.rfl')
theorem q_bool {t : Bool} {j : Nat} : QE c k env N (.Constant (.bool t) j pos) (.bl t) := fun A E Q s r _ h =>
  Constant_bool (h _ s.heap s.toks rfl Up.rfl')
theorem q_none {j : Nat} : QE c k env N (.Constant .none j pos) .non := fun A E Q s r _ h =>
  Constant_none (h _ s.heap s.toks rfl Up.rfl')
/-- a module's own name, a built-in's name -/
theorem q_glob {u : Value} (O : c.Ok) (hg : env.kindOf x = some .globalImplicit) (hm : c.mg x = some u) (r : RelV v u) (hd : (x == ("__debug__" : Str)) = false := by decide) : QE c k env N (.Name x pos) v := fun A E Q s _ i h =>
  Calls.Name_function_global i.kd hg (Calls.loadGlobal_global (by rw [i.gl]; exact O.glo.keeps i.up) hm (h u s.heap s.toks r Up.rfl')) hd
theorem ld_b {A : Around} {E : Value → Shared → Prop} {Q : Value → Shared → Prop} {s : Shared} {u : Value} (O : c.Ok) (i : At c env N s.heap) (hg : env.kindOf x = some .globalImplicit) (hm : c.mg x = none) (hv : bootBuiltins x = some u) (h : Q u s)
    (hn : x ≠ "__name__") (hd : (x == ("__debug__" : Str)) = false) : wpAny (model c.prog c.w) A (eval (.Name x pos) env) Q E s := by
  obtain ⟨mb, n1, n2⟩ := O.bui
  exact Calls.Name_function_global i.kd hg (Calls.loadGlobal_builtin (by rw [i.gl]; exact O.glo.keeps i.up) hm (by rw [i.bl]; exact n1.keeps i.up) ((n2 x hn).trans hv) h) hd
theorem q_blt {u : Value} (O : c.Ok) (hg : env.kindOf x = some .globalImplicit) (hm : c.mg x = none) (hv : bootBuiltins x = some u) (r : RelV v u) (hn : x ≠ "__name__" := by decide) (hd : (x == ("__debug__" : Str)) = false := by decide) :
    QE c k env N (.Name x pos) v := fun A E Q s _ i h => ld_b O i hg hm hv (h u s.heap s.toks r Up.rfl') hn hd

/-! ### arguments, calls -/
theorem qa_nil : QA c k env N [] [] := fun _ _ _ _ s _ _ h => Calls.spliced_nil (h _ s.heap s.toks .nil Up.rfl')
theorem qa_cons {vs : List V} (he : QE c k env N e v) (hs : QA c k env N es vs) (st : starEach (e :: es) env = (false, eval e env) :: starEach es env := by rfl) : QA c k env N (e :: es) (v :: vs) := by
  intro pos A E Q s r i h
  rw [st]
  show wpAny _ A (spliced ((false, eval e env) :: backTo pos (starEach es env))) Q E s
  refine Calls.spliced_cons (he A E _ s r i fun u g tk ru up => ?_)
  exact hs pos A E _ _ r (i.more up) fun us g2 tk2 rus up2 => h (u :: us) g2 tk2 (.cons ru rus) (up.tr up2)

/-- a built-in function that reads -/
def QC (c : Qc) (id : String) (vs : List V) (v : V) : Prop := ∀ (A : Around) (E : Value → Shared → Prop) (Q : Value → Shared → Prop) (us : List Value) (s : Shared), Up c.hd s.heap → Vals vs us →
  (∀ u g tk, RelV v u → Up s.heap g → Q u { s with heap := g, toks := tk }) → wpAny (model c.prog c.w) A (call (.builtin id) us) Q E s
theorem q_callB {id : String} {vs : List V} (O : c.Ok) (hc : QC c id vs v) (hg : env.kindOf x = some .globalImplicit) (hm : c.mg x = none) (hv : bootBuiltins x = some (.builtin id)) (ha : QA c k env N (e :: es) vs)
    (hn : x ≠ "__name__" := by decide) (hd : (x == ("__debug__" : Str)) = false := by decide) (st : starEach (e :: es) env = (false, eval e env) :: starEach es env := by rfl) (hpl : (backTo pos (starEach es env)).any (·.1) = false := by rfl) :
    QE c k env N (.Call (.Name x p) (e :: es) [] pos) v := by
  intro A E Q s r i h
  refine wpAny_Call_Name_kw (ld_b O i hg hm hv ?_ hn hd)
  refine PyProof.Rows.callWith_builtin1 (ha pos A E _ s r i fun us g tk rus up => ?_) st hpl
  exact hc A E Q us _ (i.up.tr up) rus fun u g2 tk2 ru up2 => h u g2 tk2 ru (up.tr up2)
theorem q_call {f : Addr} {fd : FuncData} {ps : List Str} {vs : List V} (O : c.Ok) (F : QF c k f fd ps vs v) (hbd : Binds c.K fd ps []) (hl : vs.length = ps.length) (hg : env.kindOf x = some .globalImplicit) (hm : c.mg x = some (.ref f)) (hk : PySem.W.keepIn c.K (.ref f) = true) (ha : QA c k env N (e :: es) vs)
    (hd : (x == ("__debug__" : Str)) = false := by decide) (st : starEach (e :: es) env = (false, eval e env) :: starEach es env := by rfl) (hpl : (backTo pos (starEach es env)).any (·.1) = false := by rfl) :
    QE c k env N (.Call (.Name x p) (e :: es) [] pos) v := by
  intro A E Q s r i h
  refine wpAny_Call_Name_kw (Calls.Name_function_global i.kd hg (Calls.loadGlobal_global (by rw [i.gl]; exact O.glo.keeps i.up) hm ?_) hd)
  refine PySem.W.callWith_K (h₀ := c.hd) O.kin hk (ha pos A E _ s r i fun us g tk rus up => ⟨O.kin.keeps (i.up.tr up), ?_⟩) st hpl
  refine wpAny_call (F A _ ⟨us, []⟩ us _ r (i.up.tr up) (by simpa using hbd _ us (O.kin.keeps (i.up.tr up)) (by simpa [rus.length] using hl)) rus fun u g2 tk2 ru up2 => ?_)
  exact h u g2 tk2 ru (up.tr up2)

/-! ### and, or, not, comparisons -/
theorem q_andF {rest : List Expr} (ha : QE c k env N a (.bl false)) : QE c k env N (.BoolOp .And (a :: b :: rest) pos) (.bl false) := by
  intro A E Q s r i h
  refine BoolOp_and (ha A E _ s r i fun u g tk ru up => ?_)
  cases ru
  exact wpAny_truthy_bool (h _ g tk rfl up)
theorem q_andT {rest : List Expr} (ha : QE c k env N a (.bl true)) (hb : QE c k env N (.BoolOp .And (b :: rest) p) v) : QE c k env N (.BoolOp .And (a :: b :: rest) p) v := by
  intro A E Q s r i h
  refine BoolOp_and (ha A E _ s r i fun u g tk ru up => ?_)
  cases ru
  exact wpAny_truthy_bool (hb A E Q _ r (i.more up) fun u2 g2 tk2 r2 up2 => h u2 g2 tk2 r2 (up.tr up2))
theorem q_orT {rest : List Expr} (ha : QE c k env N a (.bl true)) : QE c k env N (.BoolOp .Or (a :: b :: rest) pos) (.bl true) := by
  intro A E Q s r i h
  refine BoolOp_or (ha A E _ s r i fun u g tk ru up => ?_)
  cases ru
  exact wpAny_truthy_bool (h _ g tk rfl up)
theorem q_orF {rest : List Expr} (ha : QE c k env N a (.bl false)) (hb : QE c k env N (.BoolOp .Or (b :: rest) p) v) : QE c k env N (.BoolOp .Or (a :: b :: rest) p) v := by
  intro A E Q s r i h
  refine BoolOp_or (ha A E _ s r i fun u g tk ru up => ?_)
  cases ru
  exact wpAny_truthy_bool (hb A E Q _ r (i.more up) fun u2 g2 tk2 r2 up2 => h u2 g2 tk2 r2 (up.tr up2))
theorem q_one {op : BoolOp} (ha : QE c k env N a v) : QE c k env N (.BoolOp op [a] pos) v := fun A E Q s r i h => BoolOp_one (ha A E Q s r i h)
theorem q_and2 {p1 p2 : Bool} (ha : QE c k env N a (.bl p1)) (hb : p1 = true → QE c k env N b (.bl p2)) : QE c k env N (.BoolOp .And [a, b] pos) (.bl (p1 && p2)) := by
  cases p1 with
  | false => exact q_andF ha
  | true => exact q_andT ha (q_one (hb rfl))
theorem q_or2 {p1 p2 : Bool} (ha : QE c k env N a (.bl p1)) (hb : p1 = false → QE c k env N b (.bl p2)) : QE c k env N (.BoolOp .Or [a, b] pos) (.bl (p1 || p2)) := by
  cases p1 with
  | true => exact q_orT ha
  | false => exact q_orF ha (q_one (hb rfl))
theorem q_not {t : Bool} (ha : QE c k env N a (.bl t)) : QE c k env N (.UnaryOp .Not a pos) (.bl (!t)) := by
  intro A E Q s r i h
  refine UnaryOp_ (ha A E _ s r i fun u g tk ru up => ?_)
  cases ru
  exact PyProof.Rows.not_of (wpAny_truthy_bool (h _ g tk rfl up))
/-- an operator on two ints -/
def QO (c : Qc) (op : CmpOp) (p : Int → Int → Bool) : Prop := ∀ (A : Around) (E : Value → Shared → Prop) (Q : Value → Shared → Prop) (i j : Int) (t u : Tok) (s : Shared), Q (.bool (p i j)) s → wpAny (model c.prog c.w) A (compareOp op (.int i t) (.int j u)) Q E s
theorem qo_lt : QO c .Lt fun i j => decide (i < j) := fun A E Q i j t u s h => PyProof.Rows.lt_int h
theorem qo_le : QO c .LtE fun i j => decide (i ≤ j) := fun A E Q i j t u s h => PyProof.Rows.le_int h
theorem qo_gt : QO c .Gt fun i j => decide (j < i) := fun A E Q i j t u s h => PyProof.Rows.gt_int h
theorem qo_ge : QO c .GtE fun i j => decide (j ≤ i) := fun A E Q i j t u s h => PyProof.Rows.ge_int h
theorem qo_eq : QO c .Eq fun i j => i == j := fun A E Q i j t u s h => PyProof.Rows.eq_int h
theorem q_cmp {op : CmpOp} {pr : Int → Int → Bool} {i j : Int} (ho : QO c op pr) (ha : QE c k env N a (.int i)) (hb : QE c k env N b (.int j)) (hm : behindInMarks op b = false) : QE c k env N (.Compare a [op] [b] pos) (.bl (pr i j)) := by
  intro A E Q s r i0 h
  refine wpAny_Compare1 (ha A E _ s r i0 fun u g tk ru up => hb A E _ _ r (i0.more up) fun u2 g2 tk2 r2 up2 => ?_) hm
  obtain ⟨t1, rfl⟩ := ru
  obtain ⟨t2, rfl⟩ := r2
  exact ho A E Q i j t1 t2 _ (h _ g2 tk2 rfl (up.tr up2))
theorem q_isN (ha : QE c k env N a v) {j : Nat} {p2 : Pos} : QE c k env N (.Compare a [.Is] [.Constant .none j p2] pos) (.bl (decide (v = .non))) := by
  intro A E Q s r i0 h
  refine wpAny_Compare1 (ha A E _ s r i0 fun u g tk ru up => Constant_none (PyProof.Rows.is_none_gen ?_)) rfl
  refine h _ g tk ?_ up
  show Value.bool (u == .none) = Value.bool (decide (v = .non))
  cases v <;> first
    | (cases ru; rfl)
    | (obtain ⟨t, rfl⟩ := ru; rfl)
/-- a < b < c on ints -/
theorem q_chain {op op' : CmpOp} {pr pr' : Int → Int → Bool} {i j m : Int} {d : Expr} (ho : QO c op pr) (ho' : QO c op' pr') (ha : QE c k env N a (.int i)) (hb : QE c k env N b (.int j)) (hd : QE c k env N d (.int m))
    (hm : lastMarks [op, op'] [b, d] = false := by with_unfolding_all rfl) : QE c k env N (.Compare a [op, op'] [b, d] pos) (.bl (pr i j && pr' j m)) := by
  intro A E Q s r i0 h
  refine Compare_chain (ha A E _ s r i0 fun u g tk ru up => chain_link (hb A E _ _ r (i0.more up) fun u2 g2 tk2 r2 up2 => ?_)) hm
  obtain ⟨t1, rfl⟩ := ru
  obtain ⟨t2, rfl⟩ := r2
  refine ho A E _ i j t1 t2 _ (wpAny_truthy_bool ?_)
  cases q : pr i j with
  | false =>
    rw [q] at h
    exact ite_ff (h _ g2 tk2 rfl (up.tr up2))
  | true =>
    rw [q] at h
    refine ite_tt (chain_last (hd A E _ _ r (i0.more (up.tr up2)) fun u3 g3 tk3 r3 up3 => ?_))
    obtain ⟨t3, rfl⟩ := r3
    refine ho' A E Q j m t2 t3 _ ?_
    have := h (.bool (pr' j m)) g3 tk3 rfl ((up.tr up2).tr up3)
    exact this

/-! ### tests -/
theorem qt_val {t : Bool} (ha : QE c k env N a (.bl t)) (he : ∀ whole, isTrue a env whole = (do let v ← whole; standAt a.pos; holding [v] (truthy v)) := by intro _; rfl) : QT c k env N a t := by
  intro A E Q s r i h
  refine isTrue_plain (ha A E _ s r i fun u g tk ru up => ?_) (he _)
  cases ru
  exact wpAny_truthy_bool (h g tk up)
theorem qt_cmp {op : CmpOp} {pr : Int → Int → Bool} {i j : Int} (ho : QO c op pr) (ha : QE c k env N a (.int i)) (hb : QE c k env N b (.int j)) (hm : behindInMarks op b = false) : QT c k env N (.Compare a [op] [b] pos) (pr i j) := by
  intro A E Q s r i0 h
  refine wpAny_isTrue_Compare1 (ha A E _ s r i0 fun u g tk ru up => hb A E _ _ r (i0.more up) fun u2 g2 tk2 r2 up2 => ?_) hm
  obtain ⟨t1, rfl⟩ := ru
  obtain ⟨t2, rfl⟩ := r2
  exact ho A E _ i j t1 t2 _ (wpAny_truthy_bool (h g2 tk2 (up.tr up2)))
theorem qt_not {t : Bool} (ha : QT c k env N a t) : QT c k env N (.UnaryOp .Not a pos) (!t) := fun A E Q s r i h =>
  isTrue_not (ha A E _ s r i fun g tk up => h g tk up)
theorem qt_orT {rest : List Expr} (ha : QT c k env N a true) : QT c k env N (.BoolOp .Or (a :: rest) pos) true := fun A E Q s r i h =>
  isTrue_or (ha A E _ s r i fun g tk up => ite_tt (h g tk up))
theorem qt_or2 {t : Bool} (ha : QT c k env N a false) (hb : QT c k env N b t) : QT c k env N (.BoolOp .Or [a, b] pos) t := fun A E Q s r i h => by
  refine isTrue_or (ha A E _ s r i fun g tk up => ite_ff ?_)
  refine isTrue_or (hb A E _ _ r (i.more up) fun g2 tk2 up2 => ?_)
  cases t with
  | true => exact ite_tt (h g2 tk2 (up.tr up2))
  | false => exact ite_ff (isTrue_or_nil (h g2 tk2 (up.tr up2)))
theorem qt_andF {rest : List Expr} (ha : QT c k env N a false) : QT c k env N (.BoolOp .And (a :: rest) pos) false := fun A E Q s r i h =>
  isTrue_and (ha A E _ s r i fun g tk up => ite_ff (h g tk up))
theorem qt_and2 {t : Bool} (ha : QT c k env N a true) (hb : QT c k env N b t) : QT c k env N (.BoolOp .And [a, b] pos) t := fun A E Q s r i h => by
  refine isTrue_and (ha A E _ s r i fun g tk up => ite_tt ?_)
  refine isTrue_and (hb A E _ _ r (i.more up) fun g2 tk2 up2 => ?_)
  cases t with
  | true => exact ite_tt (isTrue_and_nil (h g2 tk2 (up.tr up2)))
  | false => exact ite_ff (h g2 tk2 (up.tr up2))

/-! ### blocks -/
theorem qb_ret {rest : List Stmt} (he : QE c k env N e v) : QB c k env N (.Return (some e) pos :: rest) v := by
  intro A E Q s r i _ h
  refine wpAny_execs_cons (wpAny_Return_some (he A E _ s r i fun u g tk ru up => ?_))
  exact h u g tk ru fun b o _ q => up b o q
theorem qb_ifT {body orelse rest : List Stmt} (ht : QT c k env N e true) (hb : QB c k env N body v) : QB c k env N (.If e body orelse pos :: rest) v := by
  intro A E Q s r i hL h
  refine wpAny_execs_cons (wpAny_If (ht A E _ s r i fun g tk up => ite_tt ?_))
  refine hb A E _ _ r (i.more up) hL fun u g2 tk2 ru k2 => ?_
  exact h u g2 tk2 ru fun b o nb q => k2 b o nb (up b o q)
theorem qb_ifF {body rest : List Stmt} (ht : QT c k env N e false) (hb : QB c k env N rest v) : QB c k env N (.If e body [] pos :: rest) v := by
  intro A E Q s r i hL h
  refine wpAny_execs_cons (wpAny_If (ht A E _ s r i fun g tk up => ite_ff (wpAny_execs_nil ?_)))
  refine hb A E _ _ r (i.more up) hL fun u g2 tk2 ru k2 => ?_
  exact h u g2 tk2 ru fun b o nb q => k2 b o nb (up b o q)
end
end Qt

namespace Qt
open PySem PySem.Spec PyProof.Rows L2

/-! ### kinds, sizes -/
/-- the class of a thing that is read -/
inductive Knd (c : Qc) : V → String → Prop where
  | non : Knd c .non "NoneType"
  | bl (b : Bool) : Knd c (.bl b) "bool"
  | int (i : Int) : Knd c (.int i) "int"
  | str (z : Str) : Knd c (.str z) "str"
  | lst {a : Addr} (h : PySem.W.KitAt a "list" c.hd) : Knd c (.ref a) "list"
  | tup {a : Addr} (h : PySem.W.KitAt a "tuple" c.hd) : Knd c (.ref a) "tuple"
  | dic {a : Addr} (h : PySem.W.KitAt a "dict" c.hd) : Knd c (.ref a) "dict"
theorem kitAt_up {a : Addr} {T : String} {h g : Heap} (k : Up h g) (x : PySem.W.KitAt a T h) : PySem.W.KitAt a T g :=
  let ⟨o, e, q⟩ := x; ⟨o, k _ _ e, q⟩
theorem qc_isi {c : Qc} {x : V} {T C : String} {b : Bool} (O : c.Ok) (ky : Knd c x T) (e : PySem.W.kitOne c.K (.type T) (.type C) = some b) : QC c "isinstance" [x, .ty C] (.bl b) := by
  intro A E Q us s up r h
  cases r with
  | @cons _ u1 _ _ r1 r' =>
    cases r' with
    | @cons _ u2 _ _ r2 r'' =>
      cases r''
      obtain rfl : u2 = Value.type C := r2
      have fin : ∀ tk, Q (.bool b) { s with toks := tk } := fun tk => h _ s.heap tk rfl Up.rfl'
      have kin := O.kin.keeps up
      cases ky with
      | non => cases r1; exact PySem.W.kia_one PySem.W.kitx_none kin trivial e (fun z => by cases z) fin
      | bl y => cases r1; exact PySem.W.kia_one PySem.W.kitx_bool kin trivial e (fun z => by cases z) fin
      | int i => obtain ⟨t, rfl⟩ := r1; exact PySem.W.kia_one PySem.W.kitx_int kin trivial e (fun z => by cases z) fin
      | str z => obtain ⟨t, rfl⟩ := r1; exact PySem.W.kia_one PySem.W.kitx_str kin trivial e (fun z => by cases z) fin
      | lst p => cases r1; exact PySem.W.kia_one PySem.W.kitx_list kin (kitAt_up up p) e (fun z => by cases z) fin
      | tup p => cases r1; exact PySem.W.kia_one PySem.W.kitx_tuple kin (kitAt_up up p) e (fun z => by cases z) fin
      | dic p => cases r1; exact PySem.W.kia_one PySem.W.kitx_dict kin (kitAt_up up p) e (fun z => by cases z) fin
/-- a tuple that is read -/
def TupQ (c : Qc) (a : Addr) (xs : List V) : Prop := ∃ its : List Value, Vals xs its ∧ IsTup c.hd a its.toArray ∧ xs.length ≤ sizeLine
theorem TupQ.kit {c : Qc} {a : Addr} {xs : List V} (t : TupQ c a xs) : Knd c (.ref a) "tuple" := by
  obtain ⟨its, _, ⟨o, e, q, _⟩, _⟩ := t
  exact .tup ⟨o, e, q⟩
theorem isTup_up {h g : Heap} {a : Addr} {vs : Array Value} (k : Up h g) (t : IsTup h a vs) : IsTup g a vs :=
  let ⟨o, e, q⟩ := t; ⟨o, k _ _ e, q⟩
theorem qc_lenT {c : Qc} {a : Addr} {xs : List V} (t : TupQ c a xs) : QC c "len" [.ref a] (.int xs.length) := by
  intro A E Q us s up r h
  obtain ⟨its, rv, ht, hz⟩ := t
  cases r with
  | @cons _ u1 _ _ r1 r' =>
    cases r'
    obtain rfl : u1 = Value.ref a := r1
    have hl := rv.length
    have h63 := line63
    refine PyProof.Rows.len_tuple (isTup_up up ht) (by simp only [List.size_toArray]; omega) ?_
    exact h _ s.heap _ ⟨_, by rw [List.size_toArray, hl]⟩ Up.rfl'
/-! ### a, b = t -/
theorem qb_two {c : Qc} {k : Nat} {env : Env} {N : Nm} {x y : Str} {a : Addr} {v1 v2 v : V} {e : Expr} {rest : List Stmt} {pos p1 p2 p3 : Pos} {kt : Nat} (he : QE c k env N e (.ref a)) (ht : TupQ c a [v1, v2]) (hx : env.kindOf x = some .local) (hy : env.kindOf y = some .local)
    (hN : ∀ z, N.lookup z ≠ none → env.kindOf z = some .local) (hb : QB c k env ((y, v2) :: (x, v1) :: N) rest v)
    (hs : swapsWithSole [.Tuple [.Name x p1, .Name y p2] kt p3] e pos.line env = pure false := by rfl) (hw : swappedStores [.Tuple [.Name x p1, .Name y p2] kt p3] e env = pure none := by rfl)
    (h1 : (assignEach [.Tuple [.Name x p1, .Name y p2] kt p3] env).map (·.2) = [assign (.Tuple [.Name x p1, .Name y p2] kt p3) env] := by rfl)
    (h2 : (assignEach [.Name x p1, .Name y p2] env).map (·.2) = [assign (.Name x p1) env, assign (.Name y p2) env] := by rfl)
    (hn : (assignEach [.Name x p1, .Name y p2] env).length = 2 := by rfl) (hst : (assignEach [.Name x p1, .Name y p2] env).findIdx? (·.1) = none := by rfl) :
    QB c k env N (.Assign [.Tuple [.Name x p1, .Name y p2] kt p3] e pos :: rest) v := by
  intro A E Q s r i hL h
  obtain ⟨its, rv, ht, hz⟩ := ht
  obtain ⟨w1, w2, rfl, r1, r2⟩ := vals2 rv
  have hpl : (env.scope.kind == .class || (env.scope.kind == .module && env.locals != env.globals)) = false := by rw [i.kd]; rfl
  refine wpAny_execs_cons (wpAny_Assign_stores (he A E _ s r i fun u g tk ru up => ?_) hs hw)
  obtain rfl : u = Value.ref a := ru
  have i1 := i.more up
  rw [h1]
  show wpAny _ A (assign (.Tuple [.Name x p1, .Name y p2] kt p3) env (.ref a)) _ _ _
  refine assign_Tuple_tuple r.hd (isTup_up i1.up ht) (by rw [hn]; rfl) hst fun g1 hx1 => ?_
  rw [h2]
  have up1 : Up g g1 := fun b o q => hx1 b o (Nat.ne_of_lt (Heap.lt_size q)) q
  have i2 := i1.more up1
  obtain ⟨m, n, q⟩ := i2.nm
  refine assignInOrder_cons (wpAny_assign_Name (wpAny_storeName_local hx n (fun g2 n2 sb2 => ?_) hpl))
  refine assignInOrder_cons (wpAny_assign_Name (wpAny_storeName_local hy n2 (fun g3 n3 sb3 => assignInOrder_nil ?_) hpl))
  have k13 : ∀ b o, b ≠ env.locals → g1.get? b = some o → g3.get? b = some o := fun b o nb q => sb3.extBut b o nb (sb2.extBut b o nb q)
  have nL : ∀ b o, c.hd.get? b = some o → b ≠ env.locals := fun b o q z => by
    rw [z, hL] at q
    cases q
  have i3 : At c env ((y, v2) :: (x, v1) :: N) g3 := by
    refine ⟨fun b o q => k13 b o (nL b o q) (i2.up b o q), i.kd, i.gl, i.bl, _, n3, fun z vz hz2 => ?_⟩
    by_cases ez : z = y
    · subst ez
      have e2 : v2 = vz := by simpa [List.lookup] using hz2
      exact ⟨w2, e2 ▸ r2, .inl ⟨hy, if_pos rfl⟩⟩
    · have ez' : (z == y) = false := by simpa using ez
      by_cases ex : z = x
      · subst ex
        have e2 : v1 = vz := by simpa [List.lookup, ez'] using hz2
        exact ⟨w1, e2 ▸ r1, .inl ⟨hx, by show (if z = y then _ else (if z = z then _ else _)) = _; rw [if_neg ez, if_pos rfl]⟩⟩
      · have ex' : (z == x) = false := by simpa using ex
        have e2 : N.lookup z = some vz := by simpa [List.lookup, ez', ex'] using hz2
        obtain ⟨u, ru, l⟩ := q z vz e2
        refine ⟨u, ru, .inl ?_⟩
        rcases l with ⟨l1, l2⟩ | ⟨l1, _⟩
        · exact ⟨l1, by show (if z = y then _ else (if z = x then _ else m z)) = _; rw [if_neg ez, if_neg ex]; exact l2⟩
        · have l3 := hN z (by rw [e2]; simp)
          rw [l3] at l1
          rcases l1 with l1 | l1 <;> cases l1
  refine hb A E Q _ r i3 hL fun u g4 tk4 ru k4 => ?_
  exact h u g4 tk4 ru fun b o nb q => k4 b o nb (k13 b o nb (up1 b o (up b o q)))

/-! ### a def entered -/
theorem zip_look {α : Type} {x : Str} {v : α} : ∀ {ps : List Str} {vs : List α}, (ps.zip vs).lookup x = some v → ∃ i : Nat, ps[i]? = some x ∧ vs[i]? = some v
  | [], _, h => by simp [List.lookup] at h
  | _ :: _, [], h => by simp [List.lookup] at h
  | p :: ps, w :: vs, h => by
    by_cases e : x = p
    · subst e
      refine ⟨0, rfl, ?_⟩
      simpa [List.lookup] using h
    · have e' : (x == p) = false := by simpa using e
      have h2 : (ps.zip vs).lookup x = some v := by simpa [List.lookup, e'] using h
      obtain ⟨i, h3, h4⟩ := zip_look h2
      exact ⟨i + 1, h3, h4⟩
theorem q_fun {c : Qc} {k : Nat} {x qual : Str} {st : Stmt} {f : Addr} {fd : FuncData} {N0 ps : List Str} {vs : List V} {v : V} (O : c.Ok) (F : Fun c.K x qual st f fd) (S : FnScope N0 ps (defScope st))
    (loc : ∀ p ∈ ps, (defScope st).names.lookup p = some .local) (hl : vs.length = ps.length) (body : ∀ (L : Addr) (cdv : Value), QB c k (envOfC qual (defScope st) L f cdv) (ps.zip vs) (defBody st) v) : QF c (k + 1) f fd ps vs v := by
  intro A R args us s r up bt rv h
  obtain ⟨oc, od, kV, doc, pm, an, cdv, ct, osl, e, lk, hcd⟩ := F.ex
  have kin := O.kin.keeps up
  have ndP : ps.Nodup := by rw [← S.pre]; exact S.nd.sublist (List.take_sublist _ _)
  rw [e] at bt lk
  refine Att.call_fn (binds := ps.zip us) kin (O.lim.keeps up) lk hcd (by have := r.dp; omega) bt ?_ (fun s1 IC => ?_) S.co S.gen S.kind
  · rw [List.all_eq_true]
    intro y hy
    have q := loc y.1 (List.of_mem_zip hy).1
    rw [q]
    rfl
  · obtain ⟨g, tk, rfl, hk⟩ := IC.done
    have hL : c.hd.get? s.heap.objs.size = none := up_lt up (Nat.le_refl _)
    have i : At c (envOfC qual (defScope st) s.heap.objs.size f cdv) (ps.zip vs) g := by
      refine ⟨up.tr hk, S.kind, rfl, rfl, _, IC.toInCall.ns, fun z vz hz => ?_⟩
      obtain ⟨j, h3, h4⟩ := zip_look hz
      obtain ⟨u, h5, h6⟩ := rv.get h4
      have kz := loc z (List.mem_of_getElem? h3)
      exact ⟨u, h6, .inl ⟨kz, bindL_get ndP h3 h5 kz⟩⟩
    refine body s.heap.objs.size cdv _ _ _ _ (r.deeper _) i hL fun u g2 tk2 ru k2 => ?_
    refine h u g2 tk2 ru fun b o q => k2 b o (Nat.ne_of_lt (Heap.lt_size q)) (hk b o q)
/-- a quiet def, called as any other -/
theorem fn_ofQ {P : Program} {w : World} {K : PySem.W.Frag} {mg : Str → Option Value} {base : Heap} {CX : CXT} {k : Nat} {f : Addr} {fd : FuncData} {ps : List Str} {sp : Sp} (len : ∀ vs H Q E, sp vs H Q E → vs.length = ps.length)
    (h : ∀ vs H Q E, sp vs H Q E → ∃ v, Q v H ∧ ∀ hd, (Qc.mk P w K mg H hd).Ok → QF ⟨P, w, K, mg, H, hd⟩ (3 * k) f fd ps vs v) : FnOk P w K mg base CX k f fd ps sp := by
  refine ⟨len, fun A outer s H args us vs Q E rm e0 bt rv hs => ?_⟩
  obtain ⟨v, q, hQ⟩ := h vs H Q E hs
  have up0 : ∀ b o, base.get? b = some o → s.heap.get? b = some o := fun b o e => (e0.bs b o e).1
  have OK : (Qc.mk P w K mg H s.heap).Ok := ⟨e0.mod.kin.keeps up0, e0.mod.glob.keeps up0, let ⟨mb, q1, q2⟩ := e0.mod.blt; ⟨mb, q1.keeps up0, q2⟩, e0.mod.nolimit.keeps up0, e0.hok⟩
  have hd := rm.dp
  refine hQ s.heap OK A _ args us s ⟨rm.hd, by omega⟩ Up.rfl' bt rv fun u g tk ru up => ?_
  exact ⟨v, H, rfl, e0.bare, Un.kept up, e0.hok.kept up, ru, q⟩
end Qt

namespace Qt
open PySem PySem.Spec PyProof.Rows L2

/-- what is held, the tables of code left out -/
def wipe (H : Hp) (P : Addr) : Hp := fun a => if a = P then none else H a
theorem wipe_of {H : Hp} {P a : Addr} {o : HO} (h : wipe H P a = some o) : a ≠ P ∧ H a = some o := by
  unfold wipe at h
  by_cases e : a = P
  · rw [if_pos e] at h
    cases h
  · rw [if_neg e] at h
    exact ⟨e, h⟩
theorem wipe_at {H : Hp} {P a : Addr} {o : HO} (e : a ≠ P) (h : H a = some o) : wipe H P a = some o := by
  unfold wipe
  rw [if_neg e]
  exact h
/-- a thing that a generator goes over: a tuple or a list, of the values its -/
structure Src (pr : Program) (w : World) (h1 : Heap) (ad : Addr) (its : Array Value) (o : Obj) (St : Addr → Nat → Heap → Prop) : Prop where
  lt : ad < h1.objs.size
  iter : ∀ (A : Around) (E Q : Value → Shared → Prop) (s : Shared), s.heap = h1 → Q (.ref h1.objs.size) { s with heap := h1.push o } → wpAny (model pr w) A (pyIter (.ref ad)) Q E s
  walks : ∀ (A : Around) (I : Addr), A.handled = none → ad ≠ I → Walks pr w A I [I, ad] [I] its.size (fun i v => its[i]? = some v) (St I)
  st0 : ∀ g : Heap, (∀ b u, (b = ad ∨ b = h1.objs.size) → (h1.push o).get? b = some u → g.get? b = some u) → St h1.objs.size 0 g
theorem src_list {pr : Program} {w : World} {h1 : Heap} {ad : Addr} {its : Array Value} (hl : h1.IsList ad its) :
    Src pr w h1 ad its { cls := .type "list_iterator", data := .fields #[.ref ad, .int 0 0] } (fun I i h => h.IsListIter I ad i ∧ h.IsList ad its) where
  lt := by
    obtain ⟨_, e, _⟩ := id hl
    exact Heap.lt_size e
  iter := fun A E Q s es h => by
    subst es
    exact wpAny_pyIter_list hl h
  walks := fun A I hh ne => Walks.list hh I ad ne its
  st0 := fun g k => ⟨⟨_, k _ _ (.inr rfl) (Heap.get?_push_size _ rfl), rfl, rfl⟩, by
    obtain ⟨ob, e, r⟩ := id hl
    exact ⟨ob, k _ _ (.inl rfl) (Heap.get?_push_of_some _ e), r⟩⟩
theorem src_tup {pr : Program} {w : World} {h1 : Heap} {ad : Addr} {its : Array Value} (hl : IsTup h1 ad its) :
    Src pr w h1 ad its { cls := .type "tuple_iterator", data := .fields #[.ref ad, .int 0 0] } (fun I i h => h.IsTupleIter I ad i ∧ h.IsTuple ad its) where
  lt := by
    obtain ⟨_, e, _⟩ := id hl
    exact Heap.lt_size e
  iter := fun A E Q s es h => by
    subst es
    exact wpAny_pyIter_tuple hl h
  walks := fun A I hh ne => Walks.tuple hh I ad ne its
  st0 := fun g k => ⟨⟨_, k _ _ (.inr rfl) (Heap.get?_push_size _ rfl), rfl, rfl⟩, by
    obtain ⟨ob, e, r⟩ := id hl
    exact ⟨ob, k _ _ (.inl rfl) (Heap.get?_push_of_some _ e), r⟩⟩

section
variable {X : Cx} {pins : List (Addr × Obj)} {σ : L2.St} {H : Hp} {s : Shared}
theorem seq_src (I : Inv X pins σ H s) {ad : Addr} {xs : List V} (h : SqT X.K H ad xs ∨ SqL X.K H ad xs) :
    ∃ (its : List Value) (o : Obj) (St : Addr → Nat → Heap → Prop), Vals xs its ∧ Src X.prog X.w s.heap ad its.toArray o St ∧ (∀ ps, o.data ≠ .fields ps ∨ o.cls ≠ .none) := by
  rcases h with h | h
  · obtain ⟨its, rv, ht, _⟩ := I.tuple h
    exact ⟨its, _, _, rv, src_tup ht, fun ps => .inr fun z => by cases z⟩
  · obtain ⟨its, rv, hl, _⟩ := I.list h
    exact ⟨its, _, _, rv, src_list hl.isList, fun ps => .inr fun z => by cases z⟩

/-- what the element of a generator expression is, for the item xv: a truth -/
def Elt (X : Cx) (kk : Nat) (scope : Scope) (x : Str) (elt : Expr) (caps : Nm) (Hw : Hp) (xs : List V) (bs : List Bool) : Prop :=
  bs.length = xs.length ∧ ∀ (hd : Heap) (env : Env), (Qc.mk X.prog X.w X.K X.mg Hw hd).Ok → env.scope = scope → ∀ (j : Nat) (xv : V) (b : Bool), xs[j]? = some xv → bs[j]? = some b → QE ⟨X.prog, X.w, X.K, X.mg, Hw, hd⟩ kk env ((x, xv) :: caps) elt (.bl b)
/-- the captured names' values -/
def Caps (X : Cx) (scope : Scope) (x : Str) (σ : L2.St) (caps : Nm) : Prop := ∀ y v, caps.lookup y = some v → y ≠ x ∧ (y, NameKind.free) ∈ scope.names ∧ scope.names.lookup y = some .free ∧ ∃ i : Nat, X.N[i]? = some y ∧ σ[i]? = some (some v) ∧ X.env.scope.names.lookup y = some .cell

/-- the truth at place j -/
def trB (bs : List Bool) (j : Nat) : Bool := bs.getD j false
theorem trB_some {bs : List Bool} {j : Nat} {b : Bool} (h : bs[j]? = some b) : trB bs j = b := by
  unfold trB
  rw [List.getD_eq_getElem?_getD, h]
  rfl
theorem trB_all (bs : List Bool) : (List.range bs.length).all (trB bs) = bs.all id := by
  rw [Bool.eq_iff_iff, List.all_eq_true, List.all_eq_true]
  refine ⟨fun h b hb => ?_, fun h j hj => ?_⟩
  · obtain ⟨j, hj, e⟩ := List.getElem_of_mem hb
    have q := h j (List.mem_range.mpr hj)
    rwa [trB_some (List.getElem?_eq_getElem hj), e] at q
  · have hj' := List.mem_range.mp hj
    rw [trB_some (List.getElem?_eq_getElem hj')]
    exact h _ (List.getElem_mem hj')
theorem trB_any (bs : List Bool) : (List.range bs.length).any (trB bs) = bs.any id := by
  rw [Bool.eq_iff_iff, List.any_eq_true, List.any_eq_true]
  refine ⟨fun ⟨j, hj, h⟩ => ?_, fun ⟨b, hb, h⟩ => ?_⟩
  · have hj' := List.mem_range.mp hj
    rw [trB_some (List.getElem?_eq_getElem hj')] at h
    exact ⟨_, List.getElem_mem hj', h⟩
  · obtain ⟨j, hj, e⟩ := List.getElem_of_mem hb
    exact ⟨j, List.mem_range.mpr hj, by rw [trB_some (List.getElem?_eq_getElem hj), e]; exact h⟩

/-- the generator g is made, to be gone through -/
def Made (X : Cx) (pins : List (Addr × Obj)) (σ : L2.St) (H1 : Hp) (P : Addr) (xs : List V) (bs : List Bool) (g : Addr) (s5 : Shared) : Prop :=
  ∃ (fp wr : List Addr) (G : Array GenState → Array GenState → Prop) (F : Nat → Value → Prop) (St : Nat → Shared → Prop),
    WalksS X.prog X.w X.A.in1 g fp wr G bs.length F St ∧ St 0 s5 ∧ TruthOf X.prog X.w X.A.in1 F (trB bs) ∧ ∀ s', Moved wr G s5 s' → ∃ H2, GxR.Tabbed P H1 H2 ∧ Inv X pins σ H2 s'

theorem gen_made {c P : Addr} {elt iter : Expr} {x : Str} {px gpos : Pos} {scope : Scope} {te : TE} {k : Nat} {Z : Value → Shared → Prop} {R : List V → List Bool → Hp → Prop}
    (rm : Room (k + 2) X.A) (TB : GxR.TabB X.base X.mg c P) (hcode : X.env.code = .ref c) (GS : GxR.GenS X.env scope x) (hi : PE X iter te)
    (hs : ∀ v, genFold iter X.env v = pure v) (I : Inv X pins σ H s)
    (h : te σ H fun v H1 => ∃ (ad : Addr) (xs : List V) (bs : List Bool) (caps : Nm), v = .ref ad ∧ (SqT X.K H1 ad xs ∨ SqL X.K H1 ad xs) ∧ GxR.TabG H1 P ∧ Caps X scope x σ caps ∧ Elt X (3 * k) scope x elt caps (wipe H1 P) xs bs ∧ R xs bs H1)
    (hZ : ∀ xs bs H1 g s5, R xs bs H1 → Made X pins σ H1 P xs bs g s5 → Z (.ref g) s5) :
    wpAny (model X.prog X.w) X.A (eval (.GeneratorExp elt [⟨.Name x px, iter, [], 0⟩] scope gpos) X.env) Z X.xe s := by
  have hdp := rm.dp
  refine wpAny_GeneratorExp_walksQD rm.hd GS.co (closure_ok GS.free) GS.cell GS.dot GS.loc GS.kind rm.depth ?_ hs
  refine thn (hi.run pins s σ H _ I h) fun xv s1 hx => ?_
  obtain ⟨v, H1, I1, r1, ad, xs, bs, caps, ev, hsq, ⟨ps, hP, htr⟩, hcap, hel, hR⟩ := hx
  subst ev
  obtain rfl : xv = Value.ref ad := r1
  obtain ⟨its, o, St, rv, S, hno⟩ := seq_src I1 hsq
  have hlen : its.length = xs.length := rv.length.symm
  have hPs : s1.heap.get? P = some { cls := .none, data := .fields ps } := I1.hok P _ hP
  have hPlt : P < s1.heap.objs.size := Heap.lt_size hPs
  have adP : ad ≠ P := by
    rintro rfl
    rcases hsq with hq | hq
    · obtain ⟨_, _, ⟨ob, e, ec, _⟩, _⟩ := I1.tuple hq
      rw [hPs] at e
      cases e
      cases ec
    · obtain ⟨_, _, hl, _⟩ := I1.list hq
      obtain ⟨ob, _, e, ec, _⟩ := id hl
      rw [hPs] at e
      cases e
      cases ec
  refine S.iter _ _ _ _ rfl ?_
  have push_ok : ∀ b u, s1.heap.get? b = some u → (s1.heap.push o).get? b = some u := fun b u e => Heap.get?_push_of_some _ e
  have hPo := push_ok P _ hPs
  have lim2 : (s1.heap.push o).NoLimit := I1.nolimit.push o
  have cd : PySem.W.CodeHd (s1.heap.push o) c P := TB.code.keeps fun b u e => push_ok b u (I1.bk b u e)
  have go : ∀ (code : Value) (h3 : Heap) (tk : Nat) (ps' : Array Value), Heap.ExtBut P (s1.heap.push o) h3 → (s1.heap.push o).objs.size ≤ h3.objs.size → h3.get? P = some { cls := .none, data := .fields ps' } → (∃ more, ps' = ps ++ more) → TriplesOk ps'.toList →
      wpAny (model X.prog X.w) X.A (builtinsFor X.env.globals X.env.builtins) (fun bi s₄ =>
        ∃ Ia fp wr n₀ Pf St₀ pz F, Value.ref s1.heap.objs.size = .ref Ia ∧ (∀ A' : Around, A'.handled = none → Walks X.prog X.w A' Ia fp wr n₀ Pf St₀) ∧ St₀ 0 s₄.heap ∧ (∀ b ∈ fp, b < s₄.heap.objs.size) ∧ s₄.heap.NoLimit ∧ cStatics ∉ wr ∧
          (∀ hr : Heap, (∀ b u, s₄.heap.get? b = some u → hr.get? b = some u) →
            QuietGenD X.prog X.w (genEnv scope (cloFrom X.env.cells scope.names []) s₄.heap.objs.size code bi X.env) x [] elt (List.range s₄.heap.objs.size) wr Pf pz F hr (X.A.depth + 1) (X.A.units + 8)) ∧
          (∀ a h₅ tk gs, gs.bare = true → s₄.heap.objs.size < a → h₅.objs.size = a + 1 → (∀ b u, s₄.heap.get? b = some u → h₅.get? b = some u) →
            WalksS X.prog X.w X.A.in4 a (a :: s₄.heap.objs.size :: List.range s₄.heap.objs.size) (s₄.heap.objs.size :: wr) (GenOnlyQ s₄.gens.size) (passing pz n₀ 0).length
              (fun j y => ∃ i, (passing pz n₀ 0)[j]? = some i ∧ F i y) (GenAt X.prog X.w X.A.in4 a s₄.gens.size s₄.heap.objs.size (List.range s₄.heap.objs.size) wr pz n₀ F) →
            GenAt X.prog X.w X.A.in4 a s₄.gens.size s₄.heap.objs.size (List.range s₄.heap.objs.size) wr pz n₀ F 0 { s₄ with gens := s₄.gens.push gs, toks := tk, heap := h₅ } →
            Z (.ref a) { s₄ with gens := s₄.gens.push gs, toks := tk, heap := h₅ })) X.xe { s1 with heap := h3, toks := tk } := by
    intro code h3 tk ps' hx hsz hP3 hmore ht3
    obtain ⟨bm, ob, e1, e2, e3, e4, e5, e6, e7, e8⟩ := TB.bm
    have szo : (s1.heap.push o).objs.size = s1.heap.objs.size + 1 := Heap.size_push ..
    have k3 : ∀ b u, b ≠ P → s1.heap.get? b = some u → h3.get? b = some u := fun b u hb e => hx b u hb (push_ok b u e)
    have hcP : cStatics ≠ P := by
      rintro rfl
      obtain ⟨_, hns, _⟩ := I1.nolimit
      obtain ⟨o', es, ep, ho, hd, _⟩ := hns
      rw [hPs] at ho
      cases ho
      cases hd
    have hcl : cStatics < s1.heap.objs.size := let ⟨_, hns, _⟩ := I1.nolimit; hns.lt
    refine wpAny_builtinsFor (m := X.mg) (by rw [I1.ok.glob]; exact ((I1.mod.glob.keeps I1.bk).push o).extBut hx TB.gP) e1 e2 (k3 _ _ e4 (I1.bk _ _ e5)) e6 e7 e8 ?_
    have hi3 : s1.heap.objs.size < h3.objs.size := by omega
    refine ⟨s1.heap.objs.size, [s1.heap.objs.size, ad], [s1.heap.objs.size], its.toArray.size, (fun i v => its.toArray[i]? = some v), St s1.heap.objs.size, (fun _ => true), (fun i y => ∃ b, bs[i]? = some b ∧ y = .bool b), rfl,
      fun A' hA => S.walks A' _ hA (Nat.ne_of_lt S.lt), ?_, ?_, lim2.extBut hx hcP, ?_, ?_, ?_⟩
    · refine S.st0 h3 fun b u hb e => hx b u (fun z => ?_) e
      rcases hb with hb | hb
      · exact adP (hb.symm.trans z)
      · exact Nat.ne_of_gt hPlt (hb.symm.trans z)
    · intro b hb
      simp only [List.mem_cons, List.not_mem_nil, or_false] at hb
      rcases hb with hb | hb
      · rw [hb]; exact hi3
      · rw [hb]; exact Nat.lt_trans S.lt hi3
    · intro z
      simp only [List.mem_cons, List.not_mem_nil, or_false] at z
      exact Nat.ne_of_lt hcl z
    · intro hr hhr
      obtain ⟨hd, g1, g2⟩ := restrict h3 fun b => decide (b ≠ s1.heap.objs.size)
      have old : ∀ b u, b ≠ P → s1.heap.get? b = some u → hd.get? b = some u := fun b u nb e => by
        rw [g1 b (decide_eq_true (Nat.ne_of_lt (Heap.lt_size e)))]
        exact k3 b u nb e
      have up3 : Up hd h3 := fun b u e => by
        by_cases hb : b = s1.heap.objs.size
        · rw [g2 b (by simp [hb])] at e
          cases e
        · rw [g1 b (decide_eq_true hb)] at e
          exact e
      have bP : ∀ b u, X.base.get? b = some u → b ≠ P := fun b u e z => by
        have q := (I1.bs b u e).2
        rw [z, hP] at q
        cases q
      have bup : ∀ b u, X.base.get? b = some u → hd.get? b = some u := fun b u e => old b u (bP b u e) (I1.bk b u e)
      have OK : (Qc.mk X.prog X.w X.K X.mg (wipe H1 P) hd).Ok := by
        obtain ⟨mb, q1, q2⟩ := I1.mod.blt
        refine ⟨I1.mod.kin.keeps bup, I1.mod.glob.keeps bup, ⟨mb, q1.keeps bup, q2⟩, I1.mod.nolimit.keeps bup, fun a u e => ?_⟩
        obtain ⟨na, e⟩ := wipe_of e
        have noP : ∀ b, H1 b = some (.own a) → b ≠ P := fun b q z => by
          rw [z, hP] at q
          cases q
        refine (I1.hok a u e).stay (fun b u' hb q => old b u' ?_ q) (fun b q => wipe_at (noP b q) q) (fun b ys q => wipe_at (fun z => ?_) q)
        · rcases hb with hb | hb
          · rw [hb]; exact na
          · exact noP b hb
        · rw [z, hP] at q
          cases q
      have seen : ∀ s₂ : Shared, (∀ b ∈ List.range h3.objs.size, b ∉ [s1.heap.objs.size] → ∀ u, hr.get? b = some u → s₂.heap.get? b = some u) → Up hd s₂.heap := fun s₂ hk b u e => by
        have h3e := up3 b u e
        refine hk b (List.mem_range.mpr (Heap.lt_size h3e)) (fun z => ?_) u (hhr b u h3e)
        have hb : b = s1.heap.objs.size := by simpa using z
        rw [g2 b (by simp [hb])] at e
        cases e
      refine ⟨fun A' E' i v s₂ m₂ hA _ _ hPv hn hm hk => ?_, fun A' E' i v s₂ m₂ hA hAd _ hPv hp hn hm hk => ?_⟩
      · simp only [List.forIn_nil]
        exact wpAny_pure ⟨rfl, GxR.keeps_refl _⟩
      · have hv2 : its[i]? = some v := by simpa using hPv
        have hix : i < xs.length := by rw [← hlen]; exact (List.getElem?_eq_some_iff.mp hv2).1
        obtain ⟨xv, hxv⟩ : ∃ xv, xs[i]? = some xv := ⟨xs[i], List.getElem?_eq_getElem hix⟩
        obtain ⟨u, hu, ru⟩ := rv.get hxv
        rw [hv2] at hu
        cases hu
        have at2 : At ⟨X.prog, X.w, X.K, X.mg, wipe H1 P, hd⟩ (genEnv scope (cloFrom X.env.cells scope.names []) h3.objs.size code builtinsNs X.env) ((x, xv) :: caps) s₂.heap := by
          have upS := seen s₂ hk
          refine ⟨upS, GS.kind, I1.ok.glob, rfl, m₂, hn, fun y vy hy => ?_⟩
          by_cases ey : y = x
          · subst ey
            have e9 : xv = vy := by simpa [List.lookup] using hy
            exact ⟨v, e9 ▸ ru, .inl ⟨GS.loc, hm⟩⟩
          · have ey' : (y == x) = false := by simpa using ey
            have hy2 : caps.lookup y = some vy := by simpa [List.lookup, ey'] using hy
            obtain ⟨_, hmem, hfr, j, hj, hσ, hcl2⟩ := hcap y vy hy2
            obtain ⟨m1, hn1, hloc⟩ := I1.loc
            obtain ⟨u9, r9, l9⟩ := hloc j y vy hj hσ (.inr (.inl hcl2))
            refine ⟨u9, r9, .inr ⟨.inr hfr, ?_⟩⟩
            rcases l9 with ⟨l9, _⟩ | ⟨_, ca, hca, hic⟩
            · have l8 : X.env.scope.names.lookup y = some .local := l9
              rw [hcl2] at l8
              cases l8
            · refine ⟨ca, NdefX.clo_has GS.free hmem hca, ?_⟩
              obtain ⟨oc, ec, rc⟩ := hic
              have nP : ca ≠ P := fun z => by
                have q := I1.freeC y ca hca
                rw [z, hP] at q
                cases q
              exact ⟨oc, upS _ _ (old _ _ nP ec), rc⟩
        obtain ⟨b, hb⟩ : ∃ b, bs[i]? = some b := ⟨bs[i]'(by rw [hel.1]; exact hix), List.getElem?_eq_getElem _⟩
        refine hel.2 hd _ OK rfl i xv b hxv hb A' E' _ s₂ ⟨hA, by omega⟩ at2 fun u9 g9 tk9 r9 up9 => ?_
        exact ⟨⟨b, hb, r9⟩, g9, tk9, rfl, up9⟩
    · intro g h5 tk5 gs hgb hag hsz5 hk5 W5 hgat
      simp only [GxR.passing_true, List.length_range] at W5
      have hn5 : its.toArray.size = bs.length := by rw [List.size_toArray, hlen, hel.1]
      rw [hn5] at W5 hgat
      refine hZ xs bs H1 g _ hR ⟨_, _, _, _, _, W5.in4_1, hgat, ?_, fun s' hm => ?_⟩
      · intro j y sj Qj Ej hy hQj
        obtain ⟨i, hij, b, hxv, rfl⟩ := hy
        obtain ⟨hj, ej⟩ := List.getElem?_eq_some_iff.mp hij
        rw [List.getElem_range] at ej
        subst ej
        have hQ2 : Qj (trB bs j) sj := hQj
        rw [trB_some hxv] at hQ2
        exact wpAny_truthy_bool hQ2
      · obtain ⟨more, em⟩ := hmore
        have nwr : ∀ b u, s1.heap.get? b = some u → b ∉ h3.objs.size :: [s1.heap.objs.size] := fun b u e hb => by
          have hl := Heap.lt_size e
          simp only [List.mem_cons, List.not_mem_nil, or_false] at hb
          rcases hb with hb | hb
          · rw [hb] at hl
            exact absurd (Nat.lt_trans hl hi3) (Nat.lt_irrefl _)
          · rw [hb] at hl
            exact Nat.lt_irrefl _ hl
        have J := GxR.inv_tab (more := more) (h' := s'.heap) (g' := s'.gens) (d' := s'.drawn) (t' := s'.toks) I1 hP (fun b u hb e => hm.heap b u (nwr b u e) (hk5 b u (k3 b u hb e)))
          (by rw [← em]; exact hm.heap P _ (nwr P _ hPs) (hk5 P _ hP3)) (AllBare.movedS (I1.bare.push hgb) hm)
        rw [GxR.sh_eta s1 s' hm.os] at J
        exact ⟨upd H1 P (.tbl (ps ++ more)), ⟨⟨ps ++ more, upd_same, by rw [← em]; exact ht3⟩, fun b hb => upd_ne hb⟩, J⟩
  refine ⟨lim2, ?_⟩
  cases hf : codeAmong gpos ps.toList with
  | none =>
    refine wpAny_genexprCodeX hcode (cd.code hPo htr) (cd.tab hPo) hf fun c' h' tk hx hge hlt hco' _ htab' _ => ?_
    obtain ⟨_, _, _, _, _, _, _, _, _, _, _, _, _, _, _, _, _, _, _, htr', _⟩ := hco'
    exact go _ h' tk _ hx (Nat.le_trans hge (Nat.le_of_lt hlt)) htab'.2 ⟨_, rfl⟩ htr'
  | some cv =>
    refine wpAny_genexprCode_hit hcode (cd.code hPo htr) hf ?_
    exact go cv (s1.heap.push o) s1.toks ps (Heap.ExtBut.refl _ _) (Nat.le_refl _) hPo ⟨#[], by simp⟩ htr

/-- all(.. for x in e), e a tuple or a list, the element a quiet truth -/
def tAllQ (X : Cx) (P : Addr) (k : Nat) (scope : Scope) (x : Str) (elt : Expr) (te : TE) : TE := fun σ H Q => te σ H fun v H1 => ∃ (ad : Addr) (xs : List V) (bs : List Bool) (caps : Nm), v = .ref ad ∧ (SqT X.K H1 ad xs ∨ SqL X.K H1 ad xs) ∧
  GxR.TabG H1 P ∧ Caps X scope x σ caps ∧ Elt X (3 * k) scope x elt caps (wipe H1 P) xs bs ∧ ∀ H2, GxR.Tabbed P H1 H2 → Q (.bl (bs.all id)) H2
theorem pe_allQ {c P : Addr} {elt iter : Expr} {x : Str} {px p pos gpos : Pos} {scope : Scope} {te : TE} {k : Nat}
    (rm : Room (k + 2) X.A) (hg : Gl X "all") (hm : X.mg "all" = none) (TB : GxR.TabB X.base X.mg c P) (hcode : X.env.code = .ref c) (GS : GxR.GenS X.env scope x) (hi : PE X iter te)
    (hs : ∀ v, genFold iter X.env v = pure v) (hb : bootBuiltins "all" = some (.builtin "all") := by decide +kernel)
    (he : starEach [.GeneratorExp elt [⟨.Name x px, iter, [], 0⟩] scope gpos] X.env = (false, eval (.GeneratorExp elt [⟨.Name x px, iter, [], 0⟩] scope gpos) X.env) :: starEach [] X.env := by rfl) :
    PE X (.Call (.Name "all" p) [.GeneratorExp elt [⟨.Name x px, iter, [], 0⟩] scope gpos] [] pos) (tAllQ X P k scope x elt te) := by
  refine ⟨fun pins s σ H Q I h => ?_⟩
  refine wpAny_Call_Name_kw (ld_blt I hg hm hb (PyProof.Rows.callWith_builtin1 ?_ he (by rfl)))
  rw [he]
  show wpAny _ X.A (spliced ((false, eval (.GeneratorExp elt [⟨.Name x px, iter, [], 0⟩] scope gpos) X.env) :: backTo pos (starEach [] X.env))) _ X.xe s
  refine Calls.spliced_cons (gen_made (R := fun xs bs H1 => ∀ H2, GxR.Tabbed P H1 H2 → Q (.bl (bs.all id)) H2) rm TB hcode GS hi hs I h fun xs bs H1 g s5 hR hG => Calls.spliced_nil ?_)
  obtain ⟨fp, wr, G, F, St, W, hst, htr, hI⟩ := hG
  refine call_all_walkS (W.self 0 _ _ _ hst ⟨g, fp, wr, G, _, F, St, _, rfl, W, hst, htr, fun s' hmv => ?_⟩)
  obtain ⟨H2, hT, J⟩ := hI s' hmv
  exact ⟨.bl _, H2, J, rfl, by rw [trB_all bs]; exact hR H2 hT⟩
end
end Qt

namespace Em
open PySem PySem.Spec PyProof.Rows L2 Qt

/-! ### defs that may show things: nothing is being shown around them -/
structure FnG (P : Program) (w : World) (K : PySem.W.Frag) (mg : Str → Option Value) (base : Heap) (CX : CXT) (k : Nat) (f : Addr) (fd : FuncData) (ps : List Str) (sp : Sp) : Prop where
  len : ∀ vs H Q E, sp vs H Q E → vs.length = ps.length
  go : ∀ (A : Around) (outer : List Env) (s : Shared) (H : Hp) (args : Args) (us : List Value) (vs : List V) (Q : VK) (E : XK), A.guards = some [] → Room k A → Env0 P w K mg base A outer s H → BindsTo s fd args (ps.zip us) → Vals vs us → sp vs H Q E →
    codeAny (model P w) A (.call (.ref f) args) (CR CX outer P w H s Q E) s
section
variable {P : Program} {w : World} {K : PySem.W.Frag} {mg : Str → Option Value} {base : Heap} {CX : CXT} {k : Nat} {f : Addr} {fd : FuncData} {ps : List Str} {sp : Sp}
theorem FnG.of (F : FnOk P w K mg base CX k f fd ps sp) : FnG P w K mg base CX k f fd ps sp := ⟨F.len, fun A o s H a us vs Q E _ => F.run A o s H a us vs Q E⟩
theorem FnG.mono {j : Nat} (F : FnG P w K mg base CX j f fd ps sp) (h : j ≤ k) : FnG P w K mg base CX k f fd ps sp := ⟨F.len, fun A o s H a us vs Q E hg hr => F.go A o s H a us vs Q E hg (hr.mono h)⟩
/-- a def's body, nothing being shown around it -/
theorem okG {x qual : Str} {st : Stmt} {N : List Str} (F : Fun K x qual st f fd) (S : FnScope N ps (defScope st)) (len : ∀ vs H Q E, sp vs H Q E → vs.length = ps.length)
    (hbody : ∀ (cdv : Value) (A : Around) (outer : List Env) (s : Shared) (H : Hp) (vs : List V) (Q : VK) (E : XK), (A.deeper (envOfC qual (defScope st) s.heap.objs.size f cdv)).guards = some [] → Room k (A.deeper (envOfC qual (defScope st) s.heap.objs.size f cdv)) → sp vs H Q E →
      ∃ t, PSs (cxOf CX P w K mg base N qual (defScope st) f cdv A outer s H E) (defBody st) t ∧ t { nx := fun _ H' => Q .non H', rt := Q } (start N vs) H) : FnG P w K mg base CX (k + 1) f fd ps sp := by
  refine ⟨len, fun A outer s H args us vs Q E hg hr e0 hb rv hs => ?_⟩
  -- the same def, told of a promise that holds of this call alone
  obtain ⟨oc, od, kV, doc, pm, an, cdv, ct, osl, rfl, lk, hcd⟩ := F.ex
  have KX : K.In s.heap := e0.mod.kin.keeps fun b o e => (e0.bs b o e).1
  have LX : s.heap.NoLimit := e0.mod.nolimit.keeps fun b o e => (e0.bs b o e).1
  have hkind : ∀ y ∈ ps.zip us, (defScope st).names.lookup y.1 = some .local ∨ ((defScope st).names.lookup y.1 = some .cell ∧ ((cellsFrom (s.heap.objs.size + 1) (defScope st).names []).lookup y.1).isSome = true) := fun y hy => by
    rcases S.par y.1 (List.of_mem_zip hy).1 with q | q
    · exact .inl q
    · exact .inr ⟨q, PySem.W.cellsFrom_some _ _ _ (.inl q)⟩
  refine codeAny_call_function hr.depth (KX _ _ lk) rfl S.co S.gen rfl (PySem.W.codeRec_of KX hcd) (hb _ _ _ _ (wpAny_newFunctionEnv_cells S.kind hkind fun env he s1 x => ?_))
  subst he
  refine ⟨LX.keeps x.toInCall.keep, codeAny_func ?_⟩
  obtain ⟨t, ht, hq⟩ := hbody cdv A outer s H vs Q E hg (hr.deeper _) hs
  have I := inv_start (CX := CX) (E := E) S hr.hd e0 (len _ _ _ _ hs) rv x
  refine wpAny_mono (ht.run [] s1 (start N vs) H _ I hq) (fun fl s' z => ?_) fun e s' z => z
  cases fl with
  | ret u =>
    obtain ⟨v, σ', H', J, r1, q⟩ := z
    exact ⟨v, H', J.os, J.bare, J.base, J.hok, r1, q⟩
  | next =>
    obtain ⟨σ', H', J, q⟩ := z
    exact ⟨V.non, H', J.os, J.bare, J.base, J.hok, rfl, q⟩
  | brk =>
    obtain ⟨_, _, _, q⟩ := z
    exact q.elim
  | cont =>
    obtain ⟨_, _, _, q⟩ := z
    exact q.elim
theorem okG0 {x qual : Str} {st : Stmt} {N : List Str} (F : Fun K x qual st f fd) (S : FnScope N ps (defScope st)) (len : ∀ vs H Q E, sp vs H Q E → vs.length = ps.length)
    (hbody : ∀ (cdv : Value) (A : Around) (outer : List Env) (s : Shared) (H : Hp) (vs : List V) (Q : VK) (E : XK), (A.deeper (envOfC qual (defScope st) s.heap.objs.size f cdv)).guards = some [] → Room k (A.deeper (envOfC qual (defScope st) s.heap.objs.size f cdv)) → sp vs H Q E →
      ∃ t, PSs (cxOf CX0 P w K mg base N qual (defScope st) f cdv A outer s H E).nox (defBody st) t ∧ t { nx := fun _ H' => Q .non H', rt := Q } (start N vs) H) : FnG P w K mg base CX0 (k + 1) f fd ps sp :=
  okG F S len fun cdv A outer s H vs Q E hg hr hs => let ⟨t, h, q⟩ := hbody cdv A outer s H vs Q E hg hr hs; ⟨t, h.nox, q⟩
end
section
variable {X : Cx} {CX : CXT} {k : Nat} {f : Addr} {fd : FuncData} {ps ks : List Str} {sp : Sp} {dvs : List V} {ds : List Value} {E : XK} {x : Str} {p pos : Pos} {e : Expr} {es : List Expr} {kws : List Keyword} {t tk : TA}
  {g : List Value → List Value → List Value} {gV : List V → List V → List V}
theorem endG {pins : List (Addr × Obj)} {σ : L2.St} {H : Hp} {s : Shared} {Q : VK} {args : Args} (hx : Passes CX X E) (I : Inv X pins σ H s) (h : codeAny (model X.prog X.w) X.A (.call (.ref f) args) (CR CX X.stack X.prog X.w H s Q E) s) :
    codeAny (model X.prog X.w) X.A (.call (.ref f) args) (fun r s' => match r with
      | .ok (.ret u) => EP X pins σ Q u s'
      | .ok _ => False
      | .error e => X.xe e s') s :=
  codeAny_mono h fun r s' hq => by
    cases r with
    | error e => exact hx pins σ H s e s' I hq
    | ok fl => cases fl with
      | ret u => exact I.after hq
      | next => exact hq
      | brk => exact hq
      | cont => exact hq
theorem runG {pins : List (Addr × Obj)} {σ : L2.St} {H : Hp} {s : Shared} {Q : VK} {us : List Value} {vs : List V} (F : FnG X.prog X.w X.K X.mg X.base CX k f fd ps sp) (hG : X.A.guards = some []) (hr : Room k X.A) (hb : Binds X.K fd ps ds) (hd : Vals dvs ds) (hx : Passes CX X E)
    (I : Inv X pins σ H s) (r : Vals vs us) (h : sp (vs ++ dvs) H Q E) : wpAny (model X.prog X.w) X.A (call (.ref f) us) (EP X pins σ Q) X.xe s := by
  have r2 := r.append hd
  have hl : (us ++ ds).length = ps.length := r2.length.symm.trans (F.len _ _ _ _ h)
  refine wpAny_call (codeAny_mono (endG (Q := Q) hx I (F.go X.A X.stack s H ⟨us, []⟩ (us ++ ds) (vs ++ dvs) Q E hG hr I.env0 (hb s us I.kIn hl) r2 h)) fun r s' hq => ?_)
  cases r with
  | error e => exact hq
  | ok fl => cases fl with
    | ret u => exact hq
    | next => exact hq.elim
    | brk => exact hq.elim
    | cont => exact hq.elim
theorem pe_callG (F : FnG X.prog X.w X.K X.mg X.base CX k f fd ps sp) (hG : X.A.guards = some []) (hr : Room k X.A) (hg : Gl X x) (hm : X.mg x = some (.ref f)) (hk : PySem.W.keepIn X.K (.ref f) = true) (hb : Binds X.K fd ps ds) (hd : Vals dvs ds) (hx : Passes CX X E)
    (ha : PA X (e :: es) t) (hdb : (x == ("__debug__" : Str)) = false := by decide) (st : starEach (e :: es) X.env = (false, eval e X.env) :: starEach es X.env := by rfl) (pl : (backTo pos (starEach es X.env)).any (·.1) = false := by rfl) :
    PE X (.Call (.Name x p) (e :: es) [] pos) (tCall sp dvs E t) :=
  ⟨fun pins s σ H Q I h => wpAny_Call_Name_kw (ld_glob I hg hm (PySem.W.callWith_K (h₀ := X.base) I.ok.mod.kin hk (thn (ha.run pos pins s σ H _ I h) fun us s1 ⟨vs, H1, I1, r, q⟩ => ⟨I1.kIn, runG F hG hr hb hd hx I1 r q⟩) st pl) hdb)⟩
/-- f(k = v, ..), keywords alone; the promise is of the parameters in the def's order -/
theorem pe_kwG (F : FnG X.prog X.w X.K X.mg X.base CX k f fd ps sp) (hG : X.A.guards = some []) (hr : Room k X.A) (hg : Gl X x) (hm : X.mg x = some (.ref f)) (hk : PySem.W.keepIn X.K (.ref f) = true) (hb : KBinds X.K fd ps ks g gV) (hx : Passes CX X E)
    (hkw : PK X kws tk) (hall : (backToKw pos (keywordEach kws X.env)).all (·.1.isSome) = true := by rfl) (hks : (backToKw pos (keywordEach kws X.env)).filterMap (·.1) = ks := by rfl)
    (hdb : (x == ("__debug__" : Str)) = false := by decide) (pl : ((backTo pos (starEach [] X.env)).any (·.1) || (backToKw pos (keywordEach kws X.env)).any (·.1.isNone)) = false := by rfl) :
    PE X (.Call (.Name x p) [] kws pos) (tCallK sp gV E tNil tk) := by
  refine ⟨fun pins s σ H Q I h => wpAny_Call_Name_kw (ld_glob I hg hm ?_ hdb)⟩
  refine PySem.W.callWith_KW0 (h₀ := X.base) I.ok.mod.kin hk hall (thn (hkw.run pos pins s σ H _ I h) fun ws s1 ⟨zs, H1, I1, rz, q⟩ => ⟨I1.kIn, ?_⟩) pl
  rw [hks]
  have r2 := hb.rel .nil rz
  have hl : (g [] ws).length = ps.length := r2.length.symm.trans (F.len _ _ _ _ q)
  refine wpAny_call (codeAny_mono (endG (Q := Q) hx I1 (F.go X.A X.stack _ H1 ⟨[], ks.zip ws⟩ (g [] ws) (gV [] zs) Q E hG hr I1.env0 (hb.to _ [] ws I1.kIn hl) r2 q)) fun r s' hq => ?_)
  cases r with
  | error e => exact hq
  | ok fl => cases fl with
    | ret u => exact hq
    | next => exact hq.elim
    | brk => exact hq.elim
    | cont => exact hq.elim
end

/-! ### what a piece of code leaves as it was: all but the things in S; tables of code grow -/
structure Kp (S : List Addr) (H H' : Hp) : Prop where
  at_ : ∀ b o, b ∉ S → H b = some o → (∀ ps, o ≠ .tbl ps) → H' b = some o
  tab : ∀ b, GxR.TabG H b → GxR.TabG H' b
  tr_ : ∀ b, H b ≠ none → H' b ≠ none
theorem Kp.rfl' {S : List Addr} {H : Hp} : Kp S H H := ⟨fun _ _ _ h _ => h, fun _ h => h, fun _ h => h⟩
theorem Kp.tr {S : List Addr} {H H1 H2 : Hp} (a : Kp S H H1) (b : Kp S H1 H2) : Kp S H H2 := ⟨fun c o n h t => b.at_ c o n (a.at_ c o n h t) t, fun c h => b.tab c (a.tab c h), fun c h => b.tr_ c (a.tr_ c h)⟩
theorem Kp.wk {S S' : List Addr} {H H1 : Hp} (a : Kp S H H1) (h : ∀ x ∈ S, x ∈ S') : Kp S' H H1 := ⟨fun c o n q t => a.at_ c o (fun z => n (h c z)) q t, a.tab, a.tr_⟩
theorem Kp.of0 {S : List Addr} {H H1 : Hp} (a : Kp [] H H1) : Kp S H H1 := a.wk fun _ h => by cases h
theorem upd_tr {H : Hp} {p b : Addr} {o : HO} (h : H b ≠ none) : upd H p o b ≠ none := by
  by_cases e : b = p
  · rw [e, upd_same]; exact fun z => by cases z
  · rw [upd_ne e]; exact h
/-- a new thing -/
theorem Kp.new {S : List Addr} {H : Hp} {p : Addr} {o : HO} (n : H p = none) : Kp S H (upd H p o) :=
  ⟨fun b u _ h _ => by rw [upd_ne (ne_of_none h n)]; exact h, fun b ⟨ps, h, t⟩ => ⟨ps, by rw [upd_ne (ne_of_none h n)]; exact h, t⟩, fun b h => upd_tr h⟩
/-- a list (or another thing that is no table) of S is written -/
theorem Kp.put {S : List Addr} {H : Hp} {p : Addr} {o u : HO} (hp : p ∈ S) (h : H p = some u) (nt : ∀ ps, u ≠ .tbl ps) : Kp S H (upd H p o) :=
  ⟨fun b v n q _ => by rw [upd_ne (fun z => n (by rw [z]; exact hp))]; exact q, fun b ⟨ps, q, t⟩ => ⟨ps, by rw [upd_ne (fun z => by rw [z, h] at q; exact nt ps (Option.some.inj q))]; exact q, t⟩, fun b h => upd_tr h⟩
/-- a new thing that was written again is still new to what stood before -/
theorem Kp.drop {S : List Addr} {H H1 : Hp} {p : Addr} (n : H p = none) (k : Kp (p :: S) H H1) : Kp S H H1 :=
  ⟨fun b o nb h t => k.at_ b o (fun z => by
    rcases List.mem_cons.mp z with z | z
    · rw [z, n] at h; cases h
    · exact nb z) h t, k.tab, k.tr_⟩
theorem Kp.tabbed {S : List Addr} {H H1 : Hp} {P : Addr} (h0 : GxR.TabG H P) (h : GxR.Tabbed P H H1) : Kp S H H1 :=
  ⟨fun b o _ q t => by
    have nb : b ≠ P := fun z => by
      obtain ⟨ps, e, _⟩ := h0
      rw [z, e] at q
      exact t ps (Option.some.inj q).symm
    rw [h.2 b nb]
    exact q, fun b ⟨ps, q, t⟩ => by
    by_cases nb : b = P
    · rw [nb]; exact h.1
    · exact ⟨ps, by rw [h.2 b nb]; exact q, t⟩, fun b q => by
    by_cases nb : b = P
    · obtain ⟨ps, e, _⟩ := h.1
      rw [nb, e]; exact fun z => by cases z
    · rw [h.2 b nb]; exact q⟩
theorem Kp.lst {S : List Addr} {H H1 : Hp} (k : Kp S H H1) {b : Addr} {xs : List V} (nb : b ∉ S) (h : H b = some (.lst xs)) : H1 b = some (.lst xs) := k.at_ b _ nb h fun ps z => by cases z
theorem Kp.tup {S : List Addr} {H H1 : Hp} (k : Kp S H H1) {b : Addr} {xs : List V} (nb : b ∉ S) (h : H b = some (.tup xs)) : H1 b = some (.tup xs) := k.at_ b _ nb h fun ps z => by cases z
theorem Kp.ins {S : List Addr} {H H1 : Hp} (k : Kp S H H1) {b C dx : Addr} {fs : List (Str × V)} (nb : b ∉ S) (h : H b = some (.ins C dx fs)) : H1 b = some (.ins C dx fs) := k.at_ b _ nb h fun ps z => by cases z
theorem Kp.seq {S : List Addr} {K : PySem.W.Frag} {H H1 : Hp} (k : Kp S H H1) {b : Addr} {xs : List V} (nb : b ∉ S) (h : SqL K H b xs) : SqL K H1 b xs := by
  rcases h with (h | ⟨o, h⟩) | h
  · exact .inl (.inl (k.lst nb h))
  · exact .inl (.inr ⟨o, k.at_ b _ nb h fun ps z => by cases z⟩)
  · exact .inr h
theorem Kp.free {S : List Addr} {H H1 : Hp} (k : Kp S H H1) {b : Addr} (nb : b ∉ S) (h : H1 b = none) (ht : ¬ GxR.TabG H b) (hn : ∀ ps, H b ≠ some (.tbl ps)) : H b = none := by
  cases q : H b with
  | none => rfl
  | some o =>
    rw [k.at_ b o nb q (fun ps z => hn ps (by rw [q, z]))] at h
    cases h

/-! ### data in the heap, none of it in S -/
mutual
inductive Dx (S : List Addr) (H : Hp) : V → PyData → Prop
  | non : Dx S H .non .none
  | bl (b : Bool) : Dx S H (.bl b) (.bool b)
  | int (i : Int) : Dx S H (.int i) (.int i)
  | str (z : Str) : Dx S H (.str z) (.str z)
  | lst {a : Addr} {xs : List V} {ds : List PyData} (n : a ∉ S) (h : H a = some (.lst xs)) (r : DxA S H xs ds) : Dx S H (.ref a) (.list ds)
  | tup {a : Addr} {xs : List V} {ds : List PyData} (n : a ∉ S) (h : H a = some (.tup xs)) (r : DxA S H xs ds) : Dx S H (.ref a) (.tuple ds)
  | dic {a : Addr} (n : a ∉ S) (h : H a = some (.dK [])) : Dx S H (.ref a) (.dict [])
inductive DxA (S : List Addr) (H : Hp) : List V → List PyData → Prop
  | nil : DxA S H [] []
  | cons {v : V} {vs : List V} {d : PyData} {ds : List PyData} (h : Dx S H v d) (t : DxA S H vs ds) : DxA S H (v :: vs) (d :: ds)
end
mutual
theorem Dx.kp {S S' : List Addr} {H H1 : Hp} (k : Kp S H H1) (hs : ∀ x ∈ S, x ∈ S') : ∀ {v : V} {d : PyData}, Dx S' H v d → Dx S' H1 v d
  | _, _, .non => .non
  | _, _, .bl b => .bl b
  | _, _, .int i => .int i
  | _, _, .str z => .str z
  | _, _, .lst n h r => .lst n (k.lst (fun z => n (hs _ z)) h) (DxA.kp k hs r)
  | _, _, .tup n h r => .tup n (k.tup (fun z => n (hs _ z)) h) (DxA.kp k hs r)
  | _, _, .dic n h => .dic n (k.at_ _ _ (fun z => n (hs _ z)) h fun ps z => by cases z)
theorem DxA.kp {S S' : List Addr} {H H1 : Hp} (k : Kp S H H1) (hs : ∀ x ∈ S, x ∈ S') : ∀ {v : List V} {d : List PyData}, DxA S' H v d → DxA S' H1 v d
  | _, _, .nil => .nil
  | _, _, .cons h t => .cons (Dx.kp k hs h) (DxA.kp k hs t)
end
mutual
/-- what is there is none of what is new -/
theorem Dx.ap {S : List Addr} {H : Hp} {p : Addr} (n : H p = none) : ∀ {v : V} {d : PyData}, Dx S H v d → Dx (p :: S) H v d
  | _, _, .non => .non
  | _, _, .bl b => .bl b
  | _, _, .int i => .int i
  | _, _, .str z => .str z
  | _, _, .lst m h r => .lst (by simpa using ⟨ne_of_none h n, m⟩) h (DxA.ap n r)
  | _, _, .tup m h r => .tup (by simpa using ⟨ne_of_none h n, m⟩) h (DxA.ap n r)
  | _, _, .dic m h => .dic (by simpa using ⟨ne_of_none h n, m⟩) h
theorem DxA.ap {S : List Addr} {H : Hp} {p : Addr} (n : H p = none) : ∀ {v : List V} {d : List PyData}, DxA S H v d → DxA (p :: S) H v d
  | _, _, .nil => .nil
  | _, _, .cons h t => .cons (Dx.ap n h) (DxA.ap n t)
end
mutual
theorem Dx.wk {S S' : List Addr} {H : Hp} (hs : ∀ x ∈ S', x ∈ S) : ∀ {v : V} {d : PyData}, Dx S H v d → Dx S' H v d
  | _, _, .non => .non
  | _, _, .bl b => .bl b
  | _, _, .int i => .int i
  | _, _, .str z => .str z
  | _, _, .lst m h r => .lst (fun z => m (hs _ z)) h (DxA.wk hs r)
  | _, _, .tup m h r => .tup (fun z => m (hs _ z)) h (DxA.wk hs r)
  | _, _, .dic m h => .dic (fun z => m (hs _ z)) h
theorem DxA.wk {S S' : List Addr} {H : Hp} (hs : ∀ x ∈ S', x ∈ S) : ∀ {v : List V} {d : List PyData}, DxA S H v d → DxA S' H v d
  | _, _, .nil => .nil
  | _, _, .cons h t => .cons (Dx.wk hs h) (DxA.wk hs t)
end
theorem DxA.len {S : List Addr} {H : Hp} : ∀ {vs : List V} {ds : List PyData}, DxA S H vs ds → vs.length = ds.length
  | _, _, .nil => rfl
  | _, _, .cons _ t => by rw [List.length_cons, List.length_cons, DxA.len t]
theorem DxA.get {S : List Addr} {H : Hp} : ∀ {vs : List V} {ds : List PyData} {i : Nat} {v : V}, DxA S H vs ds → vs[i]? = some v → ∃ d, ds[i]? = some d ∧ Dx S H v d
  | _, _, _, _, .nil, h => by cases h
  | _, _, 0, _, .cons a _, h => by cases h; exact ⟨_, rfl, a⟩
  | _, _, i + 1, _, .cons _ t, h => DxA.get (i := i) t (by simpa using h)
theorem DxA.get' {S : List Addr} {H : Hp} : ∀ {vs : List V} {ds : List PyData} {i : Nat} {d : PyData}, DxA S H vs ds → ds[i]? = some d → ∃ v, vs[i]? = some v ∧ Dx S H v d
  | _, _, _, _, .nil, h => by cases h
  | _, _, 0, _, .cons a _, h => by cases h; exact ⟨_, rfl, a⟩
  | _, _, i + 1, _, .cons _ t, h => DxA.get' (i := i) t (by simpa using h)
theorem DxA.app {S : List Addr} {H : Hp} : ∀ {vs ws : List V} {ds es : List PyData}, DxA S H vs ds → DxA S H ws es → DxA S H (vs ++ ws) (ds ++ es)
  | _, _, _, _, .nil, h => h
  | _, _, _, _, .cons a t, h => .cons a (DxA.app t h)
mutual
/-- what the layer calls data: no dict in it -/
theorem Dx.dp {S : List Addr} {K : PySem.W.Frag} {H : Hp} : ∀ {v : V} {d : PyData}, Dx S H v d → d.hasDict = false → Dp K H v d
  | _, _, .non, _ => .non
  | _, _, .bl b, _ => .bl b
  | _, _, .int i, _ => .int i
  | _, _, .str z, _ => .str z
  | _, _, .lst n h r, e => .lst (SqL.of h) (DxA.dp r (by simpa [PyData.hasDict] using e))
  | _, _, .tup n h r, e => .tup (SqT.of h) (DxA.dp r (by simpa [PyData.hasDict] using e))
  | _, _, .dic n h, e => by simp [PyData.hasDict] at e
theorem DxA.dp {S : List Addr} {K : PySem.W.Frag} {H : Hp} : ∀ {v : List V} {d : List PyData}, DxA S H v d → PyData.hasDictAll d = false → DpAll K H v d
  | _, _, .nil, _ => .nil
  | _, _, @DxA.cons _ _ v vs d ds h t, e => by
    have e2 : PyData.hasDict d = false ∧ PyData.hasDictAll ds = false := by simpa [PyData.hasDictAll] using e
    exact .cons (Dx.dp h e2.1) (DxA.dp t e2.2)
end

/-- new data: none of it stood in H -/
def Nw (H H' : Hp) (v : V) (d : PyData) : Prop := ∀ S : List Addr, (∀ s ∈ S, H s ≠ none) → Dx S H' v d
def NwA (H H' : Hp) (vs : List V) (ds : List PyData) : Prop := ∀ S : List Addr, (∀ s ∈ S, H s ≠ none) → DxA S H' vs ds
theorem Nw.tup {H H1 : Hp} {p : Addr} {xs : List V} {ds : List PyData} (k : ∀ b, H b ≠ none → H1 b ≠ none) (n : H1 p = none) (h : NwA H H1 xs ds) : Nw H (upd H1 p (.tup xs)) (.ref p) (.tuple ds) := fun S t =>
  .tup (fun z => k p (t p z) n) upd_same ((h S t).kp (Kp.new (S := []) n) fun _ z => by cases z)
theorem Nw.lst {H H1 : Hp} {p : Addr} {xs : List V} {ds : List PyData} (k : ∀ b, H b ≠ none → H1 b ≠ none) (n : H1 p = none) (h : NwA H H1 xs ds) : Nw H (upd H1 p (.lst xs)) (.ref p) (.list ds) := fun S t =>
  .lst (fun z => k p (t p z) n) upd_same ((h S t).kp (Kp.new (S := []) n) fun _ z => by cases z)
theorem NwA.nil {H H1 : Hp} : NwA H H1 [] [] := fun _ _ => .nil
theorem NwA.cons {H H1 : Hp} {v : V} {vs : List V} {d : PyData} {ds : List PyData} (h : Nw H H1 v d) (t : NwA H H1 vs ds) : NwA H H1 (v :: vs) (d :: ds) := fun S z => .cons (h S z) (t S z)
theorem Nw.int {H H1 : Hp} (i : Int) : Nw H H1 (.int i) (.int i) := fun _ _ => .int i
theorem Nw.non {H H1 : Hp} : Nw H H1 .non .none := fun _ _ => .non
theorem Nw.bl {H H1 : Hp} (b : Bool) : Nw H H1 (.bl b) (.bool b) := fun _ _ => .bl b
theorem Nw.str {H H1 : Hp} (z : Str) : Nw H H1 (.str z) (.str z) := fun _ _ => .str z
theorem Nw.kp {H H1 H2 : Hp} {v : V} {d : PyData} (h : Nw H H1 v d) (k : Kp [] H1 H2) : Nw H H2 v d := fun S t => (h S t).kp k fun _ z => by cases z
theorem NwA.kp {H H1 H2 : Hp} {v : List V} {d : List PyData} (h : NwA H H1 v d) (k : Kp [] H1 H2) : NwA H H2 v d := fun S t => (h S t).kp k fun _ z => by cases z
/-- what was written stood before -/
theorem Nw.kpS {H H1 H2 : Hp} {S0 : List Addr} {v : V} {d : PyData} (h : Nw H H1 v d) (k : Kp S0 H1 H2) (hs : ∀ s ∈ S0, H s ≠ none) : Nw H H2 v d := fun S t =>
  ((h (S0 ++ S) fun s z => by rcases List.mem_append.mp z with z | z <;> first | exact hs s z | exact t s z).kp k fun x z => List.mem_append_left _ z).wk fun x z => List.mem_append_right _ z
theorem NwA.kpS {H H1 H2 : Hp} {S0 : List Addr} {v : List V} {d : List PyData} (h : NwA H H1 v d) (k : Kp S0 H1 H2) (hs : ∀ s ∈ S0, H s ≠ none) : NwA H H2 v d := fun S t =>
  ((h (S0 ++ S) fun s z => by rcases List.mem_append.mp z with z | z <;> first | exact hs s z | exact t s z).kp k fun x z => List.mem_append_left _ z).wk fun x z => List.mem_append_right _ z
theorem Nw.old {H0 H H1 : Hp} {v : V} {d : PyData} (k : ∀ b, H0 b ≠ none → H b ≠ none) (h : Nw H H1 v d) : Nw H0 H1 v d := fun S t => h S fun s z => k s (t s z)
theorem NwA.old {H0 H H1 : Hp} {v : List V} {d : List PyData} (k : ∀ b, H0 b ≠ none → H b ≠ none) (h : NwA H H1 v d) : NwA H0 H1 v d := fun S t => h S fun s z => k s (t s z)
theorem NwA.app {H H1 : Hp} {v w : List V} {d e : List PyData} (h : NwA H H1 v d) (h2 : NwA H H1 w e) : NwA H H1 (v ++ w) (d ++ e) := fun S t => (h S t).app (h2 S t)
theorem NwA.ints {H H1 : Hp} : ∀ ns : List Int, NwA H H1 (ns.map V.int) (ns.map PyData.int)
  | [] => .nil
  | n :: r => .cons (.int n) (NwA.ints r)

/-! ### repr of data -/
section
variable {X : Cx}
theorem call_repr {j : Nat} (hG : X.A.guards = some []) (rm : Room j X.A) : CallR X (.builtin "repr") (fun xs H Q => ∃ (x : V) (d : PyData), xs = [x] ∧ Dp X.K H x d ∧ d.showable = true ∧ d.hasDict = false ∧ d.depth < 150 ∧ d.shown.length ≤ sizeLine ∧ (∃ a, x = .ref a) ∧ Q (.str d.shown) H) := by
  intro pins s σ H xs us Q I r h
  obtain ⟨x, d, rfl, hd, h1, h2, h3, h4, ⟨a, rfl⟩, q⟩ := h
  obtain ⟨u, rfl, ru⟩ := vals1 r
  obtain ⟨as, hr⟩ := hd.reads I d _ u ru
  obtain rfl : u = Value.ref a := ru
  have hu := rm.un
  refine repr_of_reads' hr h1 (fun e => by rw [h2] at e; cases e) hG (by omega) (fun _ _ e => e) (fun h' u tk hk => ?_) h4
  exact ⟨.str d.shown, H, I.kept (t' := tk) hk, ⟨u, rfl⟩, q⟩
/-- as call_isi, the written part told (in a comprehension's block it can't be read off) -/
theorem call_isiK {K : PySem.W.Frag} (h : X.K = K) : CallR X (.builtin "isinstance") (rIsi K) := h ▸ call_isi
theorem ix_tupK {K : PySem.W.Frag} (h : X.K = K) : IxR X (rIxT K) := h ▸ ix_tup
theorem ix_listK {K : PySem.W.Frag} (h : X.K = K) : IxR X (rIxL K) := h ▸ ix_list
/-! ### powers of great numbers; xs[i] op= e -/
def CPowW (i j : Int) : Prop := 0 ≤ j ∧ (Builtin.Int.intBits i : Int) * j ≤ 2 ^ 27
theorem op_powW : OpR X (binaryOp .Pow) (rI CPowW fun i j => .int (i ^ j.toNat)) := opI fun i j _ _ _ _ _ hc q => PyProof.Rows.pow_int hc.1 hc.2 q
def rCatL (K : PySem.W.Frag) : R2 := fun x y H Q => ∃ l b xs zs, x = .ref l ∧ y = .ref b ∧ SqL K H l xs ∧ SqL K H b zs ∧ xs.length + zs.length ≤ sizeLine ∧ ∀ p, H p = none → Q (.ref p) (upd H p (.lst (xs ++ zs)))
/-- list + list, also of a list that no one may write -/
theorem op_catL : OpR X (binaryOp .Add) (rCatL X.K) := by
  intro pins s σ H x y v u Q I rx ry h
  obtain ⟨l, b, xs, zs, rfl, rfl, hH, hB, hz, q⟩ := h
  cases rx
  cases ry
  obtain ⟨its, r, pl, _⟩ := I.list hH
  obtain ⟨its2, r2, pl2, _⟩ := I.list hB
  have hl := r.length
  have hl2 := r2.length
  obtain ⟨⟨cls, dd, data, sl⟩, ho, hc, n, hd⟩ := id pl.isList
  obtain ⟨⟨cls2, dd2, data2, sl2⟩, ho2, hc2, n2, hd2⟩ := id pl2.isList
  simp only at hc hd hc2 hd2
  subst hc hd hc2 hd2
  have e : its.toArray ++ its2.toArray = (its ++ its2).toArray := by simp
  refine concat_meets ⟨_, ho, rfl⟩ ⟨_, ho2, rfl⟩ noFill_list_add seq_list_add PySem.F.slot_list_add PySem.F.entry_list_add (PySem.F.args_list_add_2 _ _) (list_addW l b its.toArray its2.toArray n n2 dd dd2 sl sl2 (by rw [List.size_toArray, List.size_toArray]; omega)) ⟨ho, ho2, ?_⟩
  rw [e]
  exact ⟨.ref _, _, I.lnew (t' := s.toks) (r.append r2) (by rw [List.length_append]; omega), rfl, q _ I.fresh⟩
def rGetL (K : PySem.W.Frag) : V → V → Hp → VK → Prop := fun x y H Q => ∃ (p : Addr) (xs : List V) (j : Nat) (v : V), x = .ref p ∧ y = .int j ∧ SqL K H p xs ∧ xs[j]? = some v ∧ Q v H
theorem pget_list : PGet X (rGetL X.K) := by
  intro pins s σ H o i ov iv Q I r1 r2 h
  obtain ⟨p, xs, j, v, rfl, rfl, hq, hv, q⟩ := h
  obtain rfl : ov = Value.ref p := r1
  obtain ⟨t, rfl⟩ := r2
  obtain ⟨its, r, pl, hz⟩ := I.list hq
  obtain ⟨u, hu, ru⟩ := r.get hv
  have hj := (List.getElem?_eq_some_iff.mp hu).1
  have hl := r.length
  have h63 := line63
  exact getItem_listL pl.isList (by omega) (by omega) (by simpa using hu) ⟨v, H, I, ru, q⟩
end
theorem pow_ok {i : Int} {n e : Nat} (h : i.natAbs < 2 ^ n) (hn : 0 < n) (hz : n * e ≤ 2 ^ 27) : CPowW i (e : Int) := by
  refine ⟨by omega, ?_⟩
  have h1 : Builtin.Int.intBits i ≤ n := by
    have q := PySem.Flt.log2_lt_of hn h
    unfold Builtin.Int.intBits
    split <;> omega
  have h2 : Builtin.Int.intBits i * e ≤ n * e := Nat.mul_le_mul_right e h1
  have h3 : ((Builtin.Int.intBits i * e : Nat) : Int) ≤ ((2 ^ 27 : Nat) : Int) := Int.ofNat_le.mpr (Nat.le_trans h2 hz)
  rw [Int.natCast_mul] at h3
  exact h3
end Em

namespace Em
open PySem PySem.Spec PyProof.Rows L2 Qt

/-! ### a law's end: nothing is being shown around the law's call -/
def LawG (l : PySem.W.OpenLaw) (w : World) (K : PySem.W.Frag) (k n : Nat) (x : Str) (mg : Str → Option Value) (fa : Addr) (h : Heap) : Prop :=
  ∃ (fd : FuncData) (cs : List (Addr × Addr)) (sp : Sp), (∀ p ∈ cs, h.get? p.2 = some { cls := .none, data := .fields #[] } ∧ K.lookup p.2 = none ∧ PySem.W.CodeHd h p.1 p.2) ∧ (∀ (s : Shared) (u : Value), BindsTo s fd ⟨[u], []⟩ [(x, u)]) ∧
    (∀ (H : Hp) (a : Addr) (ns : List Int), ns.length ≤ n → (∀ z ∈ ns, Builtin.Int.intBits z ≤ 1048576) → (∀ p ∈ cs, H p.2 = some (.tbl #[])) → SqL K H a (ns.map V.int) → sp [.ref a] H (fun v _ => v = .bl true) fun _ _ _ => False) ∧
    ∀ base : Heap, K.In base → base.Ns mainGlobals mg → (∀ p ∈ cs, GxR.TabB base mg p.1 p.2) → FnG l.prog w K mg base CX0 k fa fd [x] sp

section
variable {P : Program} {w : World} {K : PySem.W.Frag} {mg mb : Str → Option Value} {k : Nat} {fa a : Addr} {cs : List (Addr × Addr)} {fd : FuncData} {x : Str} {sp : Sp} {s : Shared} {vs : List Value} {ns : List Int}
/-- what is tracked as the law begins: the tables, and the script if it is no written thing -/
def hp0 (K : PySem.W.Frag) (cs : List (Addr × Addr)) (a : Addr) (vs : List Value) (ns : List Int) : Hp := fun b =>
  if b ∈ cs.map (·.2) then some (.tbl #[]) else if b = a ∧ K.lookup a = none then some (.frz { cls := .type "list", data := .seq vs.toArray } (.lst (ns.map V.int))) else none
theorem hp0_tab {b : Addr} (h : b ∈ cs.map (·.2)) : hp0 K cs a vs ns b = some (.tbl #[]) := by unfold hp0; rw [if_pos h]
theorem hp0_scr (h : a ∉ cs.map (·.2)) (hk : K.lookup a = none) : hp0 K cs a vs ns a = some (.frz { cls := .type "list", data := .seq vs.toArray } (.lst (ns.map V.int))) := by
  unfold hp0; rw [if_neg h, if_pos ⟨rfl, hk⟩]
theorem hp0_cases {b : Addr} {o : HO} (h : hp0 K cs a vs ns b = some o) : (b ∈ cs.map (·.2) ∧ o = .tbl #[]) ∨ (b ∉ cs.map (·.2) ∧ b = a ∧ K.lookup a = none ∧ o = .frz { cls := .type "list", data := .seq vs.toArray } (.lst (ns.map V.int))) := by
  unfold hp0 at h
  by_cases h1 : b ∈ cs.map (·.2)
  · rw [if_pos h1] at h; exact .inl ⟨h1, (Option.some.inj h).symm⟩
  · rw [if_neg h1] at h
    by_cases h2 : b = a ∧ K.lookup a = none
    · rw [if_pos h2] at h; exact .inr ⟨h1, h2.1, h2.2, (Option.some.inj h).symm⟩
    · rw [if_neg h2] at h; cases h

theorem law_endG (KX : K.In s.heap) (n1 : s.heap.Ns mainGlobals mg) (n2 : s.heap.Ns builtinsNs mb) (n3 : ∀ x : Str, x ≠ "__name__" → mb x = bootBuiltins x) (lim : s.heap.NoLimit) (hg : s.gens = #[])
    (hT : ∀ p ∈ cs, s.heap.get? p.2 = some { cls := .none, data := .fields #[] } ∧ K.lookup p.2 = none ∧ PySem.W.CodeHd s.heap p.1 p.2)
    (hbm : ∃ (bm : Addr) (ob : Obj), mg "__builtins__" = some (.ref bm) ∧ bm ≠ builtinsNs ∧ s.heap.get? bm = some ob ∧ ob.cls = .type "module" ∧ ob.dict = some builtinsNs ∧ ob.data = .plain)
    (ha : s.heap.get? a = some { cls := .type "list", data := .seq vs.toArray }) (hi : IntsAre vs ns) (hl : ns.length ≤ sizeLine) (rm : Room k callerA)
    (F : ∀ base : Heap, K.In base → base.Ns mainGlobals mg → (∀ p ∈ cs, GxR.TabB base mg p.1 p.2) → FnG P w K mg base CX0 k fa fd [x] sp) (hb : ∀ (s : Shared) (u : Value), BindsTo s fd ⟨[u], []⟩ [(x, u)])
    (hsp : ∀ H : Hp, (∀ p ∈ cs, H p.2 = some (.tbl #[])) → SqL K H a (ns.map V.int) → sp [.ref a] H (fun v _ => v = .bl true) fun _ _ _ => False) :
    codeAny (model P w) callerA (.call (.ref fa) ⟨[.ref a], []⟩) (fun r s' => r = .ok (.ret (.bool true)) ∧ OldK s.heap s'.heap ∧ s'.os = s.os ∧ AllBare s'.gens) s := by
  have rv := vals_ints hi
  have lenV := hi.length
  obtain ⟨H, eH⟩ : ∃ H, H = hp0 K cs a vs ns := ⟨_, rfl⟩
  have memT : ∀ p ∈ cs, p.2 ∈ cs.map (·.2) := fun p hp => List.mem_map.mpr ⟨p, hp, rfl⟩
  have tabH : ∀ b, b ∈ cs.map (·.2) → s.heap.get? b = some { cls := .none, data := .fields #[] } ∧ K.lookup b = none := fun b hb => by
    obtain ⟨p, hp, e⟩ := List.mem_map.mp hb
    rw [← e]
    exact ⟨(hT p hp).1, (hT p hp).2.1⟩
  have aT : a ∉ cs.map (·.2) := fun z => by
    have q := (tabH a z).1
    rw [ha] at q
    have q2 : Data.seq vs.toArray _ = Data.fields #[] := congrArg Obj.data (Option.some.inj q)
    cases q2
  have hS : SqL K H a (ns.map V.int) := by
    cases hk : K.lookup a with
    | none => exact .inl (.inr ⟨_, by rw [eH]; exact hp0_scr aT hk⟩)
    | some o =>
      have e := KX a o hk
      rw [ha] at e
      cases e
      exact .inr ⟨_, vs.toArray, _, hk, rfl, rfl, rfl, by rw [List.size_toArray, lenV]; exact hl, by simpa using rv⟩
  have hH : ∀ p ∈ cs, H p.2 = some (.tbl #[]) := fun p hp => by rw [eH]; exact hp0_tab (memT p hp)
  have hok : HOk P w H s.heap := fun b o e => by
    rw [eH] at e
    rcases hp0_cases e with ⟨h1, rfl⟩ | ⟨h1, rfl, hk, rfl⟩
    · exact (tabH b h1).1
    · exact ⟨ha, by rw [List.length_map]; exact hl, vs, _, rv, ha⟩
  -- what is neither a sequence nor an empty table is untracked
  have out : ∀ {b : Addr} {o : Obj}, s.heap.get? b = some o → (∀ us n, o.data ≠ .seq us n) → o.data ≠ .fields #[] → H b = none := fun {b o} e h1 h2 => by
    cases q : H b with
    | none => rfl
    | some u =>
      rw [eH] at q
      rcases hp0_cases q with ⟨h3, _⟩ | ⟨_, h3, _⟩
      · rw [(tabH b h3).1] at e; cases e; exact absurd rfl h2
      · rw [h3, ha] at e; cases e; exact absurd rfl (h1 _ _)
  have keepB : ∀ {b : Addr} {o : Obj}, s.heap.get? b = some o → H b = none → (hidT s.heap H).get? b = some o := fun e n => hidT_get e n
  have nsB : ∀ {b : Addr} {m : Str → Option Value}, s.heap.Ns b m → (hidT s.heap H).Ns b m := fun {b m} ⟨o, es, ep, e, d, r⟩ =>
    ⟨o, es, ep, keepB e (out e (fun us n z => by rw [d] at z; cases z) fun z => by rw [d] at z; cases z), d, r⟩
  have KB : K.In (hidT s.heap H) := fun b o e => keepB (KX b o e) (by
    cases q : H b with
    | none => rfl
    | some u =>
      rw [eH] at q
      rcases hp0_cases q with ⟨h3, _⟩ | ⟨_, h3, h4, _⟩
      · rw [(tabH b h3).2] at e; cases e
      · rw [h3, h4] at e; cases e)
  have MB : L2.Mod K mg (hidT s.heap H) := ⟨KB, nsB n1, ⟨mb, nsB n2, n3⟩, let ⟨mc, h1, h2⟩ := lim; ⟨mc, nsB h1, h2⟩⟩
  have TB : ∀ p ∈ cs, GxR.TabB (hidT s.heap H) mg p.1 p.2 := fun p hp => by
    obtain ⟨t1, t2, o, us, file, tf, flags, tg, inF, text, tt, e1, r1, r2, r3, r4, r5, r6, r7, r8, hne⟩ := hT p hp
    obtain ⟨bm, ob, b1, b2, b3, b4, b5, b6⟩ := hbm
    refine ⟨⟨o, us, file, tf, flags, tg, inF, text, tt, keepB e1 (out e1 (fun vs n z => by rw [r2] at z; cases z) fun z => by rw [r2] at z; cases z; simp at r3), r1, r2, r3, r4, r5, r6, r7, r8, hne⟩,
      ⟨bm, ob, b1, b2, fun q => ?_, fun q => ?_, keepB b3 (out b3 (fun vs n z => by rw [b6] at z; cases z) fun z => by rw [b6] at z; cases z), b4, b5, b6⟩, fun z => ?_⟩
    · obtain ⟨o, es, ep, e, hd, _⟩ := n1
      rw [q, e] at b3; cases b3
      rw [hd] at b6; cases b6
    · rw [q, t1] at b3; cases b3; cases b6
    · obtain ⟨o, es, ep, e, hd, _⟩ := n1
      rw [z, t1] at e; cases e; cases hd
  have e0 : Env0 P w K mg (hidT s.heap H) callerA [] s H := ⟨rfl, MB, fun b o e => of_hidT e, Nat.le_of_eq (hidT_size _ _), trivial, fun b hb => absurd (show b ∈ ([] : List Addr) from hb) (by simp), hok, .of_eq hg⟩
  refine codeAny_mono ((F _ KB (nsB n1) TB).go callerA [] s H ⟨[.ref a], []⟩ [.ref a] [.ref a] _ _ rfl rm e0 (hb s (.ref a)) (.cons rfl .nil) (hsp H hH hS)) fun r s' h => ?_
  cases r with
  | error e => exact absurd (show False from h) (fun z => z)
  | ok fl =>
    cases fl with
    | next => exact absurd (show False from h) (fun z => z)
    | brk => exact absurd (show False from h) (fun z => z)
    | cont => exact absurd (show False from h) (fun z => z)
    | ret u =>
      obtain ⟨v, H', hos, bare, un, hok', r', q⟩ := h
      subst q
      obtain rfl : u = Value.bool true := r'
      have noA : ∀ b : Addr, b ∉ ([] : List Addr) := fun b => by simp
      have same : ∀ b o, b ∉ cs.map (·.2) → s.heap.get? b = some o → s'.heap.get? b = some o := fun b o nb e => by
        cases q : H b with
        | none => exact un.keep b o e q (fun z => absurd (show b ∈ ([] : List Addr) from z) (noA b)) (noA b)
        | some u =>
          have q0 := q
          rw [eH] at q
          rcases hp0_cases q with ⟨h3, _⟩ | ⟨_, h3, h4, rfl⟩
          · exact absurd h3 nb
          · obtain ⟨e1, _⟩ := hok b _ q0
            obtain ⟨e2, _⟩ := hok' b _ (un.frzs b _ _ q0)
            rw [e] at e1
            cases e1
            exact e2
      have more : ∀ b, b ∈ cs.map (·.2) → ∃ m : Array Value, s'.heap.get? b = some { cls := .none, data := .fields m } := fun b hb => by
        obtain ⟨p, hp, e⟩ := List.mem_map.mp hb
        obtain ⟨m, z⟩ := un.tbls p.2 #[] (hH p hp)
        rw [← e]
        exact ⟨_, hok' p.2 _ z⟩
      refine ⟨rfl, ⟨fun b o e => ?_, fun b o e => ?_⟩, hos, bare⟩
      · by_cases hb : b ∈ cs.map (·.2)
        · obtain ⟨m, hm⟩ := more b hb
          obtain ⟨p, hp, ep⟩ := List.mem_map.mp hb
          rw [(tabH b hb).1] at e
          cases e
          refine .inr (.inl ⟨?_, rfl, #[], m, rfl, by rw [Array.empty_append]; exact hm⟩)
          rw [← ep]
          exact ((hT p hp).2.2.tab (hT p hp).1).isCodeTable
        · exact .inl (same b o hb e)
      · by_cases hb : b ∈ cs.map (·.2)
        · obtain ⟨m, hm⟩ := more b hb
          exact ⟨_, hm⟩
        · exact ⟨o, same b o hb e⟩
end
theorem walkG {l : PySem.W.OpenLaw} {n k : Nat} {q : Program} {loose : List Str} {XP : (Str → Option Value) → Heap → Prop} {YP : World → Heap → Prop} {d : DefRec} {x : Str}
    (hn : l.most = some n) (hn2 : n ≤ sizeLine) (hdf : d.params.defaults = []) (rm : Room k callerA)
    (F : ∀ (w : World) (mg : Str → Option Value) (fa : Addr) (h : Heap), YP w h → h.Ns mainGlobals mg → mg d.name = some (.ref fa) → ∃ K : PySem.W.Frag, K.In h ∧ LawG l w K k n x mg fa h) :
    PySem.W.WalkO q loose XP YP l.row.toRowW d [] (fun f vs => PySem.call f vs) := by
  refine Att.attach_callB hn hdf fun w s0 s1 mg mb fa o pm cd doc a vs ns G Y ho hd hcd hmg hobj hints hlen hbits hg => ?_
  obtain ⟨K, KX, fd, cs, sp, hT, hb, hsp, hF⟩ := F w mg fa _ Y G.T.g hmg
  exact law_endG KX G.T.g G.T.b G.T.builtins G.T.nolimit hg hT G.T.bmain hobj hints (Nat.le_trans hlen hn2) rm hF hb fun H hH hS => hsp H a ns hlen hbits hH hS
/-! ### facts of the head -/
theorem funOf {K : PySem.W.Frag} {x qual : Str} {st : Stmt} {f : Addr} {fd : FuncData} (F : FunD K x qual (defArgs st) (defBody st) (defScope st) [] [] f fd) : Fun K x qual st f fd := by
  obtain ⟨oc, od, dV, kV, doc, pm, an, cdv, ct, osl, e, lk, hcd, hD, hK⟩ := F.ex
  rcases hD with ⟨_, rfl⟩ | ⟨z, _⟩
  · exact ⟨⟨oc, od, kV, doc, pm, an, cdv, ct, osl, e, lk, hcd⟩, F.kp⟩
  · exact absurd rfl z
/-- a def of the module: where it stands, how it is called -/
structure Df (K : PySem.W.Frag) (mg : Str → Option Value) (x : Str) (st : Stmt) (ps : List Str) (f : Addr) (fd : FuncData) : Prop where
  F : Fun K x x st f fd
  b : Binds K fd ps []
  g : mg x = some (.ref f)
/-- its code's object -/
def CodeIs (K : PySem.W.Frag) (f c : Addr) : Prop := ∀ oc od fd osl, K.lookup f = some ⟨oc, od, .func fd, osl⟩ → fd.code = .ref c
theorem codeIs_of {K : PySem.W.Frag} {x qual : Str} {st : Stmt} {p : Str × Option Str} {fd : FuncData} (F : Fun K x qual st (He.fAd K p) fd) : CodeIs K (He.fAd K p) (He.codeOf K p) := by
  obtain ⟨oc, od, kV, doc, pm, an, cdv, ct, osl, e, lk, hcd⟩ := F.ex
  obtain ⟨c, hc⟩ := He.codeIn_ref hcd
  have h1 : He.codeOf K p = c := He.codeOf_eq lk (by rw [e]; exact hc)
  intro oc2 od2 fd2 osl2 lk2
  rw [lk] at lk2
  cases lk2
  rw [h1, e]
  exact hc
theorem Df.mk' {K : PySem.W.Frag} {mg : Str → Option Value} {x : Str} {st : Stmt} {ps : List Str} {f : Addr} {fd : FuncData} (F : FunD K x x (defArgs st) (defBody st) (defScope st) [] [] f fd) (hm : mg x = some (.ref f))
    (h : ∀ (kV doc pm : Value) (an : Option Addr) (cdv ct : Value) (us : List Value), us.length = ps.length → bindArgs (PySem.W.fnOf x x (defArgs st) (defBody st) (defScope st) .none kV doc pm an cdv ct) ⟨us, []⟩ = pure (ps.zip us)) : Df K mg x st ps f fd :=
  ⟨funOf F, F.bindsN h, hm⟩
/-- as Fun.ok, the code's object known -/
theorem okC {P : Program} {w : World} {K : PySem.W.Frag} {mg : Str → Option Value} {base : Heap} {k : Nat} {f c : Addr} {fd : FuncData} {ps : List Str} {sp : Sp} {x qual : Str} {st : Stmt} {N : List Str} (F : Fun K x qual st f fd) (hC : CodeIs K f c) (S : FnScope N ps (defScope st)) (len : ∀ vs H Q E, sp vs H Q E → vs.length = ps.length)
    (hbody : ∀ (A : Around) (outer : List Env) (s : Shared) (H : Hp) (vs : List V) (Q : VK) (E : XK), Room k (A.deeper (envOfC qual (defScope st) s.heap.objs.size f (.ref c))) → sp vs H Q E →
      ∃ t, PSs (cxOf CX0 P w K mg base N qual (defScope st) f (.ref c) A outer s H E).nox (defBody st) t ∧ t { nx := fun _ H' => Q .non H', rt := Q } (start N vs) H) : FnOk P w K mg base CX0 (k + 1) f fd ps sp := by
  obtain ⟨oc, od, kV, doc, pm, an, cdv, ct, osl, rfl, lk, hcd⟩ := F.ex
  have hc : cdv = .ref c := hC _ _ _ _ lk
  subst hc
  refine fn_of lk hcd S len fun A outer s H vs Q E hr hs => ?_
  obtain ⟨t, h, q⟩ := hbody A outer s H vs Q E hr hs
  exact ⟨t, h.nox, q⟩
end Em

namespace Em
open PySem PySem.Spec PyProof.Rows L2 Qt

/-! ### what a net is, of any data -/
def isW : PyData → Bool
  | .int _ => true
  | _ => false
def numB (m : Nat) : PyData → Bool
  | .int i => decide (0 ≤ i) && decide (i < (m : Int))
  | _ => false
def lenB : PyData → Bool
  | .int i => !decide (i < 1)
  | _ => false
def nxB (m : Nat) : PyData → Bool
  | .none => true
  | d => numB m d
def lampB (m : Nat) : PyData → Bool
  | .tuple [l, o] => lenB l && nxB m o
  | _ => false
def netB : PyData → Bool
  | .tuple ds => !decide ((ds.length : Int) < 1) && !decide ((12 : Int) < (ds.length : Int)) && (ds.map (lampB ds.length)).all id
  | _ => false

/-! ### the class of data -/
def kname : PyData → String
  | .none => "NoneType"
  | .bool _ => "bool"
  | .int _ => "int"
  | .str _ => "str"
  | .list _ => "list"
  | .tuple _ => "tuple"
  | .dict _ => "dict"
theorem knd_of {c : Qc} {S : List Addr} (O : c.Ok) : ∀ {v : V} {d : PyData}, Dx S c.H v d → Knd c v (kname d)
  | _, _, .non => .non
  | _, _, .bl b => .bl b
  | _, _, .int i => .int i
  | _, _, .str z => .str z
  | _, _, .lst n h r => by
    obtain ⟨_, its, m, _, e⟩ := O.hok _ _ h
    exact .lst ⟨_, e, rfl⟩
  | _, _, .tup n h r => by
    obtain ⟨_, its, _, o, e, ec, _⟩ := O.hok _ _ h
    exact .tup ⟨o, e, ec⟩
  | _, _, .dic n h => by
    obtain ⟨_, _, vs, _, o, es, ep, e, q, _⟩ := O.hok _ _ h
    exact .dic ⟨o, e, q.1⟩
theorem tupQ_of {c : Qc} (O : c.Ok) {a : Addr} {xs : List V} (h : c.H a = some (.tup xs)) : TupQ c a xs := by
  obtain ⟨hz, its, rv, ht⟩ := O.hok _ _ h
  exact ⟨its, rv, ht, hz⟩
/-- isinstance(x, C) of data -/
def kindS (k C : String) : Bool := k == C || (k == "bool" && C == "int")
def kindB (d : PyData) (C : String) : Bool := kindS (kname d) C
def kinds : List String := ["NoneType", "bool", "int", "str", "list", "tuple", "dict"]
theorem kname_mem (d : PyData) : kname d ∈ kinds := by cases d <;> simp [kname, kinds]
def cls4 : List String := ["int", "bool", "tuple", "list"]
theorem kits : ∀ C ∈ cls4, ∀ k ∈ kinds, kitB k C = some (kindS k C) := by decide +kernel
theorem kit_data {K : PySem.W.Frag} {d : PyData} {C : String} (hC : C ∈ cls4) : PySem.W.kitOne K (.type (kname d)) (.type C) = some (kindB d C) := kit_ty (kits C hC _ (kname_mem d))
theorem qe_isi {c : Qc} {k : Nat} {env : Env} {N : Nm} {S : List Addr} {v : V} {d : PyData} {C : String} {e : Expr} {p1 p2 pos : Pos} (O : c.Ok) (h : Dx S c.H v d) (he : QE c k env N e v) (hg : env.kindOf ("isinstance" : Str) = some .globalImplicit) (hm : c.mg "isinstance" = none)
    (hgC : env.kindOf (Str.ofString C) = some .globalImplicit) (hmC : c.mg (Str.ofString C) = none) (hvC : bootBuiltins (Str.ofString C) = some (.type C)) (hC : C ∈ cls4)
    (hn : (Str.ofString C) ≠ "__name__" := by decide) (hd : ((Str.ofString C) == ("__debug__" : Str)) = false := by decide)
    (s1 : starEach (e :: [.Name (Str.ofString C) p2]) env = (false, eval e env) :: starEach [.Name (Str.ofString C) p2] env := by rfl) (s2 : starEach (.Name (Str.ofString C) p2 :: []) env = (false, eval (.Name (Str.ofString C) p2) env) :: starEach [] env := by rfl)
    (hpl : (backTo pos (starEach [.Name (Str.ofString C) p2] env)).any (·.1) = false := by rfl) :
    QE c k env N (.Call (.Name "isinstance" p1) (e :: [.Name (Str.ofString C) p2]) [] pos) (.bl (kindB d C)) :=
  q_callB O (qc_isi O (knd_of O h) (kit_data hC)) hg hm (by decide +kernel) (qa_cons he (qa_cons (q_blt (v := .ty C) O hgC hmC hvC rfl hn hd) qa_nil s2) s1) (by decide) (by decide) s1 hpl
theorem tyx_of {K : PySem.W.Frag} {S : List Addr} {H : Hp} : ∀ {v : V} {d : PyData}, Dx S H v d → TyX K H v (.type (kname d))
  | _, _, .non => .base .non
  | _, _, .bl b => .base (.bl b)
  | _, _, .int i => .base (.int i)
  | _, _, .str z => .base (.str z)
  | _, _, .lst n h r => .base (.lst h)
  | _, _, .tup n h r => .base (.tup h)
  | _, _, .dic n h => .base (.dK h)
mutual
theorem Dx.wiped {S : List Addr} {H : Hp} {P : Addr} (t : GxR.TabG H P) : ∀ {v : V} {d : PyData}, Dx S H v d → Dx S (wipe H P) v d
  | _, _, .non => .non
  | _, _, .bl b => .bl b
  | _, _, .int i => .int i
  | _, _, .str z => .str z
  | _, _, .lst n h r => .lst n (wipe_at (fun z => by obtain ⟨ps, e, _⟩ := t; rw [z, e] at h; cases h) h) (DxA.wiped t r)
  | _, _, .tup n h r => .tup n (wipe_at (fun z => by obtain ⟨ps, e, _⟩ := t; rw [z, e] at h; cases h) h) (DxA.wiped t r)
  | _, _, .dic n h => .dic n (wipe_at (fun z => by obtain ⟨ps, e, _⟩ := t; rw [z, e] at h; cases h) h)
theorem DxA.wiped {S : List Addr} {H : Hp} {P : Addr} (t : GxR.TabG H P) : ∀ {v : List V} {d : List PyData}, DxA S H v d → DxA S (wipe H P) v d
  | _, _, .nil => .nil
  | _, _, .cons h r => .cons (Dx.wiped t h) (DxA.wiped t r)
end
theorem free_by {names : List (Str × NameKind)} {sc : Scope} {n : Nat} (h : names.all (fun y => y.2 != .free || sc.names.lookup y.1 == some .cell) = true) : ∀ y ∈ names, y.2 = .free → ∃ c, (cellsFrom n sc.names []).lookup y.1 = some c := fun y hy e => by
  have q := List.all_eq_true.mp h y hy
  rw [e] at q
  exact cell_has (by simpa using q)
end Em

namespace Em
open PySem PySem.Spec PyProof.Rows L2 Qt

/-! ### nets -/
abbrev Net := List (Int × Option Nat)
def nxD : Option Nat → PyData
  | none => .none
  | some n => .int n
def nxV : Option Nat → V
  | none => .non
  | some n => .int n
def lampD (p : Int × Option Nat) : PyData := .tuple [.int p.1, nxD p.2]
def netD (N : Net) : PyData := .tuple (N.map lampD)
structure NetOk (N : Net) : Prop where
  lo : 1 ≤ N.length
  hi : N.length ≤ 12
  len : ∀ p ∈ N, 1 ≤ p.1
  nx : ∀ p ∈ N, ∀ y, p.2 = some y → y < N.length
theorem netB_of {N : Net} (h : NetOk N) : netB (netD N) = true := by
  have h1 := h.lo
  have h2 := h.hi
  show (!decide (((N.map lampD).length : Int) < 1) && !decide ((12 : Int) < ((N.map lampD).length : Int)) && ((N.map lampD).map (lampB (N.map lampD).length)).all id) = true
  rw [List.length_map, decide_eq_false (by omega), decide_eq_false (by omega)]
  simp only [Bool.not_false, Bool.true_and, List.map_map, List.all_eq_true]
  intro b hb
  obtain ⟨p, hp, rfl⟩ := List.mem_map.mp hb
  have e1 := h.len p hp
  have e2 := h.nx p hp
  obtain ⟨l, o⟩ := p
  have h3 : ¬ l < 1 := by simp only at e1; omega
  show (!decide (l < 1) && nxB N.length (nxD o)) = true
  rw [decide_eq_false h3]
  cases o with
  | none => rfl
  | some y =>
    have := e2 y rfl
    show (decide ((0 : Int) ≤ (y : Int)) && decide ((y : Int) < (N.length : Int))) = true
    rw [decide_eq_true (by omega), decide_eq_true (by omega)]
    rfl
/-- the next lamp -/
def nxt (N : Net) (x : Nat) : Option Nat := (N.getD x (1, none)).2
theorem nxt_get {N : Net} {x : Nat} {p : Int × Option Nat} (h : N[x]? = some p) : nxt N x = p.2 := by
  unfold nxt
  rw [List.getD_eq_getElem?_getD, h]
  rfl
theorem nxt_lt {N : Net} (h : NetOk N) {x y : Nat} (e : nxt N x = some y) : y < N.length := by
  by_cases hx : x < N.length
  · have g := List.getElem?_eq_getElem hx
    rw [nxt_get g] at e
    exact h.nx _ (List.getElem_mem hx) y e
  · unfold nxt at e
    rw [List.getD_eq_getElem?_getD, List.getElem?_eq_none (by omega)] at e
    cases e

/-! ### the way from a lamp: one step more while there is a lamp that was not come by -/
def lastOf (g : List Nat) : Nat := g.getLastD 0
def step (N : Net) (g : List Nat) : List Nat := match nxt N (lastOf g) with
  | none => g
  | some y => if y ∈ g then g else g ++ [y]
def itr {α : Type} (f : α → α) : Nat → α → α
  | 0, a => a
  | n + 1, a => f (itr f n a)
def path (N : Net) (x : Nat) : List Nat := itr (step N) N.length [x]
/-- the way's two parts -/
def cutAt (N : Net) (g : List Nat) : Nat := match nxt N (lastOf g) with
  | none => g.length
  | some y => g.idxOf y
def wayA (N : Net) (x : Nat) : List Nat := (path N x).take (cutAt N (path N x))
def wayR (N : Net) (x : Nat) : List Nat := (path N x).drop (cutAt N (path N x))
def natsD (g : List Nat) : PyData := .tuple (g.map fun n : Nat => .int (n : Int))
def wayD (N : Net) (x : Nat) : PyData := .tuple [natsD (wayA N x), natsD (wayR N x)]
theorem itr_fix {α : Type} {f : α → α} {a : α} (h : f a = a) : ∀ n, itr f n a = a
  | 0 => rfl
  | n + 1 => by
    show f (itr f n a) = a
    rw [itr_fix h n, h]
theorem itr_add {α : Type} {f : α → α} {a : α} (m : Nat) : ∀ n, itr f (m + n) a = itr f n (itr f m a)
  | 0 => rfl
  | n + 1 => by
    show f (itr f (m + n) a) = f (itr f n (itr f m a))
    rw [itr_add m n]
theorem last_app (g : List Nat) (y : Nat) : lastOf (g ++ [y]) = y := by
  unfold lastOf
  rw [List.getLastD_eq_getLast?, List.getLast?_concat]
  rfl
/-- what is gone so far: i steps on the way -/
structure Gone (N : Net) (x i : Nat) (g : List Nat) : Prop where
  it : g = itr (step N) i [x]
  len : g.length = i + 1
  nd : g.Nodup
  lt : ∀ y ∈ g, y < N.length
theorem Gone.start {N : Net} {x : Nat} (h : x < N.length) : Gone N x 0 [x] := ⟨rfl, rfl, by simp, by simpa using h⟩
theorem Gone.more {N : Net} (o : NetOk N) {x i : Nat} {g : List Nat} (a : Gone N x i g) {y : Nat} (h : nxt N (lastOf g) = some y) (hn : y ∉ g) : Gone N x (i + 1) (g ++ [y]) := by
  refine ⟨?_, by rw [List.length_append, a.len]; rfl, ?_, fun z hz => ?_⟩
  · show g ++ [y] = step N (itr (step N) i [x])
    rw [← a.it]
    unfold step
    rw [h]
    simp only [hn, if_false]
  · rw [List.nodup_append]
    refine ⟨a.nd, by simp, fun b hb c hc => ?_⟩
    have : c = y := by simpa using hc
    subst this
    exact fun e => hn (e ▸ hb)
  · rcases List.mem_append.mp hz with hz | hz
    · exact a.lt z hz
    · have : z = y := by simpa using hz
      rw [this]
      exact nxt_lt o h
theorem nodup_le : ∀ {n : Nat} {g : List Nat}, g.Nodup → (∀ y ∈ g, y < n) → g.length ≤ n
  | 0, g, _, h2 => by
    cases g with
    | nil => exact Nat.le_refl _
    | cons y r => exact absurd (h2 y List.mem_cons_self) (Nat.not_lt_zero _)
  | n + 1, g, h1, h2 => by
    by_cases hn : n ∈ g
    · have h3 := nodup_le (n := n) (g := g.erase n) (h1.erase n) fun y hy => by
        have q := (h1.mem_erase_iff).mp hy
        have := h2 y q.2
        have := q.1
        omega
      rw [List.length_erase_of_mem hn] at h3
      omega
    · have h3 := nodup_le (n := n) h1 fun y hy => by
        have := h2 y hy
        have : y ≠ n := fun e => hn (e ▸ hy)
        omega
      omega
theorem Gone.le {N : Net} {x i : Nat} {g : List Nat} (a : Gone N x i g) : g.length ≤ N.length := nodup_le a.nd a.lt
/-- where no step is left, that is the whole path -/
theorem Gone.done {N : Net} {x i : Nat} {g : List Nat} (a : Gone N x i g) (h : step N g = g) : path N x = g := by
  have hl := a.le
  have e : N.length = i + (N.length - i) := by have := a.len; omega
  unfold path
  rw [e, itr_add, ← a.it]
  exact itr_fix h _
theorem step_none {N : Net} {g : List Nat} (h : nxt N (lastOf g) = none) : step N g = g := by unfold step; rw [h]
theorem step_in {N : Net} {g : List Nat} {y : Nat} (h : nxt N (lastOf g) = some y) (hy : y ∈ g) : step N g = g := by unfold step; rw [h]; simp only [hy, if_true]
/-! ### nets and numbers in the heap -/
def natV (g : List Nat) : List V := g.map fun n : Nat => V.int (n : Int)
theorem natV_app (g : List Nat) (y : Nat) : natV (g ++ [y]) = natV g ++ [.int y] := by unfold natV; rw [List.map_append]; rfl
theorem natV_len (g : List Nat) : (natV g).length = g.length := by unfold natV; rw [List.length_map]
theorem natV_get {g : List Nat} {i y : Nat} (h : g[i]? = some y) : (natV g)[i]? = some (.int y) := by unfold natV; rw [List.getElem?_map, h]; rfl
theorem natV_flat (g : List Nat) : (natV g).all flatV = true := by
  unfold natV
  rw [List.all_eq_true]
  intro v hv
  obtain ⟨n, _, rfl⟩ := List.mem_map.mp hv
  rfl
theorem inV_natV {x : Nat} (g : List Nat) : inV (.int x) (natV g) = decide (x ∈ g) := by
  rw [Bool.eq_iff_iff, decide_eq_true_iff]
  unfold inV natV
  rw [List.any_eq_true]
  constructor
  · rintro ⟨v, hv, e⟩
    obtain ⟨n, hn, rfl⟩ := List.mem_map.mp hv
    have e1 : ((n : Int) == (x : Int)) = true := e
    have e2 : n = x := by have := beq_iff_eq.mp e1; omega
    exact e2 ▸ hn
  · intro h
    exact ⟨_, List.mem_map.mpr ⟨x, h, rfl⟩, by show ((x : Int) == (x : Int)) = true; simp⟩
theorem nwA_natV {H H1 : Hp} : ∀ g : List Nat, NwA H H1 (natV g) (g.map fun n : Nat => PyData.int (n : Int))
  | [] => .nil
  | n :: r => .cons (.int _) (nwA_natV r)
theorem dx_nx {S : List Addr} {H : Hp} {v : V} {o : Option Nat} (h : Dx S H v (nxD o)) : v = nxV o := by
  cases o with
  | none => cases h; rfl
  | some n => cases h; rfl
theorem net_at {S : List Addr} {H : Hp} {v : V} {N : Net} (h : Dx S H v (netD N)) : ∃ (ad : Addr) (xs : List V), v = .ref ad ∧ ad ∉ S ∧ H ad = some (.tup xs) ∧ xs.length = N.length ∧
    ∀ (x : Nat) (p : Int × Option Nat), N[x]? = some p → ∃ la : Addr, xs[x]? = some (.ref la) ∧ la ∉ S ∧ H la = some (.tup [.int p.1, nxV p.2]) := by
  cases h with
  | @tup ad xs ds n h r =>
    refine ⟨ad, xs, rfl, n, h, by rw [r.len, List.length_map], fun x p hp => ?_⟩
    obtain ⟨w, hw, hx⟩ := r.get' (i := x) (d := lampD p) (by rw [List.getElem?_map, hp]; rfl)
    cases hx with
    | @tup la ys es m h2 r2 =>
      cases r2 with
      | cons a1 r3 =>
        cases r3 with
        | cons a2 r4 =>
          cases r4
          cases a1
          rw [dx_nx a2] at h2
          exact ⟨la, hw, m, h2⟩
theorem natV_cut0 {g : List Nat} {i : Nat} (h : i ≤ g.length) : cutV (natV g) none (some (i : Int)) = natV (g.take i) := by
  unfold cutV
  rw [show HT.sIx (natV g).length (natV g).length (some (i : Int)) = min i (natV g).length from HT.sIx_nat _ _ i, HT.sIx_none, natV_len, Nat.min_eq_left h, Nat.sub_zero, List.drop_zero]
  unfold natV
  rw [List.map_take]
theorem natV_cut1 {g : List Nat} {i : Nat} (h : i ≤ g.length) : cutV (natV g) (some (i : Int)) none = natV (g.drop i) := by
  unfold cutV
  rw [show HT.sIx (natV g).length 0 (some (i : Int)) = min i (natV g).length from HT.sIx_nat _ _ i, HT.sIx_none, natV_len, Nat.min_eq_left h]
  unfold natV
  rw [← List.map_drop, List.take_of_length_le (by rw [List.length_map, List.length_drop]; exact Nat.le_refl _)]
theorem idx_ne {g : List Nat} {j u y : Nat} (hj : j < g.idxOf y) (hu : g[j]? = some u) : u ≠ y := fun e => by
  have h := List.not_of_lt_findIdx (p := (· == y)) (xs := g) hj
  obtain ⟨h1, h2⟩ := List.getElem?_eq_some_iff.mp hu
  rw [h2, e] at h
  simp at h
theorem big_log {m : Int} (h : 0 < m) (h2 : m < 2 ^ 8000) : m.natAbs.log2 < 9000 := by
  have h3 : m.natAbs < 2 ^ 8000 := by
    have e : ((2 ^ 8000 : Nat) : Int) = (2 : Int) ^ 8000 := by rw [Int.natCast_pow]; rfl
    have : (m.natAbs : Int) < ((2 ^ 8000 : Nat) : Int) := by rw [e]; omega
    exact Int.ofNat_lt.mp this
  exact Nat.lt_of_lt_of_le (PySem.Flt.log2_lt_of (by decide) h3) (by decide)
theorem at_mem {xs : List V} {r : Int} (h0 : 0 ≤ r) (h1 : r < (xs.length : Int)) : ∃ v, atI xs r = some v ∧ v ∈ xs := by
  obtain ⟨j, rfl⟩ : ∃ j : Nat, r = (j : Int) := ⟨r.toNat, by omega⟩
  have hj : j < xs.length := by omega
  exact ⟨xs[j], atI_nat (List.getElem?_eq_getElem hj), List.getElem_mem hj⟩
theorem small64' {n : Nat} (h : n ≤ 1000) : n ≤ sizeLine := Nat.le_trans h (by decide)
/-- what a walk of so many turns has come by: a turn may have stood still -/
structure Been (N : Net) (x i : Nat) (g : List Nat) : Prop where
  it : g = itr (step N) i [x]
  pos : 1 ≤ g.length
  nd : g.Nodup
  lt : ∀ y ∈ g, y < N.length
  st : g.length = i + 1 ∨ step N g = g
theorem Been.start {N : Net} {x : Nat} (h : x < N.length) : Been N x 0 [x] := ⟨rfl, Nat.le_refl _, by simp, by simpa using h, .inl rfl⟩
theorem Been.still {N : Net} {x i : Nat} {g : List Nat} (a : Been N x i g) (h : step N g = g) : Been N x (i + 1) g := by
  refine ⟨?_, a.pos, a.nd, a.lt, .inr h⟩
  show g = step N (itr (step N) i [x])
  rw [← a.it, h]
theorem Been.more {N : Net} (o : NetOk N) {x i : Nat} {g : List Nat} (a : Been N x i g) {y : Nat} (h : nxt N (lastOf g) = some y) (hn : y ∉ g) : Been N x (i + 1) (g ++ [y]) := by
  have e : step N g = g ++ [y] := by unfold step; rw [h]; simp only [hn, if_false]
  have hl : g.length = i + 1 := by
    rcases a.st with h | h
    · exact h
    · rw [e] at h
      have := congrArg List.length h
      simp at this
  refine ⟨?_, by simp, ?_, fun z hz => ?_, .inl (by rw [List.length_append, hl]; rfl)⟩
  · show g ++ [y] = step N (itr (step N) i [x])
    rw [← a.it, e]
  · rw [List.nodup_append]
    refine ⟨a.nd, by simp, fun b hb c hc => ?_⟩
    have : c = y := by simpa using hc
    subst this
    exact fun e => hn (e ▸ hb)
  · rcases List.mem_append.mp hz with hz | hz
    · exact a.lt z hz
    · have : z = y := by simpa using hz
      rw [this]
      exact nxt_lt o h
theorem Been.le {N : Net} {x i : Nat} {g : List Nat} (a : Been N x i g) : g.length ≤ N.length := nodup_le a.nd a.lt
theorem Been.done {N : Net} {x : Nat} {g : List Nat} (a : Been N x N.length g) : path N x = g ∧ step N g = g := by
  refine ⟨a.it.symm, ?_⟩
  rcases a.st with h | h
  · have := a.le
    omega
  · exact h
theorem step_mem {N : Net} {g : List Nat} {y : Nat} (h : nxt N (lastOf g) = some y) (e : step N g = g) : y ∈ g := by
  by_cases hn : y ∈ g
  · exact hn
  · unfold step at e
    rw [h] at e
    simp only [hn, if_false] at e
    have := congrArg List.length e
    simp at this
theorem last_lt {N : Net} {x i : Nat} {g : List Nat} (a : Been N x i g) : lastOf g < N.length := by
  have h := a.pos
  unfold lastOf
  rw [List.getLastD_eq_getLast?]
  have hne : g ≠ [] := fun e => by rw [e] at h; exact absurd h (by decide)
  rw [List.getLast?_eq_some_getLast hne]
  exact a.lt _ (List.getLast_mem hne)
theorem natV_last {N : Net} {x i : Nat} {g : List Nat} (a : Been N x i g) : atI (natV g) (-1) = some (.int (lastOf g : Nat)) := by
  have h := a.pos
  have hne : g ≠ [] := fun e => by rw [e] at h; exact absurd h (by decide)
  have e := (List.dropLast_concat_getLast hne).symm
  have el : lastOf g = g.getLast hne := by
    unfold lastOf
    rw [List.getLastD_eq_getLast?, List.getLast?_eq_some_getLast hne]
    rfl
  have e2 : natV g = natV g.dropLast ++ [.int (g.getLast hne : Nat)] := by rw [← natV_app]; exact congrArg natV e
  rw [el, e2]
  exact atI_last _ _
end Em

namespace Em
open PySem PySem.Spec PyProof.Rows L2 Qt

/-! ### nets and ways as data: shown, compared -/
def Short (N : Net) : Prop := ∀ p ∈ N, p.1 < 10 ^ 60
theorem lamp_lay (p : Int × Option Nat) : (lampD p).canLay0 = true := by
  obtain ⟨l, o⟩ := p
  cases o <;> rfl
theorem all_lay {α : Type} {f : α → PyData} (h : ∀ a, (f a).canLay0 = true) : ∀ xs : List α, PyData.canLayAll0 (xs.map f) = true
  | [] => rfl
  | x :: r => by
    show ((f x).canLay0 && PyData.canLayAll0 (r.map f)) = true
    rw [h x, all_lay h r]
    rfl
theorem all_depth {α : Type} {f : α → PyData} {n : Nat} (h : ∀ a, (f a).depth ≤ n) : ∀ xs : List α, PyData.depthAll (xs.map f) ≤ n
  | [] => Nat.zero_le _
  | x :: r => by
    show max (f x).depth (PyData.depthAll (r.map f)) ≤ n
    exact Nat.max_le.mpr ⟨h x, all_depth h r⟩
theorem net_lay (N : Net) : (netD N).canLay0 = true := by
  show PyData.canLayAll0 (N.map lampD) = true
  exact all_lay lamp_lay N
theorem lamp_depth (p : Int × Option Nat) : (lampD p).depth ≤ 1 := by
  obtain ⟨l, o⟩ := p
  cases o <;> exact Nat.le_refl _
theorem net_depth (N : Net) : (netD N).depth ≤ 2 := by
  show PyData.depthAll (N.map lampD) + 1 ≤ 2
  have := all_depth lamp_depth N
  omega
theorem net_noDict (N : Net) : (netD N).hasDict = false := PyData.hasDict_of_canLay _ (net_lay N)
theorem net_shaped (N : Net) : SeqAt.shaped (netD N) = true := by
  unfold SeqAt.shaped
  rw [net_lay, decide_eq_true (Nat.le_trans (net_depth N) (by decide))]
  rfl
theorem nats_lay (g : List Nat) : (natsD g).canLay0 = true := by
  show PyData.canLayAll0 (g.map _) = true
  exact all_lay (fun _ => rfl) g
theorem nats_depth (g : List Nat) : (natsD g).depth ≤ 1 := by
  show PyData.depthAll (g.map _) + 1 ≤ 1
  have := all_depth (f := fun n : Nat => PyData.int (n : Int)) (n := 0) (fun _ => Nat.le_refl _) g
  omega
theorem way_lay (N : Net) (x : Nat) : (wayD N x).canLay0 = true := by
  show ((natsD _).canLay0 && ((natsD _).canLay0 && true)) = true
  rw [nats_lay, nats_lay]
  rfl
theorem way_depth (N : Net) (x : Nat) : (wayD N x).depth ≤ 2 := by
  show max (natsD _).depth (max (natsD _).depth 0) + 1 ≤ 2
  have h1 := nats_depth (wayA N x)
  have h2 := nats_depth (wayR N x)
  have : max (natsD (wayA N x)).depth (max (natsD (wayR N x)).depth 0) ≤ 1 := Nat.max_le.mpr ⟨h1, Nat.max_le.mpr ⟨h2, Nat.zero_le _⟩⟩
  omega
theorem way_noDict (N : Net) (x : Nat) : (wayD N x).hasDict = false := PyData.hasDict_of_canLay _ (way_lay N x)
theorem way_shaped (N : Net) (x : Nat) : SeqAt.shaped (wayD N x) = true := by
  unfold SeqAt.shaped
  rw [way_lay, decide_eq_true (Nat.le_trans (way_depth N x) (by decide))]
  rfl
/-! a number of few signs -/
theorem small_log {i : Int} (h : i.natAbs < 10 ^ 60) : i.natAbs.log2 < 200 := PySem.Flt.log2_lt_of (by decide) (Nat.lt_of_lt_of_le h (by decide))
theorem small_shown {i : Int} (h : i.natAbs < 10 ^ 60) : (PyData.shown (.int i)).length ≤ 61 := by
  have e := int_text_length_le10 (k := 60) (by decide) h
  show (Str.ofString (toString i)).length ≤ 61
  rw [PySem.ofString_length]
  exact e
theorem small_weight {i : Int} (h : i.natAbs < 10 ^ 60) : (PyData.int i).weight ≤ 200 := by
  have := small_log h
  show (if i == 0 then 0 else i.natAbs.log2 + 1) ≤ 200
  split <;> omega
structure SmallD (d : PyData) : Prop where
  sh : d.showable = true
  lv : d.leavesShort 61 = true
  wt : d.weight ≤ 600
theorem small_int {i : Int} (h : i.natAbs < 10 ^ 60) : (PyData.int i).showable = true ∧ (PyData.int i).leavesShort 61 = true := by
  have h1 := small_log h
  have h2 := small_shown h
  exact ⟨by show decide _ = true; exact decide_eq_true (by omega), by show decide _ = true; exact decide_eq_true h2⟩
theorem lamp_small {p : Int × Option Nat} (h1 : 1 ≤ p.1) (h2 : p.1 < 10 ^ 60) (h3 : ∀ y, p.2 = some y → y < 12) : SmallD (lampD p) := by
  obtain ⟨l, o⟩ := p
  have hl : l.natAbs < 10 ^ 60 := by simp only at h1 h2; omega
  obtain ⟨a1, a2⟩ := small_int hl
  have a3 := small_weight hl
  cases o with
  | none =>
    refine ⟨?_, ?_, ?_⟩
    · show ((PyData.int l).showable && (true && true)) = true
      rw [a1]; rfl
    · show ((PyData.int l).leavesShort 61 && (true && true)) = true
      rw [a2]; rfl
    · show (PyData.int l).weight + 1 + (0 + 1 + 0) ≤ 600
      omega
  | some y =>
    have := h3 y rfl
    have hy : (y : Int).natAbs < 10 ^ 60 := by omega
    obtain ⟨b1, b2⟩ := small_int hy
    have b3 := small_weight hy
    refine ⟨?_, ?_, ?_⟩
    · show ((PyData.int l).showable && ((PyData.int (y : Int)).showable && true)) = true
      rw [a1, b1]; rfl
    · show ((PyData.int l).leavesShort 61 && ((PyData.int (y : Int)).leavesShort 61 && true)) = true
      rw [a2, b2]; rfl
    · show (PyData.int l).weight + 1 + ((PyData.int (y : Int)).weight + 1 + 0) ≤ 600
      omega
theorem all_small {α : Type} {f : α → PyData} : ∀ xs : List α, (∀ a ∈ xs, SmallD (f a)) → PyData.showableAll (xs.map f) = true ∧ PyData.leavesShortAll 61 (xs.map f) = true ∧ PyData.weightAll (xs.map f) ≤ 601 * xs.length
  | [], _ => ⟨rfl, rfl, Nat.zero_le _⟩
  | x :: r, h => by
    have a := h x List.mem_cons_self
    obtain ⟨b1, b2, b3⟩ := all_small r fun y hy => h y (List.mem_cons_of_mem _ hy)
    have c := a.wt
    refine ⟨?_, ?_, ?_⟩
    · show ((f x).showable && PyData.showableAll (r.map f)) = true
      rw [a.sh, b1]; rfl
    · show ((f x).leavesShort 61 && PyData.leavesShortAll 61 (r.map f)) = true
      rw [a.lv, b2]; rfl
    · show (f x).weight + 1 + PyData.weightAll (r.map f) ≤ 601 * (r.length + 1)
      omega
theorem net_show {N : Net} (o : NetOk N) (s : Short N) : (netD N).showable = true ∧ (netD N).shown.length ≤ sizeLine := by
  have hi := o.hi
  obtain ⟨h1, h2, h3⟩ := all_small (f := lampD) N fun p hp => lamp_small (o.len p hp) (s p hp) fun y hy => by
    have := o.nx p hp y hy
    omega
  refine ⟨h1, ?_⟩
  have h4 := PyData.shown_le 61 (by decide) (netD N) h2
  have h5 : (netD N).weight ≤ 601 * 12 := Nat.le_trans h3 (Nat.mul_le_mul_left _ hi)
  have h6 : (61 + 2) * (netD N).weight ≤ 63 * (601 * 12) := Nat.mul_le_mul_left _ h5
  rw [sizeLine_eq]
  omega
/-! a way in the heap -/
theorem ints_at {S : List Addr} {H : Hp} : ∀ {xs : List V} (g : List Nat), DxA S H xs (g.map fun n : Nat => PyData.int (n : Int)) → xs = natV g
  | _, [], h => by
    cases h
    rfl
  | _, n :: r, h => by
    cases h with
    | cons a t =>
      cases a
      rw [ints_at r t]
      rfl
theorem nats_at {S : List Addr} {H : Hp} {v : V} {g : List Nat} (h : Dx S H v (natsD g)) : ∃ a : Addr, v = .ref a ∧ a ∉ S ∧ H a = some (.tup (natV g)) := by
  cases h with
  | @tup a xs ds n h r => exact ⟨a, rfl, n, by rw [h, ints_at g r]⟩
theorem way_at {S : List Addr} {H : Hp} {v : V} {N : Net} {x : Nat} (h : Dx S H v (wayD N x)) : ∃ a b c : Addr, v = .ref a ∧ a ∉ S ∧ H a = some (.tup [.ref b, .ref c]) ∧ H b = some (.tup (natV (wayA N x))) ∧ H c = some (.tup (natV (wayR N x))) ∧ b ∉ S ∧ c ∉ S := by
  cases h with
  | @tup a xs ds n h r =>
    cases r with
    | cons a1 r =>
      cases r with
      | cons a2 r =>
        cases r
        obtain ⟨b, rfl, nb, hb⟩ := nats_at a1
        obtain ⟨c, rfl, nc, hc⟩ := nats_at a2
        exact ⟨a, b, c, rfl, n, h, hb, hc, nb, nc⟩
theorem step_len (N : Net) (g : List Nat) : (step N g).length ≤ g.length + 1 := by
  unfold step
  split
  · omega
  · split
    · omega
    · rw [List.length_append]
      exact Nat.le_refl _
theorem itr_len (N : Net) (x : Nat) : ∀ n, (itr (step N) n [x]).length ≤ n + 1
  | 0 => Nat.le_refl _
  | n + 1 => by
    have h1 := itr_len N x n
    have h2 := step_len N (itr (step N) n [x])
    show (step N (itr (step N) n [x])).length ≤ _
    omega
theorem way_len {N : Net} (o : NetOk N) (x : Nat) : (natV (wayA N x)).length + (natV (wayR N x)).length ≤ 13 := by
  have h1 : (path N x).length ≤ N.length + 1 := itr_len N x N.length
  have h2 := o.hi
  rw [natV_len, natV_len]
  unfold wayA wayR
  rw [List.length_take, List.length_drop]
  omega
/-- t + u, whichever way it is made -/
theorem catA_any {K : PySem.W.Frag} {x y : V} {H : Hp} {Q : VK} {a b : Addr} {xs ys : List V} (hx : x = .ref a) (hy : y = .ref b) (h1 : SqT K H a xs) (h2 : SqT K H b ys) (hl : xs.length + ys.length ≤ sizeLine) (q : ∀ p H', SqT K H' p (xs ++ ys) → Kp [] H H' → Q (.ref p) H') : rCatA K x y H Q := by
  refine ⟨a, b, xs, ys, hx, hy, h1, h2, hl, fun e => ?_, fun _ e => ?_, fun _ _ p np => ?_⟩
  · refine q b H ?_ .rfl'
    rw [e]
    exact h2
  · refine q a H ?_ .rfl'
    rw [e, List.append_nil]
    exact h1
  · exact q p _ (SqT.of upd_same) (Kp.new np)
theorem Kp.seqT {S : List Addr} {K : PySem.W.Frag} {H H1 : Hp} (k : Kp S H H1) {b : Addr} {xs : List V} (nb : b ∉ S) (h : SqT K H b xs) : SqT K H1 b xs := by
  rcases h with (h | ⟨o, h⟩) | h
  · exact .inl (.inl (k.tup nb h))
  · exact .inl (.inr ⟨o, k.at_ b _ nb h fun ps z => by cases z⟩)
  · exact .inr h
end Em

namespace Em
open PySem PySem.Spec PyProof.Rows L2 Qt

/-! ### sorted(xs), xs a list of tuples of ints, none empty, of any lengths -/
def lexL : List Int → List Int → Bool
  | _, [] => false
  | [], _ :: _ => true
  | a :: as, b :: bs => if a = b then lexL as bs else decide (a < b)
theorem lexL_cons {a b : Int} {as bs : List Int} : lexL (a :: as) (b :: bs) = if a = b then lexL as bs else decide (a < b) := rfl
theorem lexL_asym : ∀ x y : List Int, lexL x y = true → lexL y x = false
  | _, [], h => by
    unfold lexL at h
    cases h
  | [], _ :: _, _ => rfl
  | a :: as, b :: bs, h => by
    rw [lexL_cons] at h ⊢
    by_cases e : a = b
    · rw [if_pos e] at h
      rw [if_pos e.symm]
      exact lexL_asym as bs h
    · rw [if_neg e] at h
      rw [if_neg (fun z => e z.symm)]
      have := of_decide_eq_true h
      exact decide_eq_false (by omega)
theorem lexL_tr : ∀ x y z : List Int, lexL y x = false → lexL z y = false → lexL z x = false
  | [], _, z, _, _ => by cases z <;> rfl
  | a :: as, [], _, h, _ => by cases h
  | a :: as, b :: bs, [], _, h => by cases h
  | a :: as, b :: bs, c :: cs, h1, h2 => by
    rw [lexL_cons] at h1 h2 ⊢
    by_cases e1 : b = a
    · by_cases e2 : c = b
      · rw [if_pos e1] at h1
        rw [if_pos e2] at h2
        rw [if_pos (e2.trans e1)]
        exact lexL_tr as bs cs h1 h2
      · rw [if_neg e2] at h2
        have := of_decide_eq_false h2
        rw [if_neg (by omega)]
        exact decide_eq_false (by omega)
    · rw [if_neg e1] at h1
      have q1 := of_decide_eq_false h1
      by_cases e2 : c = b
      · rw [if_neg (by omega)]
        exact decide_eq_false (by omega)
      · rw [if_neg e2] at h2
        have q2 := of_decide_eq_false h2
        rw [if_neg (by omega)]
        exact decide_eq_false (by omega)
theorem lexL_swo {α : Type} (k : α → List Int) : SrtO.Swo fun v u => lexL (k v) (k u) := ⟨fun x y => lexL_asym _ _, fun x y z => lexL_tr _ _ _⟩
/-- a tuple of ints -/
def TupN (h : Heap) (v : Value) (ns : List Int) : Prop := ∃ (a : Addr) (o : Obj) (its : Array Value) (n : Nat), v = .ref a ∧ h.get? a = some o ∧ o.cls = .type "tuple" ∧ o.data = .seq its n ∧ IntsAre its.toList ns
theorem TupN.keeps {h h' : Heap} {v : Value} {ns : List Int} (p : TupN h v ns) (k : ∀ b o, h.get? b = some o → o.cls = .type "tuple" → h'.get? b = some o) : TupN h' v ns := by
  obtain ⟨a, o, its, n, e, ho, hc, r⟩ := p
  exact ⟨a, o, its, n, e, k _ _ ho hc, hc, r⟩
theorem lex_go {prog : Program} {w : World} {A : Around} {s : Shared} {b fin : Bool} {Q : Bool → Shared → Prop} : ∀ {xs ys : List Value} {ns ms : List Int} (i : Nat), IntsAre xs ns → IntsAre ys ms → fin = decide (ns.length < ms.length) → Q (lexL ns ms) s → PySem.W.KatLex prog w A b fin Q (xs.zip ys) i s := by
  intro xs ys ns ms i hx hy hf h
  induction hx generalizing ys ms i with
  | nil =>
    cases hy with
    | nil => exact PySem.W.kat_nil (by rw [hf]; exact h)
    | cons q u hy => exact PySem.W.kat_nil (by rw [hf, decide_eq_true (by simp)]; exact h)
  | @cons p t xs ns hx ih =>
    cases hy with
    | nil => exact PySem.W.kat_nil (by rw [hf, decide_eq_false (by simp)]; exact h)
    | @cons q u ys ms hy =>
      show PySem.W.KatLex prog w A b fin Q ((Value.int p t, Value.int q u) :: xs.zip ys) i s
      refine PySem.W.kat_cons (wpAny_eqBool_int ?_)
      rw [lexL_cons] at h
      by_cases e : p = q
      · subst e
        rw [if_pos rfl] at h
        rw [beq_self_eq_true]
        refine PySem.W.kat_yes (ih (i + 1) hy ?_ h)
        rw [hf]
        simp
      · rw [if_neg e] at h
        rw [show (p == q) = false from beq_eq_false_iff_ne.mpr e]
        exact PySem.W.kat_no (TS.oneLt_ints _ h)
theorem tupn_cmp {prog : Program} {w : World} {A : Around} {s : Shared} {vs : List Value} {k : Value → List Int} (hp : ∀ v ∈ vs, TupN s.heap v (k v)) : SrtO.Cmp prog w A s (tuples' true) (fun p => p.1 ∈ vs) (SrtO.lt2 fun v u => lexL (k v) (k u)) := by
  intro p q hm hm'
  obtain ⟨a, o, its, n, e, ho, hc, hd, hi⟩ := hp _ hm
  obtain ⟨a', o', its', n', e', ho', hc', hd', hi'⟩ := hp _ hm'
  show wpAny (model prog w) A (keyLt' (tuples' true) p.1 q.1) (fun r s' => s' = s ∧ r = lexL (k p.1) (k q.1)) (fun _ _ => False) s
  generalize k p.1 = x at hi ⊢
  generalize k q.1 = y at hi' ⊢
  rw [e, e']
  refine PySem.W.kat_lt ho hd ho' hd' (lex_go 0 hi hi' ?_ ⟨rfl, rfl⟩)
  have h1 := hi.length
  have h2 := hi'.length
  rw [← h1, ← h2]
  rfl
theorem tupn_firsts {h : Heap} : ∀ vs : List Value, (∀ v ∈ vs, ∃ ns, ns ≠ [] ∧ TupN h v ns) → ∃ fs, PySem.W.KatTups h vs fs ∧ fs.length = vs.length ∧ ∀ f, f ∈ fs → ∃ n t, f = Value.int n t
  | [], _ => ⟨[], PySem.W.KatTups.nil, rfl, fun f hf => by simp at hf⟩
  | v :: vs, x => by
    obtain ⟨fs, k, hl, hi⟩ := tupn_firsts vs fun u hu => x u (List.mem_cons_of_mem _ hu)
    obtain ⟨ns, hne, a, o, xs, n, rfl, ho, hc, hdt, i⟩ := x v (List.mem_cons_self ..)
    obtain ⟨y, ys, e⟩ : ∃ y ys, xs.toList = y :: ys := by
      cases q : xs.toList with
      | nil =>
        rw [q] at i
        have l := i.length
        rw [List.length_nil] at l
        exact absurd (List.length_eq_zero_iff.mp l.symm) hne
      | cons y ys => exact ⟨y, ys, rfl⟩
    obtain ⟨m, t, hy⟩ := i.all y (by rw [e]; exact List.mem_cons_self ..)
    refine ⟨y :: fs, PySem.W.KatTups.cons ho hc hdt ?_ k, by simp [hl], ?_⟩
    · have z := congrArg (fun l : List Value => l[0]?) e
      simpa using z
    · intro f hf
      rcases List.mem_cons.mp hf with rfl | hf
      · exact ⟨m, t, hy⟩
      · exact hi f hf
theorem tupn_sortable {prog : Program} {w : World} {A : Around} {s : Shared} {a : Addr} {vs : List Value} {k : Value → List Int} (h0 : 0 < vs.length) (hp : ∀ v ∈ vs, TupN s.heap v (k v)) (hne : ∀ v ∈ vs, k v ≠ []) (ha : ∀ o, s.heap.get? a = some o → o.cls ≠ .type "tuple") : SrtO.SortableO prog w A s a vs fun v u => lexL (k v) (k u) := by
  intro h' keep
  have hp' : ∀ v ∈ vs, TupN h' v (k v) := fun v hm => (hp v hm).keeps fun b o e c => keep b o (fun z => by subst z; exact ha o e c) e
  obtain ⟨fs, h1, h2, h3⟩ := tupn_firsts vs fun v hm => ⟨_, hne v hm, hp' v hm⟩
  refine ⟨tuples' true, fun Q E hq => ?_, tupn_cmp hp'⟩
  refine PySem.W.kat_kind (T := .type "int") h1 (by omega) (fun f hm => ?_) (by rfl) ?_
  · obtain ⟨x, t, rfl⟩ := h3 f hm
    exact PySem.W.Looks.now
  · have e : (Value.type "int" != Value.type "tuple") = true := by first | decide +kernel | rfl | decide
    rw [e]
    exact hq
def rSortedN (K : PySem.W.Frag) : List V → Hp → VK → Prop := fun vs H Q => ∃ (a : Addr) (xs : List V) (k : V → List Int), vs = [V.ref a] ∧ SqL K H a xs ∧ (∀ x ∈ xs, k x ≠ [] ∧ ∃ t, x = V.ref t ∧ H t = some (.tup ((k x).map V.int))) ∧
  ∀ ys p, SrtO.Srtd (fun v u => lexL (k v) (k u)) ys → SrtO.Stb (fun v u => lexL (k v) (k u)) ys xs → H p = none → Q (.ref p) (upd H p (.lst ys))
section
variable {X : Cx}
theorem cr_sortedN : CallR X (.builtin "sorted") (rSortedN X.K) := by
  intro pins s σ H vs us Q I r h
  obtain ⟨a, xs, k, rfl, hs, hx, q⟩ := h
  obtain ⟨its, rv, hl, hz⟩ := I.list hs
  obtain ⟨u, rfl, ru⟩ := vals1 r
  obtain rfl : u = Value.ref a := ru
  obtain ⟨e1, e2⟩ := refs_back rv fun x m => by
    obtain ⟨_, t, e, _⟩ := hx x m
    exact ⟨t, e⟩
  have tn : ∀ v ∈ its, TupN s.heap v (k (backV v)) ∧ k (backV v) ≠ [] := fun v hv => by
    obtain ⟨t, rfl⟩ := e2 v hv
    have hm : V.ref t ∈ xs := by rw [e1]; exact List.mem_map.mpr ⟨_, hv, rfl⟩
    obtain ⟨hne, t', e, ht⟩ := hx _ hm
    cases e
    obtain ⟨_, its2, r2, o, ho, hc, n, hd⟩ := I.hok _ _ ht
    exact ⟨⟨t, o, _, n, rfl, ho, hc, hd, by rw [List.toList_toArray]; exact r2.ints⟩, hne⟩
  refine SrtO.sorted_ord (lexL_swo fun u => k (backV u)) hl.isList (by rw [← rv.length]; exact hz) (fun h2 h₁ a ha kk => ?_) fun out h1 h2 => ?_
  · refine tupn_sortable (s := { s with heap := h₁ }) (by omega) (fun v hm => (tn v hm).1.keeps fun b o e _ => (kk b o e).2) (fun v hm => (tn v hm).2) fun o e => ?_
    have e' : some o = some (seqObj "list" its.toArray 0) := e.symm.trans ha
    cases e'
    intro c
    exact absurd (Value.type.inj c) (by decide)
  · have h3 : ∀ u ∈ out, ∃ a, u = Value.ref a := fun u hu => e2 u (h2.perm.mem_iff.mp hu)
    obtain ⟨n, hn⟩ := sortedAll_at s.heap its out.toArray
    have hb : SrtO.Stb (fun v u => lexL (k v) (k u)) (out.map backV) xs := by
      rw [e1]
      exact SrtO.Stb.map (lexL_swo k) backV h2
    refine ⟨.ref _, upd H _ (.lst (out.map backV)), I.laid (t' := s.toks) (fun b o e => sortedAll_old e) (Nat.le_succ _) ⟨?_, out, n, vals_back h3, hn⟩, rfl, q _ _ (SrtO.srtd_map h1) hb (I.hok.fresh (Nat.le_succ _))⟩
    rw [hb.len]
    exact hz
end

/-! ### min(t), t a tuple of ints -/
section
variable {prog : Program} {w : World} {A : Around} {E : Value → Shared → Prop} {s : Shared} {l : Addr}
theorem min_intTup {xs : Array (Int × Tok)} {Q : Value → Shared → Prop} (hh : A.handled = none) (hl : s.heap.IsTuple l (intItems xs)) (hne : 0 < xs.size)
    (h : ∀ v h' tk, (intItems xs)[argBest (fun i j => decide (numAt xs i < numAt xs j)) (xs.size - 1)]? = some v → (∀ b o, s.heap.get? b = some o → h'.get? b = some o) → Q v { s with heap := h', toks := tk }) :
    wpAny (model prog w) A (call (.builtin "min") [.ref l]) Q E s := by
  have hlt : l < s.heap.objs.size := by obtain ⟨_, e, _⟩ := hl; exact Heap.lt_size e
  refine call_min_walk (wpAny_pyIter_tuple hl ?_)
  refine ⟨_, [_, l], [_], _, _, _, _, rfl, Walks.tuple (A := A.in1) hh _ l (Nat.ne_of_lt hlt) (intItems xs), ⟨⟨_, Heap.get?_push_size _ rfl, rfl, rfl⟩, hl.push _⟩, fun c hc => ?_, by simpa [intItems] using hne, CmpOf.ints_lt (numAt xs) (fun _ _ => intItems_at), fun v h' tk hP hk => ?_⟩
  · show c < (s.heap.push _).objs.size
    rw [Heap.size_push]
    rcases List.mem_cons.mp hc with rfl | hc
    · exact Nat.lt_succ_self _
    · rcases List.mem_cons.mp hc with rfl | hc
      · exact Nat.lt_succ_of_lt hlt
      · cases hc
  · refine h v h' tk (by simpa [intItems] using hP) fun c o e => hk c o (fun hm => ?_) (Heap.get?_push_of_some _ e)
    rcases List.mem_cons.mp hm with e1 | hm
    · exact absurd (e1 ▸ Heap.lt_size e) (Nat.lt_irrefl _)
    · cases hm
theorem min_rawT {its : List Value} {ns : List Int} {Q : Value → Shared → Prop} (hh : A.handled = none) (hl : s.heap.IsTuple l its.toArray) (hi : IntsAre its ns) (hne : 0 < ns.length)
    (h : ∀ h' tk M t', (∀ b o, s.heap.get? b = some o → h'.get? b = some o) → M ∈ ns → (∀ a, a ∈ ns → M ≤ a) → Q (.int M t') { s with heap := h', toks := tk }) : wpAny (model prog w) A (call (.builtin "min") [.ref l]) Q E s := by
  obtain ⟨xs, e⟩ := hi.allInts.items
  have hn : numsOf (intItems xs).toList = ns := by rw [← e]; exact hi.numsOf
  rw [nums_intItems] at hn
  subst hn
  rw [e] at hl
  have hsz : 0 < xs.size := by simpa using hne
  refine min_intTup hh hl hsz fun v h' tk hv hk => ?_
  obtain ⟨t, rfl⟩ := intItems_at hv
  obtain ⟨h1, h2⟩ := argBest_lt (numAt xs) (xs.size - 1)
  refine h h' tk _ t hk ?_ fun a ha => ?_
  · rw [numAt_eq]; exact PySem.getD_mem (by rw [List.length_map, Array.length_toList]; omega)
  · obtain ⟨j, hj, rfl⟩ := mem_getD ha
    rw [List.length_map, Array.length_toList] at hj
    rw [← numAt_eq]; exact h2 j (by omega)
end
def rMinT (K : PySem.W.Frag) : List V → Hp → VK → Prop := fun vs H Q => ∃ (a : Addr) (ns : List Int), vs = [V.ref a] ∧ SqT K H a (ns.map V.int) ∧ 0 < ns.length ∧ ∀ m, m ∈ ns → (∀ y, y ∈ ns → m ≤ y) → Q (.int m) H
theorem cr_minT {X : Cx} (hc : X.calm = true) : CallR X (.builtin "min") (rMinT X.K) := by
  intro pins s σ H vs us Q I r h
  obtain ⟨a, ns, rfl, hs, hne, q⟩ := h
  obtain ⟨its, rv, hl, _⟩ := I.tuple hs
  rw [Vals.ref1 r]
  exact min_rawT (I.ok.hd hc) hl rv.ints hne fun h' tk m t' hk h1 h2 => ⟨.int _, H, I.kept hk, ⟨_, rfl⟩, q m h1 h2⟩
end Em

namespace Em
open PySem PySem.Spec PyProof.Rows L2 Qt

/-! ### the rings of a net -/
theorem been_itr {N : Net} (o : NetOk N) {x : Nat} (hx : x < N.length) : ∀ i, Been N x i (itr (step N) i [x])
  | 0 => Been.start hx
  | i + 1 => by
    have h := been_itr o hx i
    show Been N x (i + 1) (step N (itr (step N) i [x]))
    cases z : nxt N (lastOf (itr (step N) i [x])) with
    | none =>
      rw [step_none z]
      exact h.still (step_none z)
    | some y =>
      by_cases hn : y ∈ itr (step N) i [x]
      · rw [step_in z hn]
        exact h.still (step_in z hn)
      · have e : step N (itr (step N) i [x]) = itr (step N) i [x] ++ [y] := by
          generalize itr (step N) i [x] = g at *
          unfold step
          rw [z]
          simp only [hn, if_false]
        rw [e]
        exact h.more o z hn
theorem path_been {N : Net} (o : NetOk N) {x : Nat} (hx : x < N.length) : Been N x N.length (path N x) := been_itr o hx _
theorem step_head {N : Net} {x : Nat} {g : List Nat} (h : ∃ t, g = x :: t) : ∃ t, step N g = x :: t := by
  obtain ⟨t, rfl⟩ := h
  unfold step
  split
  · exact ⟨t, rfl⟩
  · split
    · exact ⟨t, rfl⟩
    · exact ⟨_, rfl⟩
theorem itr_head (N : Net) (x : Nat) : ∀ n, ∃ t, itr (step N) n [x] = x :: t
  | 0 => ⟨[], rfl⟩
  | n + 1 => step_head (itr_head N x n)
theorem path_head (N : Net) (x : Nat) : ∃ t, path N x = x :: t := itr_head N x _
theorem way_cat (N : Net) (x : Nat) : wayA N x ++ wayR N x = path N x := List.take_append_drop _ _
theorem way_sub {N : Net} (o : NetOk N) {x : Nat} (hx : x < N.length) : ∀ y ∈ wayR N x, y < N.length := fun y hy => (path_been o hx).lt y (by rw [← way_cat]; exact List.mem_append_right _ hy)
def rootB (N : Net) (x : Nat) : Bool := decide (x ∈ wayR N x) && (wayR N x).all fun y => decide (x ≤ y)
theorem root_iff {N : Net} {x : Nat} : rootB N x = true ↔ x ∈ wayR N x ∧ ∀ y ∈ wayR N x, x ≤ y := by
  unfold rootB
  rw [Bool.and_eq_true, decide_eq_true_iff, List.all_eq_true]
  simp only [decide_eq_true_iff]
theorem root_ahead {N : Net} (o : NetOk N) {x : Nat} (hx : x < N.length) (h : x ∈ wayR N x) : wayA N x = [] := by
  have nd := (path_been o hx).nd
  obtain ⟨t, ht⟩ := path_head N x
  have e := way_cat N x
  cases q : wayA N x with
  | nil => rfl
  | cons z r =>
    rw [q] at e
    rw [← e] at nd
    rw [ht] at e
    have ez : z = x := (List.cons.inj e).1
    have := (List.nodup_cons.mp (show (z :: (r ++ wayR N x)).Nodup from nd)).1
    exact absurd (List.mem_append_right r (ez ▸ h)) this
theorem ahead_path {N : Net} {x : Nat} (h : wayA N x = []) : wayR N x = path N x := by
  have e := way_cat N x
  rw [h] at e
  exact e
/-- the least of the ring is x: that is a root -/
theorem root_min {N : Net} {x : Nat} {m : Int} (h1 : m ∈ (wayR N x).map fun n : Nat => (n : Int)) (h2 : ∀ y ∈ (wayR N x).map fun n : Nat => (n : Int), m ≤ y) : decide ((x : Int) = m) = rootB N x := by
  rw [Bool.eq_iff_iff, decide_eq_true_iff, root_iff]
  obtain ⟨n, hn, rfl⟩ := List.mem_map.mp h1
  have h3 : ∀ y ∈ wayR N x, n ≤ y := fun y hy => Int.ofNat_le.mp (h2 _ (List.mem_map.mpr ⟨y, hy, rfl⟩))
  constructor
  · intro e
    have : x = n := Int.ofNat_inj.mp e
    subst this
    exact ⟨hn, h3⟩
  · rintro ⟨a, b⟩
    have := h3 x a
    have := b n hn
    congr 1
    omega
def ringsL (N : Net) (i : Nat) : List Nat := (List.range i).filter (rootB N)
theorem ringsL_succ (N : Net) (i : Nat) : ringsL N (i + 1) = if rootB N i = true then ringsL N i ++ [i] else ringsL N i := by
  unfold ringsL
  rw [List.range_succ, List.filter_append]
  split
  · rename_i h
    rw [List.filter_cons_of_pos h]
    rfl
  · rename_i h
    rw [List.filter_cons_of_neg h]
    simp
theorem ringsL_len (N : Net) (i : Nat) : (ringsL N i).length ≤ i := by
  have := List.length_filter_le (rootB N) (List.range i)
  rw [List.length_range] at this
  exact this
theorem ringsL_mem {N : Net} {i x : Nat} (h : x ∈ ringsL N i) : x < i ∧ rootB N x = true := by
  have := List.mem_filter.mp h
  exact ⟨List.mem_range.mp this.1, this.2⟩
theorem ringsL_lt (N : Net) (i : Nat) : (ringsL N i).Pairwise (· < ·) := List.pairwise_lt_range.filter _
def ringD (N : Net) (x : Nat) : PyData := natsD (wayR N x)
def ringsD (N : Net) : PyData := .list ((ringsL N N.length).map (ringD N))
theorem rings_lay (N : Net) : (ringsD N).canLay0 = true := by
  show PyData.canLayAll0 ((ringsL N N.length).map (ringD N)) = true
  exact all_lay (fun x => nats_lay (wayR N x)) _
theorem rings_depth (N : Net) : (ringsD N).depth ≤ 2 := by
  show PyData.depthAll ((ringsL N N.length).map (ringD N)) + 1 ≤ 2
  have := all_depth (f := ringD N) (n := 1) (fun x => nats_depth (wayR N x)) (ringsL N N.length)
  omega
theorem rings_noDict (N : Net) : (ringsD N).hasDict = false := PyData.hasDict_of_canLay _ (rings_lay N)
theorem rings_shaped (N : Net) : SeqAt.shaped (ringsD N) = true := by
  unfold SeqAt.shaped
  rw [rings_lay, decide_eq_true (Nat.le_trans (rings_depth N) (by decide))]
  rfl
/-! sorted already -/
def toI : V → Int
  | .int i => i
  | _ => 0
def kH (H : Hp) : V → List Int
  | .ref t => (match H t with
    | some (.tup ys) => ys.map toI
    | _ => [])
  | _ => []
theorem kH_at {H : Hp} {t : Addr} {g : List Nat} (h : H t = some (.tup (natV g))) : kH H (.ref t) = g.map fun n : Nat => (n : Int) := by
  show (match H t with
    | some (.tup ys) => ys.map toI
    | _ => []) = _
  rw [h]
  show (natV g).map toI = _
  unfold natV
  rw [List.map_map]
  rfl
theorem rings_at {S : List Addr} {H : Hp} {N : Net} : ∀ {L : List Nat} {xs : List V}, DxA S H xs (L.map (ringD N)) → ∀ v ∈ xs, ∃ x ∈ L, ∃ t, v = .ref t ∧ H t = some (.tup (natV (wayR N x)))
  | [], _, h => by
    cases h
    intro v hv
    cases hv
  | x :: r, _, h => by
    cases h with
    | cons a t =>
      intro v hv
      rcases List.mem_cons.mp hv with rfl | hv
      · obtain ⟨ad, e, _, h⟩ := nats_at a
        exact ⟨x, List.mem_cons_self, ad, e, h⟩
      · obtain ⟨y, hy, q⟩ := rings_at t v hv
        exact ⟨y, List.mem_cons_of_mem _ hy, q⟩
theorem rings_srtd {S : List Addr} {H : Hp} {N : Net} : ∀ {L : List Nat} {xs : List V}, DxA S H xs (L.map (ringD N)) → L.Pairwise (· < ·) → (∀ x ∈ L, ∃ t, wayR N x = x :: t) → SrtO.Srtd (fun v u => lexL (kH H v) (kH H u)) xs
  | [], _, h, _, _ => by
    cases h
    exact List.Pairwise.nil
  | x :: r, _, h, hp, hh => by
    cases h with
    | cons a t =>
      obtain ⟨p1, p2⟩ := List.pairwise_cons.mp hp
      refine List.pairwise_cons.mpr ⟨fun v hv => ?_, rings_srtd t p2 fun y hy => hh y (List.mem_cons_of_mem _ hy)⟩
      obtain ⟨y, hy, tv, rfl, hv2⟩ := rings_at t v hv
      obtain ⟨ad, rfl, _, ha⟩ := nats_at a
      show lexL (kH H (.ref tv)) (kH H (.ref ad)) = false
      rw [kH_at hv2, kH_at ha]
      obtain ⟨t1, e1⟩ := hh x List.mem_cons_self
      obtain ⟨t2, e2⟩ := hh y (List.mem_cons_of_mem _ hy)
      have := p1 y hy
      rw [e1, e2, List.map_cons, List.map_cons, lexL_cons, if_neg (by omega)]
      exact decide_eq_false (by omega)
/-! ### laps -/
def lenOf (N : Net) (y : Nat) : Int := (N.getD y (1, none)).1
theorem lenOf_get {N : Net} {x : Nat} {p : Int × Option Nat} (h : N[x]? = some p) : lenOf N x = p.1 := by
  unfold lenOf
  rw [List.getD_eq_getElem?_getD, h]
  rfl
def lensR (N : Net) (x : Nat) : List Int := (wayR N x).map (lenOf N)
def LapD (N : Net) (x : Nat) (d : PyData) : Prop := (wayR N x = [] ∧ d = .none) ∨ (wayR N x ≠ [] ∧ ∃ m, m ∈ lensR N x ∧ (∀ y ∈ lensR N x, y ≤ m) ∧ d = .tuple [.int (lensR N x).sum, .int m])
theorem LapD.uniq {N : Net} {x : Nat} {d e : PyData} (h : LapD N x d) (k : LapD N x e) : d = e := by
  rcases h with ⟨h1, h2⟩ | ⟨h1, m, a, b, h2⟩ <;> rcases k with ⟨k1, k2⟩ | ⟨k1, n, c, f, k2⟩
  · rw [h2, k2]
  · exact absurd h1 k1
  · exact absurd k1 h1
  · have := b n c
    have := f m a
    have e : m = n := by omega
    rw [h2, k2, e]
theorem LapD.lay {N : Net} {x : Nat} {d : PyData} (h : LapD N x d) : d.canLay0 = true ∧ d.depth ≤ 1 := by
  rcases h with ⟨_, rfl⟩ | ⟨_, m, _, _, rfl⟩
  · exact ⟨rfl, Nat.zero_le _⟩
  · exact ⟨rfl, Nat.le_refl _⟩
theorem LapD.shaped {N : Net} {x : Nat} {d : PyData} (h : LapD N x d) : SeqAt.shaped d = true := by
  unfold SeqAt.shaped
  rw [h.lay.1, decide_eq_true (Nat.le_trans h.lay.2 (by decide))]
  rfl
theorem LapD.noDict {N : Net} {x : Nat} {d : PyData} (h : LapD N x d) : d.hasDict = false := PyData.hasDict_of_canLay _ h.lay.1
theorem Nw.fresh {H H1 : Hp} {a : Addr} {d : PyData} (h : Nw H H1 (.ref a) d) : H a = none := by
  cases q : H a with
  | none => rfl
  | some o =>
    have hd := h [a] fun s z => by
      obtain rfl : s = a := by simpa using z
      rw [q]
      exact fun z => by cases z
    cases hd with
    | lst n _ _ => exact absurd (List.mem_singleton.mpr rfl) n
    | tup n _ _ => exact absurd (List.mem_singleton.mpr rfl) n
    | dic n _ => exact absurd (List.mem_singleton.mpr rfl) n
theorem way_new {H H1 : Hp} {a b c : Addr} {N : Net} {x : Nat} (h : Nw H H1 (.ref a) (wayD N x)) (e : H1 a = some (.tup [.ref b, .ref c])) : Nw H H1 (.ref b) (natsD (wayA N x)) ∧ Nw H H1 (.ref c) (natsD (wayR N x)) := by
  have key : ∀ S : List Addr, (∀ s ∈ S, H s ≠ none) → Dx S H1 (.ref b) (natsD (wayA N x)) ∧ Dx S H1 (.ref c) (natsD (wayR N x)) := fun S z => by
    have hd := h S z
    cases hd with
    | @tup _ xs ds n h r =>
      rw [e] at h
      cases h
      cases r with
      | cons a1 r =>
        cases r with
        | cons a2 r => exact ⟨a1, a2⟩
  exact ⟨fun S z => (key S z).1, fun S z => (key S z).2⟩
theorem eqv_empty (g : List Nat) : PyData.eqv (natsD g) (.tuple []) = decide (g = []) := by
  cases g with
  | nil => exact SeqAt.eqv_refl _ rfl
  | cons x r => rfl
theorem nats_shaped (g : List Nat) : SeqAt.shaped (natsD g) = true := by
  unfold SeqAt.shaped
  rw [nats_lay, decide_eq_true (Nat.le_trans (nats_depth g) (by decide))]
  rfl
theorem nats_noDict (g : List Nat) : (natsD g).hasDict = false := PyData.hasDict_of_canLay _ (nats_lay g)
theorem DxA.flip {S : List Addr} {H : Hp} : ∀ {xs ys : List V} {ds : List PyData}, DxA S H xs ds → DxA S H ys ds → DxA S H xs ds := fun h _ => h
theorem eqv_none (ns : List Int) : PyData.eqv (.list (ns.map PyData.int)) (.list []) = decide (ns = []) := by
  cases ns with
  | nil => exact SeqAt.eqv_refl _ rfl
  | cons x r => rfl
theorem dp_ints {K : PySem.W.Frag} {H : Hp} : ∀ ns : List Int, DpAll K H (ns.map V.int) (ns.map PyData.int)
  | [] => .nil
  | n :: r => .cons (.int n) (dp_ints r)
theorem ints_shaped (ns : List Int) : SeqAt.shaped (.list (ns.map PyData.int)) = true := by
  have h1 : (PyData.list (ns.map PyData.int)).canLay0 = true := all_lay (f := PyData.int) (fun _ => rfl) ns
  have h2 : (PyData.list (ns.map PyData.int)).depth ≤ 1 := by
    have := all_depth (f := PyData.int) (n := 0) (fun _ => Nat.le_refl _) ns
    show PyData.depthAll (ns.map PyData.int) + 1 ≤ 1
    omega
  unfold SeqAt.shaped
  rw [h1, decide_eq_true (Nat.le_trans h2 (by decide))]
  rfl
end Em

namespace Em
open PySem PySem.Spec PyProof.Rows L2 Qt

/-! ### data of any kind: within bounds -/
mutual
def okD : PyData → Bool
  | .none | .bool _ => true
  | .int i => decide (i.natAbs < 10 ^ 60)
  | .str z => (z.cps.toList.all fun c => decide (c < 16 ^ 8)) && decide (z.cps.size ≤ 7)
  | .list xs | .tuple xs => okAll xs
  | .dict _ => false
def okAll : List PyData → Bool
  | [] => true
  | x :: xs => okD x && okAll xs
end
mutual
theorem okD_show : ∀ d : PyData, okD d = true → d.showable = true ∧ d.leavesShort 61 = true
  | .none, _ => ⟨rfl, rfl⟩
  | .bool b, _ => ⟨rfl, rfl⟩
  | .int i, h => small_int (of_decide_eq_true (by simpa only [okD] using h))
  | .str z, h => ⟨rfl, (Bool.and_eq_true_iff.mp (show ((z.cps.toList.all fun c => decide (c < 16 ^ 8)) && decide (z.cps.size ≤ 7)) = true from h)).1⟩
  | .list xs, h => by
    have := okAll_show xs (by simpa only [okD] using h)
    simpa only [PyData.showable, PyData.leavesShort] using this
  | .tuple xs, h => by
    have := okAll_show xs (by simpa only [okD] using h)
    simpa only [PyData.showable, PyData.leavesShort] using this
  | .dict kvs, h => by cases h
theorem okAll_show : ∀ ds : List PyData, okAll ds = true → PyData.showableAll ds = true ∧ PyData.leavesShortAll 61 ds = true
  | [], _ => ⟨rfl, rfl⟩
  | d :: ds, h => by
    have h2 : okD d = true ∧ okAll ds = true := by simpa only [okAll, Bool.and_eq_true] using h
    obtain ⟨a1, a2⟩ := okD_show d h2.1
    obtain ⟨b1, b2⟩ := okAll_show ds h2.2
    exact ⟨by simp only [PyData.showableAll, a1, b1, Bool.and_self], by simp only [PyData.leavesShortAll, a2, b2, Bool.and_self]⟩
end
mutual
theorem okD_noDict : ∀ d : PyData, okD d = true → d.hasDict = false
  | .none, _ => rfl
  | .bool b, _ => rfl
  | .int i, _ => rfl
  | .str z, _ => rfl
  | .list xs, h => by simpa only [PyData.hasDict] using okAll_noDict xs (by simpa only [okD] using h)
  | .tuple xs, h => by simpa only [PyData.hasDict] using okAll_noDict xs (by simpa only [okD] using h)
  | .dict kvs, h => by cases h
theorem okAll_noDict : ∀ ds : List PyData, okAll ds = true → PyData.hasDictAll ds = false
  | [], _ => rfl
  | d :: ds, h => by
    have h2 : okD d = true ∧ okAll ds = true := by simpa only [okAll, Bool.and_eq_true] using h
    simp only [PyData.hasDictAll, okD_noDict d h2.1, okAll_noDict ds h2.2, Bool.or_self]
end
theorem okAll_iff : ∀ ds : List PyData, okAll ds = true ↔ ∀ d ∈ ds, okD d = true
  | [] => ⟨fun _ d z => (by cases z), fun _ => rfl⟩
  | d :: ds => by
    simp only [okAll, Bool.and_eq_true, List.mem_cons, forall_eq_or_imp]
    rw [okAll_iff ds]
mutual
/-- how many parts -/
def szD : PyData → Nat
  | .list xs | .tuple xs => szAll xs
  | _ => 0
def szAll : List PyData → Nat
  | [] => 0
  | x :: xs => szD x + 1 + szAll xs
end
mutual
theorem shown_sz : ∀ d : PyData, okD d = true → d.shown.length ≤ 80 * szD d + 75
  | .none, _ => by decide
  | .bool b, _ => by cases b <;> decide
  | .int i, h => Nat.le_trans (small_shown (of_decide_eq_true (by simpa only [okD] using h))) (by omega)
  | .str z, h => by
    obtain ⟨h1, h2⟩ := Bool.and_eq_true_iff.mp (show ((z.cps.toList.all fun c => decide (c < 16 ^ 8)) && decide (z.cps.size ≤ 7)) = true from h)
    have e := StrLaws.reprText_len z (by simpa only [List.all_eq_true, decide_eq_true_eq] using h1)
    have h3 := of_decide_eq_true h2
    have e2 : z.length = z.cps.size := rfl
    show (reprText z).length ≤ _
    omega
  | .list xs, h => by
    have h1 := shownAll_sz xs (by simpa only [okD] using h)
    have h2 := listText_len_le (PyData.shownAll xs)
    have h3 := PyData.shownAll_length xs
    simp only [PyData.shown, szD]
    omega
  | .tuple xs, h => by
    have h1 := shownAll_sz xs (by simpa only [okD] using h)
    have h2 := tupleText_len_le (PyData.shownAll xs)
    have h3 := PyData.shownAll_length xs
    simp only [PyData.shown, szD]
    omega
  | .dict kvs, h => by cases h
theorem shownAll_sz : ∀ xs : List PyData, okAll xs = true → ((PyData.shownAll xs).map (·.length)).sum + 2 * xs.length ≤ 80 * szAll xs
  | [], _ => Nat.le_refl _
  | x :: xs, h => by
    have h2 : okD x = true ∧ okAll xs = true := by simpa only [okAll, Bool.and_eq_true] using h
    have a := shown_sz x h2.1
    have b := shownAll_sz xs h2.2
    simp only [PyData.shownAll, szAll, List.map_cons, List.sum_cons, List.length_cons]
    omega
end
structure Fit (w k : Nat) (d : PyData) : Prop where
  ok : okD d = true
  wt : szD d ≤ w
  dp : d.depth ≤ k
theorem Fit.mono {w k w' k' : Nat} {d : PyData} (h : Fit w k d) (hw : w ≤ w') (hk : k ≤ k') : Fit w' k' d := ⟨h.ok, Nat.le_trans h.wt hw, Nat.le_trans h.dp hk⟩
theorem fit_all {w k : Nat} : ∀ ds : List PyData, (∀ d ∈ ds, Fit w k d) → okAll ds = true ∧ szAll ds ≤ (w + 1) * ds.length ∧ PyData.depthAll ds ≤ k
  | [], _ => ⟨rfl, Nat.zero_le _, Nat.zero_le _⟩
  | d :: ds, h => by
    have a := h d List.mem_cons_self
    obtain ⟨b1, b2, b3⟩ := fit_all ds fun e he => h e (List.mem_cons_of_mem _ he)
    have c := a.wt
    refine ⟨by simp only [okAll, a.ok, b1, Bool.and_self], ?_, Nat.max_le.mpr ⟨a.dp, b3⟩⟩
    show szD d + 1 + szAll ds ≤ (w + 1) * (ds.length + 1)
    have e : (w + 1) * (ds.length + 1) = (w + 1) * ds.length + (w + 1) := by rw [Nat.mul_succ]
    omega
theorem fit_tup {w k n : Nat} {ds : List PyData} (h : ∀ d ∈ ds, Fit w k d) (hn : ds.length ≤ n) : Fit ((w + 1) * n) (k + 1) (.tuple ds) := by
  obtain ⟨b1, b2, b3⟩ := fit_all ds h
  exact ⟨b1, Nat.le_trans b2 (Nat.mul_le_mul_left _ hn), Nat.succ_le_succ b3⟩
theorem fit_lst {w k n : Nat} {ds : List PyData} (h : ∀ d ∈ ds, Fit w k d) (hn : ds.length ≤ n) : Fit ((w + 1) * n) (k + 1) (.list ds) := by
  obtain ⟨b1, b2, b3⟩ := fit_all ds h
  exact ⟨b1, Nat.le_trans b2 (Nat.mul_le_mul_left _ hn), Nat.succ_le_succ b3⟩
theorem fit_int {i : Int} (h : i.natAbs < 10 ^ 60) {w k : Nat} (hw : 200 ≤ w) : Fit w k (.int i) := ⟨decide_eq_true h, Nat.zero_le _, Nat.zero_le _⟩
theorem fit_non {w k : Nat} : Fit w k .none := ⟨rfl, Nat.zero_le _, Nat.zero_le _⟩
theorem fit_bool {w k : Nat} (b : Bool) : Fit w k (.bool b) := ⟨rfl, Nat.zero_le _, Nat.zero_le _⟩
theorem Fit.shown {w k : Nat} {d : PyData} (h : Fit w k d) (hw : w ≤ 200000) : d.showable = true ∧ d.shown.length ≤ sizeLine := by
  obtain ⟨h1, h2⟩ := okD_show d h.ok
  refine ⟨h1, ?_⟩
  have h4 := shown_sz d h.ok
  have h5 := h.wt
  rw [sizeLine_eq]
  omega
theorem fit_int0 {i : Int} (h : i.natAbs < 10 ^ 60) {w k : Nat} : Fit w k (.int i) := ⟨decide_eq_true h, Nat.zero_le _, Nat.zero_le _⟩
/-! ### repr of it -/
section
variable {X : Cx}
theorem call_reprX {j : Nat} (hG : X.A.guards = some []) (rm : Room j X.A) : CallR X (.builtin "repr") (fun xs H Q => ∃ (S : List Addr) (x : V) (d : PyData), xs = [x] ∧ Dx S H x d ∧ (d.hasDict = false ∨ d = .dict []) ∧ d.showable = true ∧ d.depth < 150 ∧ d.shown.length ≤ sizeLine ∧ Q (.str d.shown) H) := by
  intro pins s σ H xs us Q I r h
  obtain ⟨S, x, d, rfl, hd, h2, h1, h3, h4, q⟩ := h
  obtain ⟨u, rfl, ru⟩ := vals1 r
  have hu := rm.un
  have ref : ∀ (a : Addr) (as : List Addr), Reads s.heap (.ref a) d as → (d.hasDict = true → sysModules ∉ as) → wpAny (model X.prog X.w) X.A (call (.builtin "repr") [.ref a]) (EP X pins σ Q) X.xe s := fun a as hr hm =>
    repr_of_reads' hr h1 hm hG (by omega) (fun _ _ e => e) (fun h' u tk hk => ⟨.str d.shown, H, I.kept (t' := tk) hk, ⟨u, rfl⟩, q⟩) h4
  have plain : ∀ a : Addr, x = .ref a → d.hasDict = false → wpAny (model X.prog X.w) X.A (call (.builtin "repr") [u]) (EP X pins σ Q) X.xe s := fun a e hn => by
    subst e
    obtain ⟨as, hr⟩ := (hd.dp hn (K := X.K)).reads I d _ u ru
    obtain rfl : u = Value.ref a := ru
    exact ref a as hr fun e => by rw [hn] at e; cases e
  cases hd with
  | non => cases ru; exact PySem.P.repr_of_none ⟨.str _, H, I.tok _, ⟨_, rfl⟩, q⟩
  | bl b => cases ru; exact PySem.P.repr_of_bool ⟨.str _, H, I.tok _, ⟨_, rfl⟩, q⟩
  | int i =>
    obtain ⟨t, rfl⟩ := ru
    exact PySem.P.repr_of_int (of_decide_eq_true (by simpa only [PyData.showable] using h1)) ⟨.str _, H, I.tok _, ⟨_, rfl⟩, q⟩
  | str z =>
    obtain ⟨t, rfl⟩ := ru
    exact PySem.P.repr_of_str ⟨.str _, H, I.tok _, ⟨_, rfl⟩, q⟩ h4
  | @lst a vs ds n h ra =>
    rcases h2 with h2 | h2
    · exact plain a rfl h2
    · cases h2
  | @tup a vs ds n h ra =>
    rcases h2 with h2 | h2
    · exact plain a rfl h2
    · cases h2
  | @dic a n h =>
    obtain rfl : u = Value.ref a := ru
    obtain ⟨_, ns, vs, rk, o, es, ep, e, ⟨ec, _⟩, ed, _, hp, _⟩ := I.hok _ _ h
    cases rk
    have e0 : es.toList = [] := by
      generalize es.toList = l at hp
      cases hp
      rfl
    refine ref a ([a] ++ []) (Reads.dict e ec ed (as := []) (bs := []) (by rw [e0]; exact ReadsAll.nil) (by rw [e0]; exact ReadsAll.nil)) fun _ z => ?_
    simp only [List.append_nil, List.mem_singleton] at z
    rw [← z] at ns
    simp at ns
end
/-! ### slices, sums and multiples of tuples -/
theorem cutA_x {S : List Addr} {H : Hp} {lo hi : Option Int} : ∀ {xs : List V} {ds : List PyData}, DxA S H xs ds → DxA S H (cutV xs lo hi) ((ds.drop (HT.sIx ds.length 0 lo)).take (HT.sIx ds.length ds.length hi - HT.sIx ds.length 0 lo)) := fun {xs ds} h => by
  have e := h.len
  unfold cutV
  rw [e]
  have dr : ∀ (n : Nat) {xs : List V} {ds : List PyData}, DxA S H xs ds → DxA S H (xs.drop n) (ds.drop n) := by
    intro n
    induction n with
    | zero => exact fun h => h
    | succ n ih =>
      intro xs ds h
      cases h with
      | nil => exact .nil
      | cons a t => exact ih t
  have tk : ∀ (n : Nat) {xs : List V} {ds : List PyData}, DxA S H xs ds → DxA S H (xs.take n) (ds.take n) := by
    intro n
    induction n with
    | zero =>
      intro xs ds h
      exact .nil
    | succ n ih =>
      intro xs ds h
      cases h with
      | nil => exact .nil
      | cons a t => exact .cons a (ih t)
  exact tk _ (dr _ h)
def cutD (ds : List PyData) (lo hi : Option Int) : List PyData := (ds.drop (HT.sIx ds.length 0 lo)).take (HT.sIx ds.length ds.length hi - HT.sIx ds.length 0 lo)
theorem cutD_mem {ds : List PyData} {lo hi : Option Int} {d : PyData} (h : d ∈ cutD ds lo hi) : d ∈ ds := List.mem_of_mem_drop (List.mem_of_mem_take h)
theorem cutD_len (ds : List PyData) (lo hi : Option Int) : (cutD ds lo hi).length ≤ ds.length := by
  unfold cutD
  rw [List.length_take, List.length_drop]
  omega
theorem Dx.newT {S : List Addr} {H : Hp} {p : Addr} {xs : List V} {ds : List PyData} (hS : ∀ s ∈ S, H s ≠ none) (np : H p = none) (h : DxA S H xs ds) : Dx S (upd H p (.tup xs)) (.ref p) (.tuple ds) :=
  .tup (fun z => hS p z np) upd_same (h.kp (Kp.new (S := []) np) fun _ z => by cases z)
theorem Dx.newL {S : List Addr} {H : Hp} {p : Addr} {xs : List V} {ds : List PyData} (hS : ∀ s ∈ S, H s ≠ none) (np : H p = none) (h : DxA S H xs ds) : Dx S (upd H p (.lst xs)) (.ref p) (.list ds) :=
  .lst (fun z => hS p z np) upd_same (h.kp (Kp.new (S := []) np) fun _ z => by cases z)
theorem dx_slice {K : PySem.W.Frag} {S : List Addr} {H : Hp} {v : V} {ds : List PyData} {lo hi : Option Int} {Q : VK} (hS : ∀ s ∈ S, H s ≠ none) (h : Dx S H v (.tuple ds)) (q : ∀ v' H', Kp [] H H' → Dx S H' v' (.tuple (cutD ds lo hi)) → Q v' H') : rSlA K v lo hi H Q := by
  cases h with
  | @tup a xs _ n h r =>
    refine ⟨a, xs, rfl, SqT.of h, fun e => ?_, fun _ p np => ?_⟩
    · refine q (.ref a) H .rfl' ?_
      have e2 : cutD ds lo hi = ds := by
        have el := r.len
        rw [el] at e
        unfold cutD
        rw [e.1, e.2, List.drop_zero, Nat.sub_zero, List.take_length]
      rw [e2]
      exact .tup n h r
    · exact q _ _ (Kp.new np) (Dx.newT hS np (cutA_x r))
theorem dx_cat {K : PySem.W.Frag} {S : List Addr} {H : Hp} {x y : V} {ds es : List PyData} {Q : VK} (hS : ∀ s ∈ S, H s ≠ none) (h1 : Dx S H x (.tuple ds)) (h2 : Dx S H y (.tuple es)) (hl : ds.length + es.length ≤ sizeLine) (q : ∀ v' H', Kp [] H H' → Dx S H' v' (.tuple (ds ++ es)) → Q v' H') : rCatA K x y H Q := by
  cases h1 with
  | @tup a xs _ n h r =>
    cases h2 with
    | @tup b ys _ m k t =>
      have l1 := r.len
      have l2 := t.len
      refine ⟨a, b, xs, ys, rfl, rfl, SqT.of h, SqT.of k, by omega, fun e => ?_, fun _ e => ?_, fun _ _ p np => ?_⟩
      · have : ds = [] := List.length_eq_zero_iff.mp (by rw [← l1, e]; rfl)
        subst this
        exact q _ _ .rfl' (.tup m k t)
      · have : es = [] := List.length_eq_zero_iff.mp (by rw [← l2, e]; rfl)
        subst this
        rw [List.append_nil] at q
        exact q _ _ .rfl' (.tup n h r)
      · exact q _ _ (Kp.new np) (Dx.newT hS np (r.app t))
theorem dx_rep {K : PySem.W.Frag} {S : List Addr} {H : Hp} {x : V} {ds : List PyData} {k : Int} {Q : VK} (hS : ∀ s ∈ S, H s ≠ none) (h1 : Dx S H x (.tuple ds)) (hne : ds ≠ []) (hk : 2 ≤ k) (hk2 : k ≤ 1000) (hl : ds.length ≤ 1000) (q : ∀ v' H', Kp [] H H' → Dx S H' v' (.tuple (List.replicate k.toNat ds).flatten) → Q v' H') : rRepT K x (.int k) H Q := by
  cases h1 with
  | @tup a xs _ n h r =>
    have l1 := r.len
    refine ⟨a, k, xs, rfl, rfl, SqT.of h, fun e => hne (List.length_eq_zero_iff.mp (by rw [← l1, e]; rfl)), hk, hk2, by omega, fun p np => ?_⟩
    refine q _ _ (Kp.new np) (Dx.newT hS np ?_)
    generalize k.toNat = m
    induction m with
    | zero => exact .nil
    | succ m ih =>
      rw [List.replicate_succ, List.replicate_succ, List.flatten_cons, List.flatten_cons]
      exact r.app ih
theorem lamp_fit {p : Int × Option Nat} (h1 : 1 ≤ p.1) (h2 : p.1 < 10 ^ 60) (h3 : ∀ y, p.2 = some y → y < 12) : Fit 600 1 (lampD p) := by
  have a := lamp_small h1 h2 h3
  refine ⟨?_, (show 0 + 1 + (szD (nxD p.2) + 1 + 0) ≤ 600 by cases p.2 <;> exact (by decide : 2 ≤ 600)), lamp_depth p⟩
  obtain ⟨l, o⟩ := p
  have hl : l.natAbs < 10 ^ 60 := by simp only at h1 h2; omega
  cases o with
  | none =>
    show (decide _ && (true && true)) = true
    rw [decide_eq_true hl]; rfl
  | some y =>
    have := h3 y rfl
    have hy : (y : Int).natAbs < 10 ^ 60 := by omega
    show (decide _ && (decide _ && true)) = true
    rw [decide_eq_true hl, decide_eq_true hy]; rfl
theorem net_fits {N : Net} (o : NetOk N) (s : Short N) : ∀ d ∈ N.map lampD, Fit 600 1 d := fun d hd => by
  obtain ⟨p, hp, rfl⟩ := List.mem_map.mp hd
  have h12 := o.hi
  exact lamp_fit (o.len p hp) (s p hp) fun y hy => by
    have := o.nx p hp y hy
    omega
theorem cutD_to (ds : List PyData) (c : Nat) : (cutD ds none (some (c : Int))).length ≤ c := by
  unfold cutD
  rw [List.length_take, List.length_drop, HT.sIx_none, show HT.sIx ds.length ds.length (some (c : Int)) = min c ds.length from HT.sIx_nat _ _ c]
  omega
theorem rep_mem {α : Type} {n : Nat} {ds : List α} {d : α} (h : d ∈ (List.replicate n ds).flatten) : d ∈ ds := by
  obtain ⟨l, hl, hd⟩ := List.mem_flatten.mp h
  rw [(List.mem_replicate.mp hl).2] at hd
  exact hd
def deepD : Nat → PyData
  | 0 => .tuple []
  | n + 1 => .tuple [deepD n]
theorem deep_fit : ∀ n, Fit n (n + 1) (deepD n)
  | 0 => ⟨rfl, Nat.le_refl _, Nat.le_refl _⟩
  | n + 1 => by
    have h := deep_fit n
    have h1 := h.wt
    have h2 := h.dp
    refine ⟨?_, ?_, ?_⟩
    · show (okD (deepD n) && true) = true
      rw [h.ok]; rfl
    · show szD (deepD n) + 1 + 0 ≤ n + 1
      omega
    · show max (deepD n).depth 0 + 1 ≤ n + 1 + 1
      omega
/-! ### what the law finds a net is one -/
theorem lamp_of {m : Nat} {d : PyData} (h : lampB m d = true) : ∃ p : Int × Option Nat, d = lampD p ∧ 1 ≤ p.1 ∧ ∀ y, p.2 = some y → y < m := by
  match d, h with
  | .tuple [l, o], h =>
    have h2 : (lenB l && nxB m o) = true := h
    rw [Bool.and_eq_true] at h2
    obtain ⟨h3, h4⟩ := h2
    cases l with
    | int i =>
      have h5 : ¬ i < 1 := by
        intro z
        have : (!decide (i < 1)) = true := h3
        rw [decide_eq_true z] at this
        cases this
      cases o with
      | none => exact ⟨(i, none), rfl, by show 1 ≤ i; omega, fun y e => by cases e⟩
      | int j =>
        have h6 : (decide ((0 : Int) ≤ j) && decide (j < (m : Int))) = true := h4
        rw [Bool.and_eq_true] at h6
        have a1 := of_decide_eq_true h6.1
        have a2 := of_decide_eq_true h6.2
        refine ⟨(i, some j.toNat), ?_, by show 1 ≤ i; omega, fun y e => ?_⟩
        · show PyData.tuple [.int i, .int j] = .tuple [.int i, .int (j.toNat : Int)]
          have : j = (j.toNat : Int) := by omega
          rw [← this]
        · have : j.toNat = y := Option.some.inj e
          omega
      | bool _ => cases h4
      | str _ => cases h4
      | list _ => cases h4
      | tuple _ => cases h4
      | dict _ => cases h4
    | none => cases h3
    | bool _ => cases h3
    | str _ => cases h3
    | list _ => cases h3
    | tuple _ => cases h3
    | dict _ => cases h3
theorem lamps_of {m : Nat} : ∀ ds : List PyData, (∀ d ∈ ds, lampB m d = true) → ∃ N : Net, ds = N.map lampD ∧ ∀ p ∈ N, 1 ≤ p.1 ∧ ∀ y, p.2 = some y → y < m
  | [], _ => ⟨[], rfl, fun p z => by cases z⟩
  | d :: ds, h => by
    obtain ⟨p, e, q⟩ := lamp_of (h d List.mem_cons_self)
    obtain ⟨N, e2, q2⟩ := lamps_of ds fun e he => h e (List.mem_cons_of_mem _ he)
    refine ⟨p :: N, by rw [e, e2]; rfl, fun r hr => ?_⟩
    rcases List.mem_cons.mp hr with rfl | hr
    · exact q
    · exact q2 r hr
theorem net_of {d : PyData} (h : netB d = true) : ∃ N : Net, d = netD N ∧ NetOk N := by
  match d, h with
  | .tuple ds, h =>
    have h2 : (!decide ((ds.length : Int) < 1) && !decide ((12 : Int) < (ds.length : Int)) && (ds.map (lampB ds.length)).all id) = true := h
    rw [Bool.and_eq_true, Bool.and_eq_true] at h2
    obtain ⟨⟨h3, h4⟩, h5⟩ := h2
    have a1 : ¬ (ds.length : Int) < 1 := fun z => by rw [decide_eq_true z] at h3; cases h3
    have a2 : ¬ (12 : Int) < (ds.length : Int) := fun z => by rw [decide_eq_true z] at h4; cases h4
    obtain ⟨N, e, q⟩ := lamps_of ds fun d hd => (List.all_eq_true.mp h5) _ (List.mem_map.mpr ⟨d, hd, rfl⟩)
    have el : ds.length = N.length := by rw [e, List.length_map]
    exact ⟨N, by rw [e]; rfl, by omega, by omega, fun p hp => (q p hp).1, fun p hp y hy => by rw [← el]; exact (q p hp).2 y hy⟩
theorem short_of {N : Net} (h : okD (netD N) = true) : Short N := fun p hp => by
  have h1 := (okAll_iff (N.map lampD)).mp h (lampD p) (List.mem_map.mpr ⟨p, hp, rfl⟩)
  have h2 : (decide (p.1.natAbs < 10 ^ 60) && _) = true := h1
  rw [Bool.and_eq_true] at h2
  have h3 := of_decide_eq_true h2.1
  have e : ((10 ^ 60 : Nat) : Int) = (10 : Int) ^ 60 := by decide
  have : (p.1.natAbs : Int) < ((10 ^ 60 : Nat) : Int) := Int.ofNat_lt.mpr h3
  rw [e] at this
  omega
structure Shows (d : PyData) : Prop where
  pl : d.hasDict = false ∨ d = .dict []
  sh : d.showable = true
  dp : d.depth < 150
  ln : d.shown.length ≤ sizeLine
theorem shows_of {d : PyData} (h : Fit 20000 50 d ∨ d = .dict []) : Shows d := by
  rcases h with h | rfl
  · obtain ⟨a, b⟩ := h.shown (by decide)
    exact ⟨.inl (okD_noDict d h.ok), a, Nat.lt_of_le_of_lt h.dp (by decide), b⟩
  · refine ⟨.inr rfl, rfl, by decide, ?_⟩
    rw [sizeLine_eq]
    decide
end Em

namespace Em
open PySem PySem.Spec PyProof.Rows L2 Qt

/-! ### kindlings -/
def beatB : PyData → Bool
  | .int i => !decide (i < 0)
  | _ => false
def sparkB (m : Nat) : PyData → Bool
  | .tuple [b, l] => beatB b && numB m l
  | _ => false
def sparksB (m : Nat) : PyData → Bool
  | .list ds => !decide ((40 : Int) < (ds.length : Int)) && (ds.map (sparkB m)).all id
  | _ => false
abbrev Sparks := List (Int × Nat)
def sparkD (p : Int × Nat) : PyData := .tuple [.int p.1, .int (p.2 : Nat)]
def sparksD (L : Sparks) : PyData := .list (L.map sparkD)
structure SpOk (m : Nat) (L : Sparks) : Prop where
  len : L.length ≤ 40
  lo : ∀ p ∈ L, 0 ≤ p.1
  hi : ∀ p ∈ L, p.1 < 10 ^ 60
  at_ : ∀ p ∈ L, p.2 < m
theorem spark_of {m : Nat} {d : PyData} (h : sparkB m d = true) : ∃ p : Int × Nat, d = sparkD p ∧ 0 ≤ p.1 ∧ p.2 < m := by
  match d, h with
  | .tuple [b, l], h =>
    have h2 : (beatB b && numB m l) = true := h
    rw [Bool.and_eq_true] at h2
    obtain ⟨h3, h4⟩ := h2
    cases b with
    | int i =>
      have h5 : ¬ i < 0 := fun z => by
        have : (!decide (i < 0)) = true := h3
        rw [decide_eq_true z] at this
        cases this
      cases l with
      | int j =>
        have h6 : (decide ((0 : Int) ≤ j) && decide (j < (m : Int))) = true := h4
        rw [Bool.and_eq_true] at h6
        have a1 := of_decide_eq_true h6.1
        have a2 := of_decide_eq_true h6.2
        refine ⟨(i, j.toNat), ?_, by show 0 ≤ i; omega, by show j.toNat < m; omega⟩
        show PyData.tuple [.int i, .int j] = .tuple [.int i, .int (j.toNat : Int)]
        have : j = (j.toNat : Int) := by omega
        rw [← this]
      | none => cases h4
      | bool _ => cases h4
      | str _ => cases h4
      | list _ => cases h4
      | tuple _ => cases h4
      | dict _ => cases h4
    | none => cases h3
    | bool _ => cases h3
    | str _ => cases h3
    | list _ => cases h3
    | tuple _ => cases h3
    | dict _ => cases h3
theorem sparksL_of {m : Nat} : ∀ ds : List PyData, (∀ d ∈ ds, sparkB m d = true) → ∃ L : Sparks, ds = L.map sparkD ∧ ∀ p ∈ L, 0 ≤ p.1 ∧ p.2 < m
  | [], _ => ⟨[], rfl, fun p z => by cases z⟩
  | d :: ds, h => by
    obtain ⟨p, e, q⟩ := spark_of (h d List.mem_cons_self)
    obtain ⟨N, e2, q2⟩ := sparksL_of ds fun e he => h e (List.mem_cons_of_mem _ he)
    refine ⟨p :: N, by rw [e, e2]; rfl, fun r hr => ?_⟩
    rcases List.mem_cons.mp hr with rfl | hr
    · exact q
    · exact q2 r hr
theorem sparks_of {m : Nat} {d : PyData} (h : sparksB m d = true) (hk : okD d = true) : ∃ L : Sparks, d = sparksD L ∧ SpOk m L := by
  match d, h with
  | .list ds, h =>
    have h2 : (!decide ((40 : Int) < (ds.length : Int)) && (ds.map (sparkB m)).all id) = true := h
    rw [Bool.and_eq_true] at h2
    obtain ⟨h4, h5⟩ := h2
    have a2 : ¬ (40 : Int) < (ds.length : Int) := fun z => by rw [decide_eq_true z] at h4; cases h4
    obtain ⟨L, e, q⟩ := sparksL_of ds fun d hd => (List.all_eq_true.mp h5) _ (List.mem_map.mpr ⟨d, hd, rfl⟩)
    have el : ds.length = L.length := by rw [e, List.length_map]
    refine ⟨L, by rw [e]; rfl, by omega, fun p hp => (q p hp).1, fun p hp => ?_, fun p hp => (q p hp).2⟩
    have h1 := (okAll_iff ds).mp hk (sparkD p) (by rw [e]; exact List.mem_map.mpr ⟨p, hp, rfl⟩)
    have h2 : (decide (p.1.natAbs < 10 ^ 60) && _) = true := h1
    rw [Bool.and_eq_true] at h2
    have h3 := of_decide_eq_true h2.1
    have e : ((10 ^ 60 : Nat) : Int) = (10 : Int) ^ 60 := by decide
    have : (p.1.natAbs : Int) < ((10 ^ 60 : Nat) : Int) := Int.ofNat_lt.mpr h3
    rw [e] at this
    omega
theorem spark_fit1 {i : Int} {x : Nat} (h : i.natAbs < 10 ^ 60) (hx : x ≤ 12) : Fit 2 1 (sparkD (i, x)) := fit_tup (w := 0) (k := 0) (n := 2) (fun d hd => by
    simp only [List.mem_cons, List.not_mem_nil, or_false] at hd
    rcases hd with rfl | rfl
    · exact fit_int0 h
    · exact fit_int0 (by show ((x : Nat) : Int).natAbs < _; omega)) (Nat.le_refl _)
theorem spark_fit {m : Nat} (hm : m ≤ 12) {L : Sparks} (o : SpOk m L) : ∀ d ∈ L.map sparkD, Fit 2 1 d := fun d hd => by
  obtain ⟨p, hp, rfl⟩ := List.mem_map.mp hd
  have a := o.lo p hp
  have b := o.hi p hp
  have c := o.at_ p hp
  exact spark_fit1 (by omega) (by omega)
/-! ### slices, sums and multiples of lists -/
theorem dxl_slice {K : PySem.W.Frag} {S : List Addr} {H : Hp} {v : V} {ds : List PyData} {lo hi : Option Int} {Q : VK} (hS : ∀ s ∈ S, H s ≠ none) (h : Dx S H v (.list ds)) (q : ∀ v' H', Kp [] H H' → Dx S H' v' (.list (cutD ds lo hi)) → Q v' H') : rSlL K v lo hi H Q := by
  cases h with
  | @lst a xs _ n h r => exact ⟨a, xs, rfl, SqL.of h, fun p np => q _ _ (Kp.new np) (Dx.newL hS np (cutA_x r))⟩
theorem dxl_cat {K : PySem.W.Frag} {S : List Addr} {H : Hp} {x y : V} {ds es : List PyData} {Q : VK} (hS : ∀ s ∈ S, H s ≠ none) (h1 : Dx S H x (.list ds)) (h2 : Dx S H y (.list es)) (hl : ds.length + es.length ≤ sizeLine) (q : ∀ v' H', Kp [] H H' → Dx S H' v' (.list (ds ++ es)) → Q v' H') : rCatL K x y H Q := by
  cases h1 with
  | @lst a xs _ n h r =>
    cases h2 with
    | @lst b ys _ m k t =>
      have l1 := r.len
      have l2 := t.len
      exact ⟨a, b, xs, ys, rfl, rfl, SqL.of h, SqL.of k, by omega, fun p np => q _ _ (Kp.new np) (Dx.newL hS np (r.app t))⟩
theorem repA {S : List Addr} {H : Hp} {xs : List V} {ds : List PyData} (r : DxA S H xs ds) : ∀ m : Nat, DxA S H (List.replicate m xs).flatten (List.replicate m ds).flatten
  | 0 => .nil
  | m + 1 => by
    rw [List.replicate_succ, List.replicate_succ, List.flatten_cons, List.flatten_cons]
    exact r.app (repA r m)
theorem dxl_rep {S : List Addr} {H : Hp} {x : V} {ds : List PyData} {k : Int} {Q : VK} (hS : ∀ s ∈ S, H s ≠ none) (h1 : Dx S H x (.list ds)) (hk : 0 ≤ k) (hk2 : k ≤ 1000) (hl : ds.length ≤ 1000) (q : ∀ v' H', Kp [] H H' → Dx S H' v' (.list (List.replicate k.toNat ds).flatten) → Q v' H') : rRep x (.int k) H Q := by
  cases h1 with
  | @lst a xs _ n h r =>
    have l1 := r.len
    refine ⟨a, k, xs, rfl, rfl, h, by omega, by omega, Nat.le_trans (m := 1000 * 1000) (Nat.mul_le_mul (by omega) (by omega)) (by decide), fun p np => q _ _ (Kp.new np) (Dx.newL hS np (repA r _))⟩
theorem dxl_rev {K : PySem.W.Frag} {S : List Addr} {H : Hp} {x : V} {ds : List PyData} {Q : VK} (hS : ∀ s ∈ S, H s ≠ none) (h1 : Dx S H x (.list ds)) (q : ∀ v' H', Kp [] H H' → Dx S H' v' (.list ds.reverse) → Q v' H') : ∃ a xs, x = .ref a ∧ SqL K H a xs ∧ ∀ p, H p = none → Q (.ref p) (upd H p (.lst xs.reverse)) := by
  cases h1 with
  | @lst a xs _ n h r =>
    refine ⟨a, xs, rfl, SqL.of h, fun p np => q _ _ (Kp.new np) (Dx.newL hS np ?_)⟩
    clear h hS
    have rv : ∀ {xs : List V} {ds : List PyData}, DxA S H xs ds → DxA S H xs.reverse ds.reverse := by
      intro xs
      induction xs with
      | nil => intro ds r; cases r; exact .nil
      | cons v vs ih =>
        intro ds r
        cases r with
        | cons a t =>
          rw [List.reverse_cons, List.reverse_cons]
          exact (ih t).app (.cons a .nil)
    exact rv r
theorem revA {S : List Addr} {H : Hp} : ∀ {xs : List V} {ds : List PyData}, DxA S H xs ds → DxA S H xs.reverse ds.reverse := by
  intro xs
  induction xs with
  | nil => intro ds r; cases r; exact .nil
  | cons v vs ih =>
    intro ds r
    cases r with
    | cons a t =>
      rw [List.reverse_cons, List.reverse_cons]
      exact (ih t).app (.cons a .nil)
theorem rev_at {S : List Addr} {H : Hp} {sa : Addr} {ds : List PyData} (h : Dx S H (.ref sa) (.list ds)) : ∃ zs, H sa = some (.lst zs) ∧ DxA S H zs ds := by
  cases h with
  | lst n h r => exact ⟨_, h, r⟩
/-! ### a list of a net and of something is shown -/
section
variable {X : Cx} {es : List Expr} {t : TA} {pos : Pos}
def tLstX (t : TA) : TE := fun σ H Q => t σ H fun xs H1 => xs.length ≤ sizeLine ∧ ∀ p, H1 p = none → (p == sysModules) = false → Q (.ref p) (upd H1 p (.lst xs))
/-- a new list is not where the modules stand -/
theorem pe_lstX (h : PA X es t) : PE X (.List es pos) (tLstX t) := by
  refine ⟨fun pins s σ H Q I hq => ?_⟩
  refine wpAny_List_spliced (thn (h.run pos pins s σ H _ I hq) fun us s1 ⟨xs, H1, I1, r, z, q⟩ => ⟨by rw [← r.length]; exact z, ?_⟩)
  have hf : H1 s1.heap.objs.size = none := I1.hok.fresh (Nat.le_refl _)
  have hb : (s1.heap.objs.size == sysModules) = false := by
    have := I1.big
    simp only [beq_eq_false_iff_ne]
    exact Nat.ne_of_gt this
  refine ⟨.ref s1.heap.objs.size, upd H1 s1.heap.objs.size (.lst xs), I1.laid (t' := s1.toks) (fun b u e => Heap.get?_push_of_some _ e) (Nat.le_refl _) ?_, rfl, q _ hf hb⟩
  exact ⟨z, us, 0, r, Heap.get?_push_size _ rfl⟩
theorem lamp_reads {h : Heap} {v : Value} {p : Int × Option Nat} {as : List Addr} (r : Reads h v (lampD p) as) : as = [] := by
  obtain ⟨l, o⟩ := p
  cases r with
  | @tuple _ _ vs _ _ _ _ _ _ r =>
    generalize vs.toList = l at r
    cases r with
    | cons r1 r =>
      cases r with
      | cons r2 r =>
        cases r
        cases r1
        cases o with
        | none => cases r2; rfl
        | some y => cases r2; rfl
theorem lamps_reads {h : Heap} : ∀ {N : Net} {vs : List Value} {as : List Addr}, ReadsAll h vs (N.map lampD) as → as = []
  | [], _, _, r => by cases r; rfl
  | p :: N, _, _, r => by
    cases r with
    | cons r1 r2 => rw [lamp_reads r1, lamps_reads r2]; rfl
theorem net_reads {h : Heap} {v : Value} {N : Net} {as : List Addr} (r : Reads h v (netD N) as) : as = [] := by
  cases r with
  | tuple _ _ _ r => exact lamps_reads r
def pairD (N : Net) (d : PyData) : PyData := .list [netD N, d]
theorem call_reprPair {j : Nat} (hG : X.A.guards = some []) (rm : Room j X.A) : CallR X (.builtin "repr") (fun xs H Q => ∃ (S : List Addr) (b : Addr) (v u : V) (N : Net) (d : PyData), xs = [.ref b] ∧ H b = some (.lst [v, u]) ∧ (b == sysModules) = false ∧ Dx S H v (netD N) ∧ Dx S H u d ∧ (d.hasDict = false ∨ d = .dict []) ∧ (pairD N d).showable = true ∧ (pairD N d).depth < 150 ∧ (pairD N d).shown.length ≤ sizeLine ∧ Q (.str (pairD N d).shown) H) := by
  intro pins s σ H xs us Q I r h
  obtain ⟨S, b, v, u, N, d, rfl, hb, nb, hv, hu_, h2, h1, h3, h4, q⟩ := h
  obtain ⟨ub, rfl, ru⟩ := vals1 r
  obtain rfl : ub = Value.ref b := ru
  have hu := rm.un
  obtain ⟨_, its, m, rv, e⟩ := I.hok _ _ hb
  obtain ⟨w1, w2, rfl, r1, r2⟩ := vals2 rv
  obtain ⟨as1, q1⟩ := (hv.dp (net_noDict N) (K := X.K)).reads I _ _ _ r1
  have e1 := net_reads q1
  subst e1
  have fin : ∀ as2, Reads s.heap w2 d as2 → ((pairD N d).hasDict = true → sysModules ∉ as2) → wpAny (model X.prog X.w) X.A (call (.builtin "repr") [.ref b]) (EP X pins σ Q) X.xe s := fun as2 q2 hm =>
    repr_of_reads' (d := pairD N d) (as := b :: ([] ++ (as2 ++ []))) (Reads.list e rfl rfl (ReadsAll.cons q1 (ReadsAll.cons q2 ReadsAll.nil))) h1 (fun z y => by
      rcases List.mem_cons.mp y with y | y
      · rw [← y] at nb
        simp at nb
      · exact hm z (by simpa using y)) hG (by omega) (fun _ _ e => e) (fun h' u tk hk => ⟨.str (pairD N d).shown, H, I.kept (t' := tk) hk, ⟨u, rfl⟩, q⟩) h4
  rcases h2 with h2 | h2
  · obtain ⟨as2, q2⟩ := (hu_.dp h2 (K := X.K)).reads I _ _ _ r2
    refine fin as2 q2 fun z => ?_
    have : (pairD N d).hasDict = false := by
      show ((netD N).hasDict || (d.hasDict || false)) = false
      rw [net_noDict, h2]; rfl
    rw [this] at z
    cases z
  · subst h2
    cases hu_ with
    | @dic a n h =>
      obtain rfl : w2 = Value.ref a := r2
      obtain ⟨_, ns, vs, rk, o, es, ep, e', ⟨ec, _⟩, ed, _, hp, _⟩ := I.hok _ _ h
      cases rk
      have e0 : es.toList = [] := by
        generalize es.toList = l at hp
        cases hp
        rfl
      refine fin ([a] ++ []) (Reads.dict e' ec ed (as := []) (bs := []) (by rw [e0]; exact ReadsAll.nil) (by rw [e0]; exact ReadsAll.nil)) fun _ z => ?_
      simp only [List.append_nil, List.mem_singleton] at z
      rw [← z] at ns
      simp at ns
end
theorem net_fit {N : Net} (o : NetOk N) (s : Short N) : Fit 8000 2 (netD N) := (fit_tup (w := 600) (k := 1) (n := 12) (net_fits o s) (by rw [List.length_map]; exact o.hi)).mono (by decide) (by decide)
theorem pair_shows {N : Net} {d : PyData} (o : NetOk N) (s : Short N) (h : Fit 60000 50 d ∨ d = .dict []) : (d.hasDict = false ∨ d = .dict []) ∧ (pairD N d).showable = true ∧ (pairD N d).depth < 150 ∧ (pairD N d).shown.length ≤ sizeLine := by
  have fn := net_fit o s
  rcases h with h | rfl
  · have fp : Fit ((60000 + 1) * 2) (50 + 1) (pairD N d) := fit_lst (w := 60000) (k := 50) (n := 2) (fun e he => by
      simp only [List.mem_cons, List.not_mem_nil, or_false] at he
      rcases he with rfl | rfl
      · exact fn.mono (by decide) (by decide)
      · exact h) (Nat.le_refl _)
    obtain ⟨a, b⟩ := fp.shown (by decide)
    exact ⟨.inl (okD_noDict d h.ok), a, Nat.lt_of_le_of_lt fp.dp (by decide), b⟩
  · obtain ⟨a, b⟩ := fn.shown (by decide)
    refine ⟨.inr rfl, ?_, ?_, ?_⟩
    · show ((netD N).showable && (true && true)) = true
      rw [a]; rfl
    · have := fn.dp
      have e1 : (PyData.dict []).depth ≤ 1 := by decide
      show max (netD N).depth (max (PyData.dict []).depth 0) + 1 < 150
      omega
    · have h1 := shown_sz (netD N) fn.ok
      have h2 := fn.wt
      have h3 := listText_len_le [(netD N).shown, (PyData.dict []).shown]
      have h4 : (PyData.dict []).shown.length ≤ 10 := by decide
      have h5 : (listText [(netD N).shown, (PyData.dict []).shown]).length ≤ sizeLine := by
        rw [sizeLine_eq]
        simp only [List.map_cons, List.map_nil, List.sum_cons, List.sum_nil, List.length_cons, List.length_nil] at h3
        omega
      exact h5
end Em

namespace Em
open PySem PySem.Spec PyProof.Rows L2 Qt

/-! ### what is never written: numbers, texts, tuples of such -/
mutual
inductive Tu (H : Hp) : V → PyData → Prop
  | non : Tu H .non .none
  | bl (b : Bool) : Tu H (.bl b) (.bool b)
  | int (i : Int) : Tu H (.int i) (.int i)
  | str (z : Str) : Tu H (.str z) (.str z)
  | tup {a : Addr} {xs : List V} {ds : List PyData} (h : H a = some (.tup xs)) (r : TuA H xs ds) : Tu H (.ref a) (.tuple ds)
inductive TuA (H : Hp) : List V → List PyData → Prop
  | nil : TuA H [] []
  | cons {v : V} {vs : List V} {d : PyData} {ds : List PyData} (h : Tu H v d) (t : TuA H vs ds) : TuA H (v :: vs) (d :: ds)
end
/-- tuples stay -/
def Kt (H H' : Hp) : Prop := ∀ a xs, H a = some (.tup xs) → H' a = some (.tup xs)
theorem Kt.rfl' {H : Hp} : Kt H H := fun _ _ h => h
theorem Kt.tr {H H1 H2 : Hp} (a : Kt H H1) (b : Kt H1 H2) : Kt H H2 := fun p xs h => b p xs (a p xs h)
theorem Kt.new {H : Hp} {p : Addr} {o : HO} (n : H p = none) : Kt H (upd H p o) := fun a xs h => by rw [upd_ne (ne_of_none h n)]; exact h
theorem Kt.put {H : Hp} {p : Addr} {o u : HO} (h : H p = some u) (nt : ∀ xs, u ≠ .tup xs) : Kt H (upd H p o) := fun a xs q => by
  rw [upd_ne (fun z => by rw [z, h] at q; exact nt xs (Option.some.inj q))]; exact q
theorem Kp.kt {S : List Addr} {H H' : Hp} (k : Kp S H H') (hs : ∀ s ∈ S, ∀ xs, H s ≠ some (.tup xs)) : Kt H H' := fun a xs h => k.tup (fun z => hs a z xs h) h
theorem Kp.kt0 {H H' : Hp} (k : Kp [] H H') : Kt H H' := k.kt fun s z => by cases z
mutual
theorem Tu.kt {H H' : Hp} (k : Kt H H') : ∀ {v : V} {d : PyData}, Tu H v d → Tu H' v d
  | _, _, .non => .non
  | _, _, .bl b => .bl b
  | _, _, .int i => .int i
  | _, _, .str z => .str z
  | _, _, .tup h r => .tup (k _ _ h) (TuA.kt k r)
theorem TuA.kt {H H' : Hp} (k : Kt H H') : ∀ {v : List V} {d : List PyData}, TuA H v d → TuA H' v d
  | _, _, .nil => .nil
  | _, _, .cons h t => .cons (Tu.kt k h) (TuA.kt k t)
end
mutual
theorem Tu.dx {S : List Addr} {H : Hp} (hs : ∀ s ∈ S, ∀ xs, H s ≠ some (.tup xs)) : ∀ {v : V} {d : PyData}, Tu H v d → Dx S H v d
  | _, _, .non => .non
  | _, _, .bl b => .bl b
  | _, _, .int i => .int i
  | _, _, .str z => .str z
  | _, _, .tup h r => .tup (fun z => hs _ z _ h) h (TuA.dx hs r)
theorem TuA.dx {S : List Addr} {H : Hp} (hs : ∀ s ∈ S, ∀ xs, H s ≠ some (.tup xs)) : ∀ {v : List V} {d : List PyData}, TuA H v d → DxA S H v d
  | _, _, .nil => .nil
  | _, _, .cons h t => .cons (Tu.dx hs h) (TuA.dx hs t)
end
theorem Tu.dx0 {H : Hp} {v : V} {d : PyData} (h : Tu H v d) : Dx [] H v d := h.dx fun s z => by cases z
theorem TuA.dx0 {H : Hp} {v : List V} {d : List PyData} (h : TuA H v d) : DxA [] H v d := h.dx fun s z => by cases z
mutual
def flatD : PyData → Bool
  | .list _ | .dict _ => false
  | .tuple ds => flatAll ds
  | _ => true
def flatAll : List PyData → Bool
  | [] => true
  | d :: ds => flatD d && flatAll ds
end
mutual
theorem Dx.tu {S : List Addr} {H : Hp} : ∀ {v : V} {d : PyData}, Dx S H v d → flatD d = true → Tu H v d
  | _, _, .non, _ => .non
  | _, _, .bl b, _ => .bl b
  | _, _, .int i, _ => .int i
  | _, _, .str z, _ => .str z
  | _, _, .lst n h r, e => by simp [flatD] at e
  | _, _, .tup n h r, e => .tup h (DxA.tu r (by simpa [flatD] using e))
  | _, _, .dic n h, e => by simp [flatD] at e
theorem DxA.tu {S : List Addr} {H : Hp} : ∀ {v : List V} {d : List PyData}, DxA S H v d → flatAll d = true → TuA H v d
  | _, _, .nil, _ => .nil
  | _, _, @DxA.cons _ _ v vs d ds h t, e => by
    have e2 : flatD d = true ∧ flatAll ds = true := by simpa [flatAll] using e
    exact .cons (Dx.tu h e2.1) (DxA.tu t e2.2)
end
theorem flat_map {α : Type} {f : α → PyData} (h : ∀ a, flatD (f a) = true) : ∀ xs : List α, flatAll (xs.map f) = true
  | [] => rfl
  | x :: r => by
    show (flatD (f x) && flatAll (r.map f)) = true
    rw [h x, flat_map h r]; rfl
theorem flat_lamp (p : Int × Option Nat) : flatD (lampD p) = true := by
  obtain ⟨l, o⟩ := p
  cases o <;> rfl
theorem flat_net (N : Net) : flatD (netD N) = true := by
  show flatAll (N.map lampD) = true
  exact flat_map flat_lamp N
theorem Nw.tu {H H' : Hp} {v : V} {d : PyData} (h : Nw H H' v d) (e : flatD d = true) : Tu H' v d := (h [] fun s z => by cases z).tu e
theorem TuA.len {H : Hp} : ∀ {vs : List V} {ds : List PyData}, TuA H vs ds → vs.length = ds.length
  | _, _, .nil => rfl
  | _, _, .cons _ t => by rw [List.length_cons, List.length_cons, TuA.len t]
theorem TuA.get {H : Hp} : ∀ {vs : List V} {ds : List PyData} {i : Nat} {v : V}, TuA H vs ds → vs[i]? = some v → ∃ d, ds[i]? = some d ∧ Tu H v d
  | _, _, _, _, .nil, h => by cases h
  | _, _, 0, _, .cons a _, h => by cases h; exact ⟨_, rfl, a⟩
  | _, _, i + 1, _, .cons _ t, h => TuA.get (i := i) t (by simpa using h)
theorem TuA.get' {H : Hp} : ∀ {vs : List V} {ds : List PyData} {i : Nat} {d : PyData}, TuA H vs ds → ds[i]? = some d → ∃ v, vs[i]? = some v ∧ Tu H v d
  | _, _, _, _, .nil, h => by cases h
  | _, _, 0, _, .cons a _, h => by cases h; exact ⟨_, rfl, a⟩
  | _, _, i + 1, _, .cons _ t, h => TuA.get' (i := i) t (by simpa using h)
theorem TuA.app {H : Hp} : ∀ {vs ws : List V} {ds es : List PyData}, TuA H vs ds → TuA H ws es → TuA H (vs ++ ws) (ds ++ es)
  | _, _, _, _, .nil, h => h
  | _, _, _, _, .cons a t, h => .cons a (TuA.app t h)
theorem TuA.set {H : Hp} {v : V} {d : PyData} (h : Tu H v d) : ∀ {vs : List V} {ds : List PyData} (i : Nat), TuA H vs ds → TuA H (vs.set i v) (ds.set i d)
  | _, _, _, .nil => .nil
  | _, _, 0, .cons _ t => .cons h t
  | _, _, i + 1, .cons a t => .cons a (TuA.set h i t)
theorem TuA.rep {H : Hp} {v : V} {d : PyData} (h : Tu H v d) : ∀ n, TuA H (List.replicate n v) (List.replicate n d)
  | 0 => .nil
  | n + 1 => .cons h (TuA.rep h n)
theorem TuA.drop {H : Hp} : ∀ {vs : List V} {ds : List PyData} (n : Nat), TuA H vs ds → TuA H (vs.drop n) (ds.drop n)
  | _, _, 0, h => h
  | _, _, _ + 1, .nil => .nil
  | _, _, n + 1, .cons _ t => TuA.drop n t
theorem TuA.take {H : Hp} : ∀ {vs : List V} {ds : List PyData} (n : Nat), TuA H vs ds → TuA H (vs.take n) (ds.take n)
  | _, _, 0, _ => .nil
  | _, _, _ + 1, .nil => .nil
  | _, _, n + 1, .cons a t => .cons a (TuA.take n t)
theorem TuA.nats {H : Hp} : ∀ g : List Nat, TuA H (natV g) (g.map fun n : Nat => PyData.int (n : Int))
  | [] => .nil
  | n :: r => .cons (.int _) (TuA.nats r)
/-- the net's lamps in the heap -/
theorem tnet_at {H : Hp} {v : V} {N : Net} (h : Tu H v (netD N)) : ∃ (a : Addr) (xs : List V), v = .ref a ∧ H a = some (.tup xs) ∧ xs.length = N.length ∧ ∀ (i : Nat) (p : Int × Option Nat), N[i]? = some p → ∃ l, xs[i]? = some (V.ref l) ∧ H l = some (.tup [V.int p.1, nxV p.2]) := by
  obtain ⟨a, xs, e, _, h1, h2, h3⟩ := net_at h.dx0
  exact ⟨a, xs, e, h1, h2, fun i p hp => let ⟨l, q1, _, q2⟩ := h3 i p hp; ⟨l, q1, q2⟩⟩

/-! ### a list of lists of numbers, each its own -/
structure Bag (H : Hp) (c : Addr) (ps : List Addr) (css : List (List Nat)) : Prop where
  top : H c = some (.lst (ps.map V.ref))
  nd : (c :: ps).Nodup
  len : ps.length = css.length
  at_ : ∀ (i : Nat) p g, ps[i]? = some p → css[i]? = some g → H p = some (.lst (natV g))
theorem Bag.kp {S : List Addr} {H H1 : Hp} {c : Addr} {ps : List Addr} {css : List (List Nat)} (b : Bag H c ps css) (k : Kp S H H1) (hc : ∀ x ∈ c :: ps, x ∉ S) : Bag H1 c ps css :=
  ⟨k.lst (hc c List.mem_cons_self) b.top, b.nd, b.len, fun i p g hp hg => k.lst (hc p (List.mem_cons_of_mem _ (List.mem_of_getElem? hp))) (b.at_ i p g hp hg)⟩
theorem Bag.tr {H : Hp} {c : Addr} {ps : List Addr} {css : List (List Nat)} (b : Bag H c ps css) : ∀ x ∈ c :: ps, H x ≠ none := fun x hx => by
  rcases List.mem_cons.mp hx with rfl | hx
  · rw [b.top]; exact fun z => by cases z
  · obtain ⟨i, hi, e⟩ := List.getElem_of_mem hx
    have h1 : ps[i]? = some x := by rw [List.getElem?_eq_getElem hi, e]
    have h2 : css[i]? = some (css[i]'(by rw [← b.len]; exact hi)) := List.getElem?_eq_getElem _
    rw [b.at_ i x _ h1 h2]; exact fun z => by cases z
theorem Bag.ntup {H : Hp} {c : Addr} {ps : List Addr} {css : List (List Nat)} (b : Bag H c ps css) : ∀ x ∈ c :: ps, ∀ xs, H x ≠ some (.tup xs) := fun x hx xs => by
  rcases List.mem_cons.mp hx with rfl | hx
  · rw [b.top]; exact fun z => by cases z
  · obtain ⟨i, hi, e⟩ := List.getElem_of_mem hx
    have h1 : ps[i]? = some x := by rw [List.getElem?_eq_getElem hi, e]
    have h2 : css[i]? = some (css[i]'(by rw [← b.len]; exact hi)) := List.getElem?_eq_getElem _
    rw [b.at_ i x _ h1 h2]; exact fun z => by cases z
theorem Bag.get {H : Hp} {c : Addr} {ps : List Addr} {css : List (List Nat)} (b : Bag H c ps css) {i : Nat} (hi : i < css.length) : ∃ p g, css[i]? = some g ∧ ps[i]? = some p ∧ (ps.map V.ref)[i]? = some (V.ref p) ∧ H p = some (.lst (natV g)) ∧ p ∈ ps := by
  have h1 : ps[i]? = some (ps[i]'(by rw [b.len]; exact hi)) := List.getElem?_eq_getElem _
  have h2 : css[i]? = some css[i] := List.getElem?_eq_getElem hi
  exact ⟨_, _, h2, h1, by rw [List.getElem?_map, h1]; rfl, b.at_ i _ _ h1 h2, List.getElem_mem _⟩
theorem nodup_get {α : Type} {l : List α} (h : l.Nodup) {i j : Nat} {x : α} (hi : l[i]? = some x) (hj : l[j]? = some x) : i = j := by
  exact (List.getElem?_inj (List.getElem?_eq_some_iff.mp hi).1 h).mp (hi.trans hj.symm)
theorem Bag.put {H : Hp} {c : Addr} {ps : List Addr} {css : List (List Nat)} (b : Bag H c ps css) {i : Nat} {p : Addr} (hp : ps[i]? = some p) (g : List Nat) : Bag (upd H p (.lst (natV g))) c ps (css.set i g) := by
  have hcp : c ≠ p := fun e => (List.nodup_cons.mp b.nd).1 (e ▸ List.mem_of_getElem? hp)
  refine ⟨by rw [upd_ne hcp]; exact b.top, b.nd, by rw [List.length_set]; exact b.len, fun j q u hq hu => ?_⟩
  by_cases e : j = i
  · subst e
    rw [hp] at hq
    cases hq
    rw [List.getElem?_set_self (by have := (List.getElem?_eq_some_iff.mp hp).1; have := b.len; omega)] at hu
    cases hu
    exact upd_same
  · rw [List.getElem?_set_ne (fun z => e z.symm)] at hu
    have hqp : q ≠ p := fun z => e (nodup_get (List.nodup_cons.mp b.nd).2 (z ▸ hq) hp)
    rw [upd_ne hqp]
    exact b.at_ j q u hq hu
/-- one more list, empty -/
theorem Bag.more {H : Hp} {c : Addr} {ps : List Addr} {css : List (List Nat)} (b : Bag H c ps css) {p : Addr} (np : H p = none) : Bag (upd (upd H p (.lst [])) c (.lst (ps.map V.ref ++ [.ref p]))) c (ps ++ [p]) (css ++ [[]]) := by
  have hpc : ∀ x ∈ c :: ps, x ≠ p := fun x hx e => b.tr x hx (e ▸ np)
  refine ⟨by rw [upd_same, List.map_append]; rfl, ?_, by rw [List.length_append, List.length_append, b.len]; rfl, fun i q g hq hg => ?_⟩
  · rw [← List.cons_append, List.nodup_append]
    exact ⟨b.nd, by simp, fun x hx y hy => by rw [List.mem_singleton.mp hy]; exact hpc x hx⟩
  · have hqc : q ≠ c := fun e => by
      rcases List.mem_append.mp (List.mem_of_getElem? hq) with z | z
      · exact (List.nodup_cons.mp b.nd).1 (e ▸ z)
      · exact hpc c List.mem_cons_self (e ▸ List.mem_singleton.mp z)
    rw [upd_ne hqc]
    by_cases hi : i < ps.length
    · rw [List.getElem?_append_left hi] at hq
      rw [List.getElem?_append_left (by rw [← b.len]; exact hi)] at hg
      rw [upd_ne (hpc q (List.mem_cons_of_mem _ (List.mem_of_getElem? hq)))]
      exact b.at_ i q g hq hg
    · have e : i = ps.length := by
        have := (List.getElem?_eq_some_iff.mp hq).1
        rw [List.length_append] at this
        simp at this
        omega
      subst e
      rw [List.getElem?_append_right (Nat.le_refl _), Nat.sub_self] at hq
      rw [b.len, List.getElem?_append_right (Nat.le_refl _), Nat.sub_self] at hg
      cases hq
      cases hg
      exact upd_same
theorem natV_map (g : List Nat) : natV g = (g.map fun n : Nat => (n : Int)).map V.int := by unfold natV; rw [List.map_map]; rfl

/-! ### no part longer than 100,000 -/
mutual
def wdB : PyData → Bool
  | .list ds | .tuple ds => decide (ds.length < 100000) && wdAll ds
  | _ => true
def wdAll : List PyData → Bool
  | [] => true
  | d :: ds => wdB d && wdAll ds
end
theorem wd_len : 100000 < sizeLine := by rw [sizeLine_eq]; decide
theorem wd_mem {d : PyData} : ∀ {ds : List PyData}, wdAll ds = true → d ∈ ds → wdB d = true
  | [], _, h => by cases h
  | e :: ds, h, hm => by
    have h2 : wdB e = true ∧ wdAll ds = true := by simpa [wdAll] using h
    rcases List.mem_cons.mp hm with rfl | hm
    · exact h2.1
    · exact wd_mem h2.2 hm
theorem wd_map {α : Type} {f : α → PyData} (h : ∀ a, wdB (f a) = true) : ∀ xs : List α, wdAll (xs.map f) = true
  | [] => rfl
  | x :: r => by
    show (wdB (f x) && wdAll (r.map f)) = true
    rw [h x, wd_map h r]; rfl
theorem wd_list {ds : List PyData} (h : ds.length < 100000) (h2 : wdAll ds = true) : wdB (.list ds) = true := by
  show (decide _ && wdAll ds) = true
  rw [decide_eq_true h, h2]; rfl

/-! ### sorted numbers -/
def srt (g : List Nat) : List Nat := g.mergeSort
theorem srt_perm (g : List Nat) : (srt g).Perm g := List.mergeSort_perm g _
theorem srt_up (g : List Nat) : (srt g).Pairwise (· ≤ ·) := by
  have := List.pairwise_mergeSort (le := fun a b : Nat => decide (a ≤ b)) (fun a b c h1 h2 => by simp at *; omega) (fun a b => by simp; omega) g
  exact this.imp fun h => by simpa using h
theorem perm_up : ∀ {l m : List Int}, l.Perm m → l.Pairwise (· ≤ ·) → m.Pairwise (· ≤ ·) → l = m
  | [], m, h, _, _ => by rw [List.nil_perm.mp h]
  | a :: l, m, h, h1, h2 => by
    cases m with
    | nil => exact absurd h.length_eq (by simp)
    | cons b m =>
      have e : a = b := by
        have q1 : b ∈ a :: l := h.mem_iff.mpr List.mem_cons_self
        have q2 : a ∈ b :: m := h.mem_iff.mp List.mem_cons_self
        have r1 : a ≤ b := by
          rcases List.mem_cons.mp q1 with z | z
          · omega
          · exact (List.pairwise_cons.mp h1).1 b z
        have r2 : b ≤ a := by
          rcases List.mem_cons.mp q2 with z | z
          · omega
          · exact (List.pairwise_cons.mp h2).1 a z
        omega
      subst e
      rw [perm_up (List.Perm.cons_inv h) (List.pairwise_cons.mp h1).2 (List.pairwise_cons.mp h2).2]
theorem srt_of {g : List Nat} {ns : List Int} (h : ns.Perm (g.map fun n : Nat => (n : Int))) (h2 : ns.Pairwise (· ≤ ·)) : ns = (srt g).map fun n : Nat => (n : Int) :=
  perm_up (h.trans ((srt_perm g).symm.map _)) h2 (by
    rw [List.pairwise_map]
    exact (srt_up g).imp fun h => by omega)
theorem srt_len (g : List Nat) : (srt g).length = g.length := (srt_perm g).length_eq
end Em

namespace Em
open PySem PySem.Spec PyProof.Rows L2 Qt
open AutoSeq1 (wpAny_loadPart')

/-! ### zip of two tuples -/
theorem walk_zipT {K : PySem.W.Frag} {a b : Addr} {xs ys : List V} {m : Nat} (hm : m = min xs.length ys.length) :
    Walk (RZ.ItzT K a b) m (fun H => SqT K H a xs ∧ SqT K H b ys) (YPair (fun i => xs[i]?) fun i => ys[i]?) where
  goes i H hi g := by
    have c1 : i < xs.length := by omega
    have c2 : i < ys.length := by omega
    exact ⟨xs, ys, xs[i], ys[i], g.1, g.2, List.getElem?_eq_getElem c1, List.getElem?_eq_getElem c2⟩
  stops H g := ⟨xs, ys, g.1, g.2, by omega⟩
  yields i H v H' hi g y := by
    obtain ⟨T, x, z, e1, e2, e3, e4, e5⟩ := y
    exact ⟨T, x, z, e1, e2, e3, e4 xs g.1, e5 ys g.2⟩

/-- (a, b, ..) = t within a comprehension, the written part told -/
theorem pg_tupK {X : Cx} {K : PySem.W.Frag} (e : X.K = K) {es : List Expr} {k : Nat} {t : TGs} {n : Nat} {pos : Pos} (hc : X.calm = true) (h : PGs X es t)
    (hn : (assignEach es X.env).length = n := by rfl) (hst : (assignEach es X.env).findIdx? (·.1) = none := by rfl) : PG X (.Tuple es k pos) (gTup K n t) := e ▸ pg_tup hc h hn hst

/-! ### enumerate of a tuple -/
def tIter (l : Addr) : Obj := { cls := .type "tuple_iterator", data := .fields #[.ref l, .int 0 0] }
def tEnum (it : Addr) : Obj := { cls := .type "enumerate", data := .fields #[.none, .bool false, .ref it, rawInt 0, .none, .none] }
theorem enumT_new (l : Addr) (vs : Array Value) (n : Nat) (dd : Option Addr) (sl : Array (Option Value)) :
    Meets (Builtin.«enumerate.__new__» ⟨[.type "enumerate", .ref l], []⟩) (fun _ R s => s.heap.get? l = some { cls := .type "tuple", dict := dd, data := .seq vs n, slots := sl } ∧
      R (.ok (.ret (.ref (s.heap.push (tIter l)).objs.size))) { s with heap := (s.heap.push (tIter l)).push (tEnum s.heap.objs.size) }) :=
  .of_wp fun prog w A R s h => by
    obtain ⟨H0, g0, d0, tk0, os0⟩ := s
    obtain ⟨hl, hR⟩ := h
    have hsub := sub_enumerate
    have hT : Heap.IsTuple (Shared.heap ⟨H0, g0, d0, tk0, os0⟩) l vs := ⟨_, hl, rfl, n, rfl⟩
    wp_walk using wpAny_loadPart' hl
    refine wpAny_stack_any fun st => wpAny_pure ?_
    split
    · rename_i c _ _ _ _ _
      cases (c == Value.type "enumerate") <;> (wp_walk using wpAny_loadPart' hl, wpAny_pyIter_tuple hT; exact ⟨_, rfl, hR⟩)
    · (wp_walk using wpAny_loadPart' hl, wpAny_pyIter_tuple hT)
      exact ⟨_, rfl, hR⟩
section
variable {P : Program} {w : World} {A : Around} {E : Value → Shared → Prop} {s : Shared}
theorem call_enumT {l : Addr} {vs : Array Value} {Q : Value → Shared → Prop} (hT : s.heap.IsTuple l vs)
    (q : ∀ g : Heap, IsEnum g (s.heap.objs.size + 1) s.heap.objs.size 0 .none → g.IsTupleIter s.heap.objs.size l 0 → (∀ b o, s.heap.get? b = some o → g.get? b = some o) → Q (.ref (s.heap.objs.size + 1)) { s with heap := g }) :
    wpAny (model P w) A (call (.type "enumerate") [.ref l]) Q E s := by
  obtain ⟨⟨c, dd, dt, sl⟩, hl, hc, n, hd⟩ := hT
  obtain rfl : c = .type "tuple" := hc
  obtain rfl : dt = .seq vs n := hd
  refine callType_new F.called_enumerate (by decide) (F.typeCall_enumerate_1 _) (F.newCall_enumerate_1 _)
    (fun obj => F.args_object_init_2 obj _) F.entry_enumerate_new (enumT_new l vs n dd sl) ⟨hl, ?_⟩
  have z1 : (s.heap.push (tIter l)).objs.size = s.heap.objs.size + 1 := Heap.size_push ..
  have he : ((s.heap.push (tIter l)).push (tEnum s.heap.objs.size)).get? (s.heap.objs.size + 1) = some (tEnum s.heap.objs.size) := by
    have e := Heap.get?_push_size (s.heap.push (tIter l)) (o := tEnum s.heap.objs.size) rfl
    rwa [z1] at e
  show _ ∧ _
  rw [z1]
  refine ⟨⟨_, he, rfl⟩, q _ he ?_ fun b o x => Heap.get?_push_of_some _ (Heap.get?_push_of_some _ x)⟩
  exact ⟨tIter l, Heap.get?_push_of_some _ (Heap.get?_push_size _ rfl), rfl, rfl⟩
end
/-- the tuple at a, each item in a new pair with its number -/
def IteT (K : PySem.W.Frag) (a : Addr) : It :=
  ⟨fun i H => ∃ (xs : List V) (x : V), SqT K H a xs ∧ xs[i]? = some x,
    fun i H v H' => ∃ T x, v = .ref T ∧ H T = none ∧ H' = upd H T (.tup [.int (i : Nat), x]) ∧ ∀ xs, SqT K H a xs → xs[i]? = some x,
    fun i H => ∃ xs : List V, SqT K H a xs ∧ xs.length = i⟩
theorem turn_enumT {P : Program} {w : World} {K : PySem.W.Frag} {elts : List Expr} {kk : Nat} {tpos : Pos} (a e it : Addr) :
    Turn P w K (.Tuple elts kk tpos) (IteT K a) [e, it] e (fun i h => (∃ old, IsEnum h e it ((i : Nat) : Int) old) ∧ h.IsTupleIter it a i ∧ e ≠ it ∧ a ≠ it ∧ a ≠ e) where
  mem := by simp
  obj := fun i h st b hb => by
    obtain ⟨⟨old, he⟩, ⟨o, ho, hc, hd⟩, _⟩ := st
    have hb2 : b = e ∨ b = it := by simpa using hb
    rcases hb2 with z | z <;> rw [z]
    · exact ⟨_, he, fun v q => nomatch q⟩
    · exact ⟨o, ho, fun v q => by rw [hd] at q; cases q⟩
  keep := fun i h h' st k => by
    obtain ⟨⟨old, he⟩, hi, hne⟩ := st
    exact ⟨⟨old, k e (by simp) _ he⟩, hi.at fun o q => k it (by simp) o q, hne⟩
  item := by
    intro X hP hw hK hc i pins s σ H E I hf st hg
    subst hP hw hK
    obtain ⟨⟨old, he⟩, hit, hne, hai, hae⟩ := st
    obtain ⟨xs, x, hq, hx⟩ := hg
    obtain ⟨its, rv, tp, hz⟩ := I.tuple hq
    obtain ⟨u, hu, ru⟩ := rv.get hx
    have le : e < s.heap.objs.size := Heap.lt_size he
    have li : it < s.heap.objs.size := let ⟨_, q, _⟩ := hit; Heap.lt_size q
    have hlt : i < its.toArray.size := by have := (List.getElem?_eq_some_iff.mp hu).1; simpa using this
    have hin : e ∉ [it, a] := by simp [hne, Ne.symm hae]
    refine wpAny_pyNext_enum_itemD (Draws.tuple (A := X.A.in1) (I.ok.hd hc) it a hai its.toArray) he ⟨hit, show s.heap.IsTuple a its.toArray from tp⟩ hlt hne hin fun y g tk hy ho hst hT hsz hk => ?_
    obtain rfl : y = u := by
      have hy2 : its.toArray[i]? = some y := hy
      rw [show its.toArray[i]? = its[i]? by simp, hu] at hy2
      exact (Option.some.inj hy2).symm
    refine ⟨_, rfl, wpAny_letOwnedTupleGo_enum (s := { s with heap := g, toks := tk + 1 }) ho fun g2 he2 sb => ?_⟩
    have hT2 : g2.get? s.heap.objs.size = some { cls := .type "tuple", data := .seq #[.int i tk, y] } := (sb.2 _ (Nat.ne_of_gt le)).trans hT
    have nw : ObjOk X.prog X.w (upd H s.heap.objs.size (.tup [.int (i : Nat), x])) g2 s.heap.objs.size (.tup [.int (i : Nat), x]) :=
      ⟨(by show 2 ≤ sizeLine; decide), [.int i tk, y], .cons ⟨_, rfl⟩ (.cons ru .nil), ⟨_, hT2, rfl, _, rfl⟩⟩
    have I1 : Inv X pins σ (upd H s.heap.objs.size (.tup [.int (i : Nat), x])) { s with heap := g2, toks := tk + 1 } :=
      I.turnedNew (ch := [e, it]) (fun b ob hb q => by
        have n1 : b ≠ e := fun z => hb (by simp [z])
        have n2 : b ≠ it := fun z => hb (by simp [z])
        exact (sb.2 b n1).trans (hk b ob n1 n2 q)) hf (Nat.le_refl _) nw
    refine ⟨.ref s.heap.objs.size, _, I1, rfl, ⟨_, x, rfl, I.hok.fresh (Nat.le_refl _), rfl, fun ys hy => by rw [I.tuple_inj hy hq]; exact hx⟩, ⟨⟨y, ?_⟩, hst.1.at fun o q => (sb.2 it (Ne.symm hne)).trans q, hne, hai, hae⟩, fun b hb => ?_⟩
    · rw [show ((i + 1 : Nat) : Int) = (i : Int) + 1 by omega]
      exact he2
    · have hb2 : b = e ∨ b = it := by simpa using hb
      have hb3 : b < s.heap.objs.size := by rcases hb2 with z | z <;> rw [z] <;> assumption
      rw [upd_ne (Nat.ne_of_lt hb3)]
      exact (hf b hb).1
  done := by
    intro X hP hw hK hc i pins s σ H E I hf st hg
    subst hP hw hK
    obtain ⟨⟨old, he⟩, hit, hne, hai, hae⟩ := st
    obtain ⟨xs, hq, hx⟩ := hg
    obtain ⟨its, rv, tp, hz⟩ := I.tuple hq
    obtain ⟨f0, f1, f2, f3, f4, f5⟩ := hf it (by simp)
    have hl := rv.length
    have hTT : s.heap.IsTuple a its.toArray := tp
    have en : i = its.toArray.size := by rw [List.size_toArray]; omega
    refine wpAny_pyNext_enum_endD (Draws.tuple (A := X.A.in1) (I.ok.hd hc) it a hai its.toArray) he ⟨en ▸ hit, hTT⟩ fun g eb => ?_
    exact ⟨rfl, I.turned (t' := s.toks) (fun b o hb q => eb b o hb q) f0 f1 f3 f4 f5⟩
  self := fun A i s Q E st h => let ⟨⟨_, he⟩, _⟩ := st; wpAny_pyIter_enum he h
def iEnumT (K : PySem.W.Frag) (ta : TA) : TI := fun σ H R => ta σ H fun us H1 => ∃ a xs, us = [.ref a] ∧ SqT K H1 a xs ∧ R (IteT K a) H1
theorem pi_enumT {X : Cx} {e : Expr} {ta : TA} {p pos tpos : Pos} {elts : List Expr} {kk : Nat} (hg : Gl X "enumerate") (hm : X.mg "enumerate" = none) (ha : PA X [e] ta)
    (hs : starEach [e] X.env = [(false, eval e X.env)] := by rfl) : PI X (.Tuple elts kk tpos) (.Call (.Name "enumerate" p) [e] [] pos) (iEnumT X.K ta) := by
  refine ⟨fun pins s σ H R I h => Call_ (ld_blt I hg hm boot_enumerate (PyProof.Rows.callWith_type1 (thn (ha.run pos pins s σ H _ I h) fun us s1 ⟨vs, H1, I1, r1, q1⟩ => ?_) hs rfl))⟩
  obtain ⟨a, xs, rfl, hq, q⟩ := q1
  obtain ⟨u1, rfl, ru⟩ := vals1 r1
  cases ru
  obtain ⟨its, rv, tp, hz⟩ := I1.tuple hq
  have la : a < s1.heap.objs.size := by
    obtain ⟨o, ho, _⟩ := id tp
    exact Heap.lt_size ho
  refine call_enumT (show s1.heap.IsTuple a its.toArray from tp) fun g he hit hk => wpAny_pyIter_enum he ?_
  have I2 : Inv X pins σ H1 { s1 with heap := g } := I1.kept (t' := s1.toks) hk
  refine ⟨s1.heap.objs.size + 1, [s1.heap.objs.size + 1, s1.heap.objs.size], _, _, H1, rfl, I2, turn_enumT a (s1.heap.objs.size + 1) s1.heap.objs.size,
    ⟨⟨.none, he⟩, hit, Nat.succ_ne_self _, Nat.ne_of_lt la, Nat.ne_of_lt (Nat.lt_succ_of_lt la)⟩, fun b hb => ?_, q⟩
  have hb2 : b = s1.heap.objs.size + 1 ∨ b = s1.heap.objs.size := by simpa using hb
  have hle : s1.heap.objs.size ≤ b := by
    rcases hb2 with z | z <;> rw [z]
    · exact Nat.le_add_right _ _
    · exact Nat.le_refl _
  exact I1.fpOk hle (I1.hok.fresh hle)
theorem walk_enumT {K : PySem.W.Frag} {a : Addr} {xs : List V} : Walk (IteT K a) xs.length (fun H => SqT K H a xs) (YPair (fun i => some (.int (i : Nat))) fun i => xs[i]?) where
  goes i H hi g := ⟨xs, xs[i], g, List.getElem?_eq_getElem hi⟩
  stops H g := ⟨xs, g, rfl⟩
  yields i H v H' hi g y := by
    obtain ⟨T, x, e1, e2, e3, e4⟩ := y
    exact ⟨T, .int (i : Nat), x, e1, e2, e3, rfl, e4 xs g⟩
end Em

namespace Em
open PySem PySem.Spec PyProof.Rows L2 Qt

/-! ### a beat of the walk -/
/-- how long a lamp burns -/
def burnOf (N : Net) (x : Nat) : Int := (N.getD x (1, none)).1
theorem burnOf_get {N : Net} {x : Nat} {p : Int × Option Nat} (h : N[x]? = some p) : burnOf N x = p.1 := by
  unfold burnOf
  rw [List.getD_eq_getElem?_getD, h]
  rfl
abbrev Lt := Option (Nat × Nat)
inductive Row where
  | ended (b k f : Nat)
  | lit (b k f : Nat)
  | lost (b k f g : Nat)
def rowD : Row → PyData
  | .ended b k f => .tuple [.str "ended", .int b, .int k, .int f]
  | .lit b k f => .tuple [.str "lit", .int b, .int k, .int f]
  | .lost b k f g => .tuple [.str "lost", .int b, .int k, .int f, .int g]
def Row.at_ : Row → Nat
  | .ended b _ _ | .lit b _ _ | .lost b _ _ _ => b
def lightD : Lt → PyData
  | none => .none
  | some (f, t) => .tuple [.int f, .int t]
def waitD (p : Nat × Nat) : PyData := .tuple [.int p.1, .int p.2]
structure Dk where
  L : List Lt
  css : List (List Nat)
  rows : List Row
def darkK (N : Net) (b k : Nat) (s : Dk) : Dk :=
  match s.L.getD k none with
  | none => s
  | some (f, t) => if (b : Int) < (t : Int) + burnOf N k then s else
    match nxt N k with
    | none => ⟨s.L.set k none, s.css, s.rows ++ [.ended b k f]⟩
    | some y => ⟨s.L.set k none, s.css.set y (s.css.getD y [] ++ [f]), s.rows⟩
def darkN (N : Net) (b : Nat) : Nat → Dk → Dk
  | 0, s => s
  | k + 1, s => darkK N b k (darkN N b k s)
def addK (css : List (List Nat)) (p : Nat × Nat) : List (List Nat) := css.set p.2 (css.getD p.2 [] ++ [p.1])
def addW (css : List (List Nat)) (W : List (Nat × Nat)) : List (List Nat) := W.foldl addK css
def meet (b k : Nat) : Lt → List Nat → Lt × List Row
  | some (g, t), fs => (some (g, t), fs.map fun f => .lost b k f g)
  | none, [] => (none, [])
  | none, f :: r => (some (f, b), .lit b k f :: r.map fun g => .lost b k g f)
structure Ms where
  L : List Lt
  rows : List Row
def meetK (b : Nat) (css : List (List Nat)) (k : Nat) (s : Ms) : Ms :=
  ⟨s.L.set k (meet b k (s.L.getD k none) (srt (css.getD k []))).1, s.rows ++ (meet b k (s.L.getD k none) (srt (css.getD k []))).2⟩
def meetN (b : Nat) (css : List (List Nat)) : Nat → Ms → Ms
  | 0, s => s
  | k + 1, s => meetK b css k (meetN b css k s)
def darkA (N : Net) (b : Nat) (L : List Lt) : Dk := darkN N b N.length ⟨L, List.replicate N.length [], []⟩
def beatA (N : Net) (b : Nat) (L : List Lt) (W : List (Nat × Nat)) : Ms :=
  meetN b (addW (darkA N b L).css W) N.length ⟨(darkA N b L).L, (darkA N b L).rows⟩

/-! ### sizes -/
def tot (css : List (List Nat)) : Nat := (css.map List.length).sum
theorem tot_mem {css : List (List Nat)} {g : List Nat} (h : g ∈ css) : g.length ≤ tot css := by
  induction css with
  | nil => cases h
  | cons c r ih =>
    show g.length ≤ c.length + tot r
    rcases List.mem_cons.mp h with rfl | h
    · exact Nat.le_add_right _ _
    · exact Nat.le_trans (ih h) (Nat.le_add_left _ _)
theorem tot_put (css : List (List Nat)) (k f : Nat) : tot (css.set k (css.getD k [] ++ [f])) ≤ tot css + 1 := by
  induction css generalizing k with
  | nil => exact Nat.zero_le _
  | cons c r ih =>
    cases k with
    | zero =>
      show (c ++ [f]).length + tot r ≤ c.length + tot r + 1
      rw [List.length_append]
      simp
      omega
    | succ k =>
      have := ih k
      show c.length + tot (r.set k (r.getD k [] ++ [f])) ≤ c.length + tot r + 1
      omega
theorem tot_rep (n : Nat) : tot (List.replicate n []) = 0 := by
  unfold tot
  rw [List.map_replicate, List.sum_replicate_nat]
  simp
theorem darkK_len (N : Net) (b k : Nat) (s : Dk) : (darkK N b k s).L.length = s.L.length ∧ (darkK N b k s).css.length = s.css.length ∧ (darkK N b k s).rows.length + tot (darkK N b k s).css ≤ s.rows.length + tot s.css + 1 := by
  unfold darkK
  split
  · exact ⟨rfl, rfl, Nat.le_succ _⟩
  · rename_i f t _
    split
    · exact ⟨rfl, rfl, Nat.le_succ _⟩
    · split
      · refine ⟨List.length_set, rfl, ?_⟩
        show (s.rows ++ [_]).length + _ ≤ _
        rw [List.length_append]
        simp
        omega
      · rename_i y _
        have := tot_put s.css y f
        exact ⟨List.length_set, List.length_set, by show s.rows.length + tot (s.css.set y (s.css.getD y [] ++ [f])) ≤ _; omega⟩
theorem darkN_len (N : Net) (b : Nat) (s : Dk) : ∀ k, (darkN N b k s).L.length = s.L.length ∧ (darkN N b k s).css.length = s.css.length ∧ (darkN N b k s).rows.length + tot (darkN N b k s).css ≤ s.rows.length + tot s.css + k
  | 0 => ⟨rfl, rfl, Nat.le_refl _⟩
  | k + 1 => by
    obtain ⟨a1, a2, a3⟩ := darkN_len N b s k
    obtain ⟨b1, b2, b3⟩ := darkK_len N b k (darkN N b k s)
    exact ⟨b1.trans a1, b2.trans a2, by show _ ≤ _; exact Nat.le_trans b3 (by omega)⟩
theorem darkN_step (N : Net) (b : Nat) (s : Dk) (k : Nat) : (darkN N b k s).rows.length + tot (darkN N b k s).css ≤ s.rows.length + tot s.css + k := (darkN_len N b s k).2.2
theorem addW_len (W : List (Nat × Nat)) : ∀ css : List (List Nat), (addW css W).length = css.length ∧ tot (addW css W) ≤ tot css + W.length := by
  induction W with
  | nil => exact fun css => ⟨rfl, Nat.le_refl _⟩
  | cons p r ih =>
    intro css
    obtain ⟨a1, a2⟩ := ih (addK css p)
    have h1 : (addK css p).length = css.length := List.length_set
    have h2 := tot_put css p.2 p.1
    refine ⟨a1.trans h1, ?_⟩
    show tot (addW (addK css p) r) ≤ _
    have h3 : tot (addK css p) ≤ tot css + 1 := h2
    rw [List.length_cons]
    omega
theorem addW_more (css : List (List Nat)) (W : List (Nat × Nat)) (p : Nat × Nat) : addW css (W ++ [p]) = addK (addW css W) p := by
  unfold addW
  rw [List.foldl_append]
  rfl
theorem meet_len (b k : Nat) (l : Lt) (fs : List Nat) : (meet b k l fs).2.length = fs.length := by
  cases l with
  | some p => simp [meet]
  | none => cases fs <;> simp [meet]
theorem meetK_len (b : Nat) (css : List (List Nat)) (k : Nat) (s : Ms) : (meetK b css k s).L.length = s.L.length ∧ (meetK b css k s).rows.length = s.rows.length + (css.getD k []).length := by
  refine ⟨List.length_set, ?_⟩
  show (s.rows ++ (meet b k (s.L.getD k none) (srt (css.getD k []))).2).length = _
  rw [List.length_append, meet_len, srt_len]
theorem meetN_len (b : Nat) (css : List (List Nat)) (s : Ms) : ∀ k, (meetN b css k s).L.length = s.L.length ∧ (meetN b css k s).rows.length ≤ s.rows.length + tot (css.take k)
  | 0 => ⟨rfl, Nat.le_add_right _ _⟩
  | k + 1 => by
    obtain ⟨a1, a2⟩ := meetN_len b css s k
    obtain ⟨b1, b2⟩ := meetK_len b css k (meetN b css k s)
    refine ⟨b1.trans a1, ?_⟩
    show (meetK b css k (meetN b css k s)).rows.length ≤ _
    rw [b2]
    by_cases hk : k < css.length
    · have e : tot (css.take (k + 1)) = tot (css.take k) + (css.getD k []).length := by
        rw [List.take_add_one, List.getElem?_eq_getElem hk]
        unfold tot
        rw [List.map_append, List.sum_append, List.getD_eq_getElem?_getD, List.getElem?_eq_getElem hk]
        simp
      omega
    · have e1 : css.getD k [] = [] := by rw [List.getD_eq_getElem?_getD, List.getElem?_eq_none (by omega)]; rfl
      have e2 : css.take (k + 1) = css.take k := by rw [List.take_of_length_le (by omega), List.take_of_length_le (by omega)]
      rw [e1, e2]
      simpa using a2
theorem tot_take (css : List (List Nat)) (k : Nat) : tot (css.take k) ≤ tot css := by
  have e : tot css = tot (css.take k) + tot (css.drop k) := by
    unfold tot
    rw [← List.sum_append, ← List.map_append, List.take_append_drop]
  omega
theorem darkA_len {N : Net} {b : Nat} {L : List Lt} (h : L.length = N.length) : (darkA N b L).L.length = N.length ∧ (darkA N b L).css.length = N.length ∧ (darkA N b L).rows.length + tot (darkA N b L).css ≤ N.length := by
  obtain ⟨a1, a2, a3⟩ := darkN_len N b ⟨L, List.replicate N.length [], []⟩ N.length
  refine ⟨a1.trans h, a2.trans (List.length_replicate), ?_⟩
  have e : ([] : List Row).length + tot (List.replicate N.length []) + N.length = N.length := by rw [tot_rep]; simp
  exact Nat.le_trans a3 (Nat.le_of_eq e)
theorem beatA_len {N : Net} {b : Nat} {L : List Lt} {W : List (Nat × Nat)} (h : L.length = N.length) : (beatA N b L W).L.length = N.length ∧ (beatA N b L W).rows.length ≤ N.length + W.length := by
  obtain ⟨a1, a2, a3⟩ := darkA_len (b := b) h
  obtain ⟨b1, b2⟩ := addW_len W (darkA N b L).css
  obtain ⟨c1, c2⟩ := meetN_len b (addW (darkA N b L).css W) ⟨(darkA N b L).L, (darkA N b L).rows⟩ N.length
  refine ⟨c1.trans a1, Nat.le_trans c2 ?_⟩
  have := tot_take (addW (darkA N b L).css W) N.length
  show (darkA N b L).rows.length + _ ≤ _
  omega
/-! ### the rows of a beat are of that beat -/
theorem darkN_at (N : Net) (b : Nat) (s : Dk) (h : ∀ r ∈ s.rows, r.at_ = b) : ∀ k, ∀ r ∈ (darkN N b k s).rows, r.at_ = b
  | 0 => h
  | k + 1 => by
    intro r hr
    have ih := darkN_at N b s h k
    have hr2 : r ∈ (darkK N b k (darkN N b k s)).rows := hr
    unfold darkK at hr2
    split at hr2
    · exact ih r hr2
    · split at hr2
      · exact ih r hr2
      · split at hr2
        · rcases List.mem_append.mp hr2 with z | z
          · exact ih r z
          · rw [List.mem_singleton.mp z]; rfl
        · exact ih r hr2
theorem meet_at (b k : Nat) (l : Lt) (fs : List Nat) : ∀ r ∈ (meet b k l fs).2, r.at_ = b := by
  intro r hr
  cases l with
  | some p =>
    obtain ⟨f, _, rfl⟩ := List.mem_map.mp (show r ∈ fs.map _ from hr)
    rfl
  | none =>
    cases fs with
    | nil => cases hr
    | cons f g =>
      rcases List.mem_cons.mp (show r ∈ Row.lit b k f :: g.map _ from hr) with rfl | z
      · rfl
      · obtain ⟨f, _, rfl⟩ := List.mem_map.mp z
        rfl
theorem meetN_at (b : Nat) (css : List (List Nat)) (s : Ms) (h : ∀ r ∈ s.rows, r.at_ = b) : ∀ k, ∀ r ∈ (meetN b css k s).rows, r.at_ = b
  | 0 => h
  | k + 1 => by
    intro r hr
    rcases List.mem_append.mp (show r ∈ (meetN b css k s).rows ++ _ from hr) with z | z
    · exact meetN_at b css s h k r z
    · exact meet_at b k _ _ r z
theorem beatA_at (N : Net) (b : Nat) (L : List Lt) (W : List (Nat × Nat)) : ∀ r ∈ (beatA N b L W).rows, r.at_ = b :=
  meetN_at b _ _ (darkN_at N b _ (fun r hr => by cases hr) _) _
/-! ### what burns was lit, and is not over -/
def Fresh (N : Net) (b : Nat) (L : List Lt) : Prop := ∀ k f t, L[k]? = some (some (f, t)) → t < b ∧ (b : Int) ≤ (t : Int) + burnOf N k
end Em

namespace Qt
open PySem PySem.Spec PyProof.Rows L2

/-! ### t[i] of a tuple, quiet -/
theorem q_ixT {c : Qc} {k : Nat} {env : Env} {N : Nm} {a b : Expr} {pos : Pos} {p : Addr} {xs : List V} {j : Nat} {v : V} (ha : QE c k env N a (.ref p)) (hb : QE c k env N b (.int j)) (ht : TupQ c p xs) (hx : xs[j]? = some v)
    (hs : PlainIx b := by intro _ _; rfl) : QE c k env N (.Subscript a b pos) v := by
  intro A E Q s r i h
  refine Subscript_ (ha A E _ s r i fun u g tk ru up => hb A E _ _ r (i.more up) fun u2 g2 tk2 r2 up2 => ?_)
  cases ru
  obtain ⟨t, rfl⟩ := r2
  obtain ⟨its, rv, hT, hz⟩ := ht
  obtain ⟨w, hw, rw_⟩ := rv.get hx
  have hup := i.up.tr (up.tr up2)
  have hT2 := isTup_up hup hT
  have hl := rv.length
  have hj := (List.getElem?_eq_some_iff.mp hx).1
  have hn := line63
  have fin : Q w { s with heap := g2, toks := tk2 } := h w g2 tk2 rw_ (up.tr up2)
  have e1 : seqIndex? (j : Int) its.toArray.size = some j := by
    rw [seqIndex_of (by omega) (by rw [List.size_toArray]; omega)]
    rfl
  exact subscriptTail_builtinR (x := w) hT2.typeIs slot_tuple_getitem.lookup
    (getItem_tuple (j := j) (Q := fun r s' => r = w ∧ Q r s') hT2 (by omega) (by omega) e1 (by simpa using hw) ⟨rfl, fin⟩) (hs _ _)

section
variable {X : Cx} {pins : List (Addr × Obj)} {σ : L2.St} {H : Hp} {s : Shared}
/-- what the element of a generator expression is, for the item xv: any value -/
def EltV (X : Cx) (kk : Nat) (scope : Scope) (x : Str) (elt : Expr) (caps : Nm) (Hw : Hp) (xs : List V) (bs : List V) : Prop :=
  bs.length = xs.length ∧ ∀ (hd : Heap) (env : Env), (Qc.mk X.prog X.w X.K X.mg Hw hd).Ok → env.scope = scope → ∀ (j : Nat) (xv : V) (b : V), xs[j]? = some xv → bs[j]? = some b → QE ⟨X.prog, X.w, X.K, X.mg, Hw, hd⟩ kk env ((x, xv) :: caps) elt b
/-- the generator g is made, to be gone through -/
def MadeV (X : Cx) (pins : List (Addr × Obj)) (σ : L2.St) (H1 : Hp) (P : Addr) (xs : List V) (bs : List V) (g : Addr) (s5 : Shared) : Prop :=
  ∃ (fp wr : List Addr) (G : Array GenState → Array GenState → Prop) (F : Nat → Value → Prop) (St : Nat → Shared → Prop),
    WalksS X.prog X.w X.A.in1 g fp wr G bs.length F St ∧ St 0 s5 ∧ (∀ i y, F i y → ∃ b, bs[i]? = some b ∧ RelV b y) ∧ (∀ z ∈ fp, z < s5.heap.objs.size) ∧ ∀ s', Moved wr G s5 s' → ∃ H2, GxR.Tabbed P H1 H2 ∧ Inv X pins σ H2 s'

theorem gen_madeV {c P : Addr} {elt iter : Expr} {x : Str} {px gpos : Pos} {scope : Scope} {te : TE} {k : Nat} {Z : Value → Shared → Prop} {R : List V → List V → Hp → Prop}
    (rm : Room (k + 2) X.A) (TB : GxR.TabB X.base X.mg c P) (hcode : X.env.code = .ref c) (GS : GxR.GenS X.env scope x) (hi : PE X iter te)
    (hs : ∀ v, genFold iter X.env v = pure v) (I : Inv X pins σ H s)
    (h : te σ H fun v H1 => ∃ (ad : Addr) (xs : List V) (bs : List V) (caps : Nm), v = .ref ad ∧ (SqT X.K H1 ad xs ∨ SqL X.K H1 ad xs) ∧ GxR.TabG H1 P ∧ Caps X scope x σ caps ∧ EltV X (3 * k) scope x elt caps (wipe H1 P) xs bs ∧ R xs bs H1)
    (hZ : ∀ xs bs H1 g s5, R xs bs H1 → MadeV X pins σ H1 P xs bs g s5 → Z (.ref g) s5) :
    wpAny (model X.prog X.w) X.A (eval (.GeneratorExp elt [⟨.Name x px, iter, [], 0⟩] scope gpos) X.env) Z X.xe s := by
  have hdp := rm.dp
  refine wpAny_GeneratorExp_walksQD rm.hd GS.co (closure_ok GS.free) GS.cell GS.dot GS.loc GS.kind rm.depth ?_ hs
  refine thn (hi.run pins s σ H _ I h) fun xv s1 hx => ?_
  obtain ⟨v, H1, I1, r1, ad, xs, bs, caps, ev, hsq, ⟨ps, hP, htr⟩, hcap, hel, hR⟩ := hx
  subst ev
  obtain rfl : xv = Value.ref ad := r1
  obtain ⟨its, o, St, rv, S, hno⟩ := seq_src I1 hsq
  have hlen : its.length = xs.length := rv.length.symm
  have hPs : s1.heap.get? P = some { cls := .none, data := .fields ps } := I1.hok P _ hP
  have hPlt : P < s1.heap.objs.size := Heap.lt_size hPs
  have adP : ad ≠ P := by
    rintro rfl
    rcases hsq with hq | hq
    · obtain ⟨_, _, ⟨ob, e, ec, _⟩, _⟩ := I1.tuple hq
      rw [hPs] at e
      cases e
      cases ec
    · obtain ⟨_, _, hl, _⟩ := I1.list hq
      obtain ⟨ob, _, e, ec, _⟩ := id hl
      rw [hPs] at e
      cases e
      cases ec
  refine S.iter _ _ _ _ rfl ?_
  have push_ok : ∀ b u, s1.heap.get? b = some u → (s1.heap.push o).get? b = some u := fun b u e => Heap.get?_push_of_some _ e
  have hPo := push_ok P _ hPs
  have lim2 : (s1.heap.push o).NoLimit := I1.nolimit.push o
  have cd : PySem.W.CodeHd (s1.heap.push o) c P := TB.code.keeps fun b u e => push_ok b u (I1.bk b u e)
  have go : ∀ (code : Value) (h3 : Heap) (tk : Nat) (ps' : Array Value), Heap.ExtBut P (s1.heap.push o) h3 → (s1.heap.push o).objs.size ≤ h3.objs.size → h3.get? P = some { cls := .none, data := .fields ps' } → (∃ more, ps' = ps ++ more) → TriplesOk ps'.toList →
      wpAny (model X.prog X.w) X.A (builtinsFor X.env.globals X.env.builtins) (fun bi s₄ =>
        ∃ Ia fp wr n₀ Pf St₀ pz F, Value.ref s1.heap.objs.size = .ref Ia ∧ (∀ A' : Around, A'.handled = none → Walks X.prog X.w A' Ia fp wr n₀ Pf St₀) ∧ St₀ 0 s₄.heap ∧ (∀ b ∈ fp, b < s₄.heap.objs.size) ∧ s₄.heap.NoLimit ∧ cStatics ∉ wr ∧
          (∀ hr : Heap, (∀ b u, s₄.heap.get? b = some u → hr.get? b = some u) →
            QuietGenD X.prog X.w (genEnv scope (cloFrom X.env.cells scope.names []) s₄.heap.objs.size code bi X.env) x [] elt (List.range s₄.heap.objs.size) wr Pf pz F hr (X.A.depth + 1) (X.A.units + 8)) ∧
          (∀ a h₅ tk gs, gs.bare = true → s₄.heap.objs.size < a → h₅.objs.size = a + 1 → (∀ b u, s₄.heap.get? b = some u → h₅.get? b = some u) →
            WalksS X.prog X.w X.A.in4 a (a :: s₄.heap.objs.size :: List.range s₄.heap.objs.size) (s₄.heap.objs.size :: wr) (GenOnlyQ s₄.gens.size) (passing pz n₀ 0).length
              (fun j y => ∃ i, (passing pz n₀ 0)[j]? = some i ∧ F i y) (GenAt X.prog X.w X.A.in4 a s₄.gens.size s₄.heap.objs.size (List.range s₄.heap.objs.size) wr pz n₀ F) →
            GenAt X.prog X.w X.A.in4 a s₄.gens.size s₄.heap.objs.size (List.range s₄.heap.objs.size) wr pz n₀ F 0 { s₄ with gens := s₄.gens.push gs, toks := tk, heap := h₅ } →
            Z (.ref a) { s₄ with gens := s₄.gens.push gs, toks := tk, heap := h₅ })) X.xe { s1 with heap := h3, toks := tk } := by
    intro code h3 tk ps' hx hsz hP3 hmore ht3
    obtain ⟨bm, ob, e1, e2, e3, e4, e5, e6, e7, e8⟩ := TB.bm
    have szo : (s1.heap.push o).objs.size = s1.heap.objs.size + 1 := Heap.size_push ..
    have k3 : ∀ b u, b ≠ P → s1.heap.get? b = some u → h3.get? b = some u := fun b u hb e => hx b u hb (push_ok b u e)
    have hcP : cStatics ≠ P := by
      rintro rfl
      obtain ⟨_, hns, _⟩ := I1.nolimit
      obtain ⟨o', es, ep, ho, hd, _⟩ := hns
      rw [hPs] at ho
      cases ho
      cases hd
    have hcl : cStatics < s1.heap.objs.size := let ⟨_, hns, _⟩ := I1.nolimit; hns.lt
    refine wpAny_builtinsFor (m := X.mg) (by rw [I1.ok.glob]; exact ((I1.mod.glob.keeps I1.bk).push o).extBut hx TB.gP) e1 e2 (k3 _ _ e4 (I1.bk _ _ e5)) e6 e7 e8 ?_
    have hi3 : s1.heap.objs.size < h3.objs.size := by omega
    refine ⟨s1.heap.objs.size, [s1.heap.objs.size, ad], [s1.heap.objs.size], its.toArray.size, (fun i v => its.toArray[i]? = some v), St s1.heap.objs.size, (fun _ => true), (fun i y => ∃ b, bs[i]? = some b ∧ RelV b y), rfl,
      fun A' hA => S.walks A' _ hA (Nat.ne_of_lt S.lt), ?_, ?_, lim2.extBut hx hcP, ?_, ?_, ?_⟩
    · refine S.st0 h3 fun b u hb e => hx b u (fun z => ?_) e
      rcases hb with hb | hb
      · exact adP (hb.symm.trans z)
      · exact Nat.ne_of_gt hPlt (hb.symm.trans z)
    · intro b hb
      simp only [List.mem_cons, List.not_mem_nil, or_false] at hb
      rcases hb with hb | hb
      · rw [hb]; exact hi3
      · rw [hb]; exact Nat.lt_trans S.lt hi3
    · intro z
      simp only [List.mem_cons, List.not_mem_nil, or_false] at z
      exact Nat.ne_of_lt hcl z
    · intro hr hhr
      obtain ⟨hd, g1, g2⟩ := restrict h3 fun b => decide (b ≠ s1.heap.objs.size)
      have old : ∀ b u, b ≠ P → s1.heap.get? b = some u → hd.get? b = some u := fun b u nb e => by
        rw [g1 b (decide_eq_true (Nat.ne_of_lt (Heap.lt_size e)))]
        exact k3 b u nb e
      have up3 : Up hd h3 := fun b u e => by
        by_cases hb : b = s1.heap.objs.size
        · rw [g2 b (by simp [hb])] at e
          cases e
        · rw [g1 b (decide_eq_true hb)] at e
          exact e
      have bP : ∀ b u, X.base.get? b = some u → b ≠ P := fun b u e z => by
        have q := (I1.bs b u e).2
        rw [z, hP] at q
        cases q
      have bup : ∀ b u, X.base.get? b = some u → hd.get? b = some u := fun b u e => old b u (bP b u e) (I1.bk b u e)
      have OK : (Qc.mk X.prog X.w X.K X.mg (wipe H1 P) hd).Ok := by
        obtain ⟨mb, q1, q2⟩ := I1.mod.blt
        refine ⟨I1.mod.kin.keeps bup, I1.mod.glob.keeps bup, ⟨mb, q1.keeps bup, q2⟩, I1.mod.nolimit.keeps bup, fun a u e => ?_⟩
        obtain ⟨na, e⟩ := wipe_of e
        have noP : ∀ b, H1 b = some (.own a) → b ≠ P := fun b q z => by
          rw [z, hP] at q
          cases q
        refine (I1.hok a u e).stay (fun b u' hb q => old b u' ?_ q) (fun b q => wipe_at (noP b q) q) (fun b ys q => wipe_at (fun z => ?_) q)
        · rcases hb with hb | hb
          · rw [hb]; exact na
          · exact noP b hb
        · rw [z, hP] at q
          cases q
      have seen : ∀ s₂ : Shared, (∀ b ∈ List.range h3.objs.size, b ∉ [s1.heap.objs.size] → ∀ u, hr.get? b = some u → s₂.heap.get? b = some u) → Up hd s₂.heap := fun s₂ hk b u e => by
        have h3e := up3 b u e
        refine hk b (List.mem_range.mpr (Heap.lt_size h3e)) (fun z => ?_) u (hhr b u h3e)
        have hb : b = s1.heap.objs.size := by simpa using z
        rw [g2 b (by simp [hb])] at e
        cases e
      refine ⟨fun A' E' i v s₂ m₂ hA _ _ hPv hn hm hk => ?_, fun A' E' i v s₂ m₂ hA hAd _ hPv hp hn hm hk => ?_⟩
      · simp only [List.forIn_nil]
        exact wpAny_pure ⟨rfl, GxR.keeps_refl _⟩
      · have hv2 : its[i]? = some v := by simpa using hPv
        have hix : i < xs.length := by rw [← hlen]; exact (List.getElem?_eq_some_iff.mp hv2).1
        obtain ⟨xv, hxv⟩ : ∃ xv, xs[i]? = some xv := ⟨xs[i], List.getElem?_eq_getElem hix⟩
        obtain ⟨u, hu, ru⟩ := rv.get hxv
        rw [hv2] at hu
        cases hu
        have at2 : At ⟨X.prog, X.w, X.K, X.mg, wipe H1 P, hd⟩ (genEnv scope (cloFrom X.env.cells scope.names []) h3.objs.size code builtinsNs X.env) ((x, xv) :: caps) s₂.heap := by
          have upS := seen s₂ hk
          refine ⟨upS, GS.kind, I1.ok.glob, rfl, m₂, hn, fun y vy hy => ?_⟩
          by_cases ey : y = x
          · subst ey
            have e9 : xv = vy := by simpa [List.lookup] using hy
            exact ⟨v, e9 ▸ ru, .inl ⟨GS.loc, hm⟩⟩
          · have ey' : (y == x) = false := by simpa using ey
            have hy2 : caps.lookup y = some vy := by simpa [List.lookup, ey'] using hy
            obtain ⟨_, hmem, hfr, j, hj, hσ, hcl2⟩ := hcap y vy hy2
            obtain ⟨m1, hn1, hloc⟩ := I1.loc
            obtain ⟨u9, r9, l9⟩ := hloc j y vy hj hσ (.inr (.inl hcl2))
            refine ⟨u9, r9, .inr ⟨.inr hfr, ?_⟩⟩
            rcases l9 with ⟨l9, _⟩ | ⟨_, ca, hca, hic⟩
            · have l8 : X.env.scope.names.lookup y = some .local := l9
              rw [hcl2] at l8
              cases l8
            · refine ⟨ca, NdefX.clo_has GS.free hmem hca, ?_⟩
              obtain ⟨oc, ec, rc⟩ := hic
              have nP : ca ≠ P := fun z => by
                have q := I1.freeC y ca hca
                rw [z, hP] at q
                cases q
              exact ⟨oc, upS _ _ (old _ _ nP ec), rc⟩
        obtain ⟨b, hb⟩ : ∃ b, bs[i]? = some b := ⟨bs[i]'(by rw [hel.1]; exact hix), List.getElem?_eq_getElem _⟩
        refine hel.2 hd _ OK rfl i xv b hxv hb A' E' _ s₂ ⟨hA, by omega⟩ at2 fun u9 g9 tk9 r9 up9 => ?_
        exact ⟨⟨b, hb, r9⟩, g9, tk9, rfl, up9⟩
    · intro g h5 tk5 gs hgb hag hsz5 hk5 W5 hgat
      simp only [GxR.passing_true, List.length_range] at W5
      have hn5 : its.toArray.size = bs.length := by rw [List.size_toArray, hlen, hel.1]
      rw [hn5] at W5 hgat
      refine hZ xs bs H1 g _ hR ⟨_, _, _, _, _, W5.in4_1, hgat, fun j y hy => ?_, fun z hz => ?_, fun s' hm => ?_⟩
      · obtain ⟨i, hij, b, hb1, hb2⟩ := hy
        obtain ⟨hj, ej⟩ := List.getElem?_eq_some_iff.mp hij
        rw [List.getElem_range] at ej
        subst ej
        exact ⟨b, hb1, hb2⟩
      · show z < h5.objs.size
        rw [hsz5]
        rcases List.mem_cons.mp hz with e | hz
        · rw [e]; exact Nat.lt_succ_self _
        · rcases List.mem_cons.mp hz with e | hz
          · rw [e]; exact Nat.lt_succ_of_lt hag
          · exact Nat.lt_succ_of_lt (Nat.lt_trans (List.mem_range.mp hz) hag)
      · obtain ⟨more, em⟩ := hmore
        have nwr : ∀ b u, s1.heap.get? b = some u → b ∉ h3.objs.size :: [s1.heap.objs.size] := fun b u e hb => by
          have hl := Heap.lt_size e
          simp only [List.mem_cons, List.not_mem_nil, or_false] at hb
          rcases hb with hb | hb
          · rw [hb] at hl
            exact absurd (Nat.lt_trans hl hi3) (Nat.lt_irrefl _)
          · rw [hb] at hl
            exact Nat.lt_irrefl _ hl
        have J := GxR.inv_tab (more := more) (h' := s'.heap) (g' := s'.gens) (d' := s'.drawn) (t' := s'.toks) I1 hP (fun b u hb e => hm.heap b u (nwr b u e) (hk5 b u (k3 b u hb e)))
          (by rw [← em]; exact hm.heap P _ (nwr P _ hPs) (hk5 P _ hP3)) (AllBare.movedS (I1.bare.push hgb) hm)
        rw [GxR.sh_eta s1 s' hm.os] at J
        exact ⟨upd H1 P (.tbl (ps ++ more)), ⟨⟨ps ++ more, upd_same, by rw [← em]; exact ht3⟩, fun b hb => upd_ne hb⟩, J⟩
  refine ⟨lim2, ?_⟩
  cases hf : codeAmong gpos ps.toList with
  | none =>
    refine wpAny_genexprCodeX hcode (cd.code hPo htr) (cd.tab hPo) hf fun c' h' tk hx hge hlt hco' _ htab' _ => ?_
    obtain ⟨_, _, _, _, _, _, _, _, _, _, _, _, _, _, _, _, _, _, _, htr', _⟩ := hco'
    exact go _ h' tk _ hx (Nat.le_trans hge (Nat.le_of_lt hlt)) htab'.2 ⟨_, rfl⟩ htr'
  | some cv =>
    refine wpAny_genexprCode_hit hcode (cd.code hPo htr) hf ?_
    exact go cv (s1.heap.push o) s1.toks ps (Heap.ExtBut.refl _ _) (Nat.le_refl _) hPo ⟨#[], by simp⟩ htr

/-- sum(.. for x in e), e a tuple or a list, the element a quiet int -/
def tSumQ (X : Cx) (P : Addr) (k : Nat) (scope : Scope) (x : Str) (elt : Expr) (te : TE) : TE := fun σ H Q => te σ H fun v H1 => ∃ (ad : Addr) (xs bs : List V) (caps : Nm), v = .ref ad ∧ (SqT X.K H1 ad xs ∨ SqL X.K H1 ad xs) ∧
  GxR.TabG H1 P ∧ Caps X scope x σ caps ∧ EltV X (3 * k) scope x elt caps (wipe H1 P) xs bs ∧ ∃ ns : List Int, bs = ns.map V.int ∧ ∀ H2, GxR.Tabbed P H1 H2 → Q (.int ns.sum) H2
theorem pe_sumQ {c P : Addr} {elt iter : Expr} {x : Str} {px p pos gpos : Pos} {scope : Scope} {te : TE} {k : Nat}
    (rm : Room (k + 2) X.A) (hg : Gl X "sum") (hm : X.mg "sum" = none) (TB : GxR.TabB X.base X.mg c P) (hcode : X.env.code = .ref c) (GS : GxR.GenS X.env scope x) (hi : PE X iter te)
    (hs : ∀ v, genFold iter X.env v = pure v) (hb : bootBuiltins "sum" = some (.builtin "sum") := by decide +kernel)
    (he : starEach [.GeneratorExp elt [⟨.Name x px, iter, [], 0⟩] scope gpos] X.env = (false, eval (.GeneratorExp elt [⟨.Name x px, iter, [], 0⟩] scope gpos) X.env) :: starEach [] X.env := by rfl) :
    PE X (.Call (.Name "sum" p) [.GeneratorExp elt [⟨.Name x px, iter, [], 0⟩] scope gpos] [] pos) (tSumQ X P k scope x elt te) := by
  refine ⟨fun pins s σ H Q I h => ?_⟩
  refine wpAny_Call_Name_kw (ld_blt I hg hm hb (PyProof.Rows.callWith_builtin1 ?_ he (by rfl)))
  rw [he]
  show wpAny _ X.A (spliced ((false, eval (.GeneratorExp elt [⟨.Name x px, iter, [], 0⟩] scope gpos) X.env) :: backTo pos (starEach [] X.env))) _ X.xe s
  refine Calls.spliced_cons (gen_madeV (R := fun xs bs H1 => ∃ ns : List Int, bs = ns.map V.int ∧ ∀ H2, GxR.Tabbed P H1 H2 → Q (.int ns.sum) H2) rm TB hcode GS hi hs I h fun xs bs H1 g s5 hR hG => Calls.spliced_nil ?_)
  obtain ⟨ns, rfl, hR⟩ := hR
  obtain ⟨fp, wr, G, F, St, W, hst, hF, hfp, hI⟩ := hG
  refine call_sum_walkAnyS (W.self 0 _ _ _ hst ⟨g, fp, wr, G, _, F, St, fun i => ns.getD i 0, rfl, W, hst, hfp, fun i v hv => ?_, fun s' t' hmv => ?_⟩)
  · obtain ⟨b, hb1, hb2⟩ := hF i v hv
    rw [List.getElem?_map] at hb1
    cases q : ns[i]? with
    | none => rw [q] at hb1; cases hb1
    | some n =>
      rw [q] at hb1
      cases hb1
      obtain ⟨t, rfl⟩ := hb2
      exact ⟨t, by show Value.int n t = Value.int (ns.getD i 0) t; rw [List.getD_eq_getElem?_getD, q]; rfl⟩
  · obtain ⟨H2, hT, J⟩ := hI s' hmv
    have e : preSum (fun i => ns.getD i 0) (ns.map V.int).length = ns.sum := by
      have h1 := preSum_list (h := fun v => match v with | .int i => i | _ => 0) (ns.map V.int) (fun i => ns.getD i 0) (fun i x hx => by
        rw [List.getElem?_map] at hx
        cases q : ns[i]? with
        | none => rw [q] at hx; cases hx
        | some n =>
          rw [q] at hx
          cases hx
          show ns.getD i 0 = n
          rw [List.getD_eq_getElem?_getD, q]; rfl) (ns.map V.int).length (Nat.le_refl _)
      rw [h1, List.take_length, List.map_map]
      congr 1
      exact (List.map_congr_left fun n _ => rfl).trans (List.map_id ns)
    exact ⟨.int ns.sum, H2, J, ⟨t', by rw [e]⟩, hR H2 hT⟩
end
end Qt

namespace Em
open PySem PySem.Spec PyProof.Rows L2 Qt

/-! ### where a flame's way leads, lamp by lamp -/
theorem burn_pos {N : Net} (o : NetOk N) {y : Nat} (h : y < N.length) : 1 ≤ burnOf N y := by
  have hp := List.getElem?_eq_getElem h
  rw [burnOf_get hp]
  exact o.len _ (List.getElem_mem h)
def sumB (N : Net) (g : List Nat) : Int := (g.map (burnOf N)).sum
theorem sumB_nil (N : Net) : sumB N [] = 0 := rfl
theorem sumB_app (N : Net) (g h : List Nat) : sumB N (g ++ h) = sumB N g + sumB N h := by unfold sumB; rw [List.map_append, List.sum_append_int]
theorem sumB_one (N : Net) (y : Nat) : sumB N [y] = burnOf N y := by simp [sumB]
theorem sumB_cons (N : Net) (y : Nat) (g : List Nat) : sumB N (y :: g) = burnOf N y + sumB N g := by simp [sumB]
theorem sumB_nonneg {N : Net} (o : NetOk N) : ∀ {g : List Nat}, (∀ y ∈ g, y < N.length) → 0 ≤ sumB N g
  | [], _ => Int.le_refl _
  | y :: g, h => by
    have h1 := burn_pos o (h y List.mem_cons_self)
    have h2 := sumB_nonneg o (g := g) fun z hz => h z (List.mem_cons_of_mem _ hz)
    rw [sumB_cons]
    omega
/-- the lamps of a way, each with the first beat and the lap -/
abbrev Lgt := Nat × Int × Option Int
def lts (N : Net) (lap : Option Int) : Int → List Nat → List Lgt
  | _, [] => []
  | b, y :: r => (y, b, lap) :: lts N lap (b + burnOf N y) r
theorem lts_len (N : Net) (lap : Option Int) : ∀ (b : Int) (g : List Nat), (lts N lap b g).length = g.length
  | _, [] => rfl
  | b, y :: r => congrArg Nat.succ (lts_len N lap _ r)
theorem lts_snoc (N : Net) (lap : Option Int) (y : Nat) : ∀ (b : Int) (g : List Nat), lts N lap b (g ++ [y]) = lts N lap b g ++ [(y, b + sumB N g, lap)]
  | b, [] => by
    show [(y, b, lap)] = [(y, b + 0, lap)]
    rw [Int.add_zero]
  | b, z :: r => by
    show (z, b, lap) :: lts N lap (b + burnOf N z) (r ++ [y]) = _
    rw [lts_snoc N lap y (b + burnOf N z) r, sumB_cons, Int.add_assoc]
    rfl
theorem lts_get (N : Net) (lap : Option Int) : ∀ (b : Int) (g : List Nat) (j y : Nat), g[j]? = some y → (lts N lap b g)[j]? = some (y, b + sumB N (g.take j), lap)
  | _, [], _, _, h => by cases h
  | b, z :: r, 0, y, h => by
    cases h
    show some (z, b, lap) = some (z, b + 0, lap)
    rw [Int.add_zero]
  | b, z :: r, j + 1, y, h => by
    have := lts_get N lap (b + burnOf N z) r j y (by simpa using h)
    show (lts N lap (b + burnOf N z) r)[j]? = _
    rw [this, List.take_succ_cons, sumB_cons, Int.add_assoc]
theorem lts_fst (N : Net) (lap : Option Int) : ∀ (b : Int) (g : List Nat), (lts N lap b g).map (·.1) = g
  | _, [] => rfl
  | b, z :: r => congrArg (z :: ·) (lts_fst N lap _ r)
def lapOf (N : Net) (x : Nat) : Int := sumB N (wayR N x)
def cutN (N : Net) (x : Nat) : Nat := cutAt N (path N x)
def frst (N : Net) (b : Int) (x j : Nat) : Int := b + sumB N ((path N x).take j)
def lightsL (N : Net) (b : Int) (x : Nat) : List Lgt := lts N none b (wayA N x) ++ lts N (some (lapOf N x)) (b + sumB N (wayA N x)) (wayR N x)
theorem lights_fst (N : Net) (b : Int) (x : Nat) : (lightsL N b x).map (·.1) = path N x := by
  unfold lightsL
  rw [List.map_append, lts_fst, lts_fst, way_cat]
theorem cut_le {N : Net} (o : NetOk N) {x : Nat} (hx : x < N.length) : cutN N x ≤ (path N x).length := by
  unfold cutN cutAt
  split
  · exact Nat.le_refl _
  · exact List.idxOf_le_length
theorem wayA_len {N : Net} (o : NetOk N) {x : Nat} (hx : x < N.length) : (wayA N x).length = cutN N x := by
  have := cut_le o hx
  unfold wayA
  rw [List.length_take]
  show min (cutN N x) _ = _
  omega
theorem lights_get {N : Net} (o : NetOk N) {x : Nat} (hx : x < N.length) (b : Int) {j y : Nat} (h : (path N x)[j]? = some y) :
    (lightsL N b x)[j]? = some (y, frst N b x j, if j < cutN N x then none else some (lapOf N x)) := by
  have lA := wayA_len o hx
  have hc := way_cat N x
  have hj := (List.getElem?_eq_some_iff.mp h).1
  unfold lightsL
  by_cases hjc : j < cutN N x
  · rw [if_pos hjc, List.getElem?_append_left (by rw [lts_len, lA]; exact hjc)]
    have h2 : (wayA N x)[j]? = some y := by
      unfold wayA
      rw [List.getElem?_take, if_pos (show j < cutAt N (path N x) from hjc)]; exact h
    rw [lts_get N none b _ j y h2]
    have e : (wayA N x).take j = (path N x).take j := by
      unfold wayA
      rw [List.take_take, Nat.min_eq_left (show j ≤ cutAt N (path N x) from Nat.le_of_lt hjc)]
    rw [e]
    rfl
  · rw [if_neg hjc, List.getElem?_append_right (by rw [lts_len, lA]; omega), lts_len, lA]
    have h2 : (wayR N x)[j - cutN N x]? = some y := by
      unfold wayR
      rw [List.getElem?_drop]
      show (path N x)[cutN N x + (j - cutN N x)]? = _
      rw [show cutN N x + (j - cutN N x) = j by omega]; exact h
    rw [lts_get N _ _ _ _ y h2]
    have e : (path N x).take j = wayA N x ++ (wayR N x).take (j - cutN N x) := by
      rw [← hc, List.take_append, List.take_of_length_le (by rw [lA]; omega), lA]
    unfold frst
    rw [e, sumB_app, Int.add_assoc]
theorem take_succ_sum (N : Net) {g : List Nat} {j y : Nat} (h : g[j]? = some y) : sumB N (g.take (j + 1)) = sumB N (g.take j) + burnOf N y := by
  rw [List.take_add_one, h, sumB_app]
  show _ + sumB N [y] = _
  rw [sumB_one]
theorem sum_mono {N : Net} (o : NetOk N) {g : List Nat} (hg : ∀ y ∈ g, y < N.length) {i j : Nat} (h : i ≤ j) : sumB N (g.take i) ≤ sumB N (g.take j) := by
  have hn := sumB_nonneg o (g := (g.take j).drop i) fun y hy => hg y (List.mem_of_mem_take (List.mem_of_mem_drop hy))
  have e2 : sumB N (g.take j) = sumB N (g.take i) + sumB N ((g.take j).drop i) := by
    rw [← sumB_app]
    have e := List.take_append_drop i (g.take j)
    rw [List.take_take, Nat.min_eq_left h] at e
    rw [e]
  omega
theorem frst_gap {N : Net} (o : NetOk N) {x : Nat} (hx : x < N.length) (b : Int) {i j y : Nat} (h : (path N x)[i]? = some y) (hij : i < j) : frst N b x i + burnOf N y ≤ frst N b x j := by
  have h1 := sum_mono o (path_been o hx).lt (show i + 1 ≤ j from hij)
  rw [take_succ_sum N h] at h1
  unfold frst
  omega
theorem lap_frst {N : Net} (o : NetOk N) {x : Nat} (hx : x < N.length) (b : Int) : frst N b x (path N x).length = frst N b x (cutN N x) + lapOf N x := by
  unfold frst lapOf
  rw [List.take_length]
  have e : (path N x).take (cutN N x) = wayA N x := rfl
  rw [e]
  have : sumB N (path N x) = sumB N (wayA N x) + sumB N (wayR N x) := by rw [← sumB_app, way_cat]
  omega
/-! ### where it is at a beat -/
def gone (beat : Int) (z : Lgt) : Int := match z.2.2 with
  | none => beat - z.2.1
  | some l => if 0 ≤ beat - z.2.1 then (beat - z.2.1) % l else beat - z.2.1
def hit (N : Net) (beat : Int) (z : Lgt) : Bool := decide (0 ≤ gone beat z) && decide (gone beat z < burnOf N z.1)
def placeL (N : Net) (beat : Int) : List Lgt → Option (Nat × Int)
  | [] => none
  | z :: r => if hit N beat z = true then some (z.1, gone beat z) else placeL N beat r
theorem place_none {N : Net} {beat : Int} : ∀ {L : List Lgt}, (∀ z ∈ L, hit N beat z = false) → placeL N beat L = none
  | [], _ => rfl
  | z :: r, h => by
    unfold placeL
    rw [if_neg (by rw [h z List.mem_cons_self]; exact Bool.false_ne_true)]
    exact place_none fun y hy => h y (List.mem_cons_of_mem _ hy)
theorem place_some {N : Net} {beat : Int} : ∀ {L : List Lgt} {j : Nat} {z : Lgt}, L[j]? = some z → hit N beat z = true → (∀ i, i < j → ∀ y, L[i]? = some y → hit N beat y = false) → placeL N beat L = some (z.1, gone beat z)
  | [], _, _, h, _, _ => by cases h
  | y :: r, 0, z, h, hz, _ => by
    cases h
    unfold placeL
    rw [if_pos hz]
  | y :: r, j + 1, z, h, hz, hb => by
    unfold placeL
    rw [if_neg (by rw [hb 0 (Nat.zero_lt_succ _) y rfl]; exact Bool.false_ne_true)]
    exact place_some (j := j) (by simpa using h) hz fun i hi y hy => hb (i + 1) (Nat.succ_lt_succ hi) y (by simpa using hy)
theorem no_hit {N : Net} {beat : Int} {z : Lgt} (h : burnOf N z.1 ≤ gone beat z ∨ gone beat z < 0) : hit N beat z = false := by
  unfold hit
  rcases h with h | h
  · rw [decide_eq_false (show ¬ gone beat z < burnOf N z.1 by omega), Bool.and_false]
  · rw [decide_eq_false (show ¬ 0 ≤ gone beat z by omega), Bool.false_and]
theorem yes_hit {N : Net} {beat : Int} {z : Lgt} (h1 : 0 ≤ gone beat z) (h2 : gone beat z < burnOf N z.1) : hit N beat z = true := by
  unfold hit
  rw [decide_eq_true h1, decide_eq_true h2]; rfl
/-- so many laps on, within a lamp's length -/
theorem place_on {N : Net} (o : NetOk N) {x : Nat} (hx : x < N.length) (b : Int) {j y : Nat} (h : (path N x)[j]? = some y) {g laps : Int} (h0 : 0 ≤ g) (h1 : g < burnOf N y) (hl : 0 ≤ laps) (hlc : laps = 0 ∨ cutN N x ≤ j) :
    placeL N (frst N b x j + laps * lapOf N x + g) (lightsL N b x) = some (y, g) := by
  have hj := (List.getElem?_eq_some_iff.mp h).1
  have lp := lap_frst o hx b
  have gy := frst_gap o hx b h hj
  have key : gone (frst N b x j + laps * lapOf N x + g) (y, frst N b x j, if j < cutN N x then none else some (lapOf N x)) = g := by
    by_cases hjc : j < cutN N x
    · rw [if_pos hjc]
      have : laps = 0 := by rcases hlc with z | z <;> omega
      subst this
      show frst N b x j + 0 * lapOf N x + g - frst N b x j = g
      rw [Int.zero_mul]; omega
    · rw [if_neg hjc]
      have hm := sum_mono o (path_been o hx).lt (show cutN N x ≤ j by omega)
      have hlap : g < lapOf N x := by
        unfold frst at lp gy
        omega
      have hp : 0 ≤ laps * lapOf N x := Int.mul_nonneg hl (by omega)
      show (if 0 ≤ frst N b x j + laps * lapOf N x + g - frst N b x j then (frst N b x j + laps * lapOf N x + g - frst N b x j) % lapOf N x else _) = g
      have e : frst N b x j + laps * lapOf N x + g - frst N b x j = g + laps * lapOf N x := by omega
      rw [e, if_pos (by omega), Int.add_mul_emod_self_right]
      exact Int.emod_eq_of_lt h0 hlap
  have hz := lights_get o hx b h
  have r := place_some (N := N) (beat := frst N b x j + laps * lapOf N x + g) hz (yes_hit (by rw [key]; exact h0) (by rw [key]; exact h1)) fun i hi z hzi => ?_
  · rw [key] at r
    exact r
  · obtain ⟨yi, hyi⟩ : ∃ yi, (path N x)[i]? = some yi := ⟨_, List.getElem?_eq_getElem (by omega)⟩
    rw [lights_get o hx b hyi] at hzi
    cases hzi
    have gi := frst_gap o hx b hyi hi
    refine no_hit (.inl ?_)
    by_cases hic : i < cutN N x
    · rw [if_pos hic]
      have hp : 0 ≤ laps * lapOf N x := Int.mul_nonneg hl (sumB_nonneg o (way_sub o hx))
      show burnOf N yi ≤ frst N b x j + laps * lapOf N x + g - frst N b x i
      omega
    · rw [if_neg hic]
      have hm := sum_mono o (path_been o hx).lt (show cutN N x ≤ i by omega)
      have hp : 0 ≤ laps * lapOf N x := Int.mul_nonneg hl (sumB_nonneg o (way_sub o hx))
      show burnOf N yi ≤ (if 0 ≤ frst N b x j + laps * lapOf N x + g - frst N b x i then (frst N b x j + laps * lapOf N x + g - frst N b x i) % lapOf N x else _)
      have bp := burn_pos o ((path_been o hx).lt yi (List.mem_of_getElem? hyi))
      have e : frst N b x j + laps * lapOf N x + g - frst N b x i = (frst N b x j - frst N b x i + g) + laps * lapOf N x := by omega
      rw [e, if_pos (by omega), Int.add_mul_emod_self_right, Int.emod_eq_of_lt (by omega) (by
        unfold frst at lp gy gi ⊢
        omega)]
      omega
theorem place_before {N : Net} (o : NetOk N) {x : Nat} (hx : x < N.length) {b beat : Int} (h : beat < b) : placeL N beat (lightsL N b x) = none := by
  refine place_none fun z hz => ?_
  obtain ⟨j, hj, e⟩ := List.getElem_of_mem hz
  have hl : (lightsL N b x).length = (path N x).length := by rw [← lights_fst N b x, List.length_map]
  have hyj : (path N x)[j]? = some ((path N x)[j]'(by omega)) := List.getElem?_eq_getElem _
  have hz2 := lights_get o hx b hyj
  rw [List.getElem?_eq_getElem hj, e] at hz2
  have hz3 := Option.some.inj hz2
  have hm := sum_mono o (path_been o hx).lt (Nat.zero_le j)
  have hm2 : 0 ≤ sumB N ((path N x).take j) := hm
  refine no_hit (.inr ?_)
  rw [hz3]
  unfold gone frst
  split
  · show beat - (b + sumB N ((path N x).take j)) < 0
    omega
  · show (if 0 ≤ beat - (b + sumB N ((path N x).take j)) then _ else beat - (b + sumB N ((path N x).take j))) < 0
    rw [if_neg (by omega)]
    omega
theorem place_after {N : Net} (o : NetOk N) {x : Nat} (hx : x < N.length) {b beat : Int} (hr : wayR N x = []) (h : frst N b x (path N x).length ≤ beat) : placeL N beat (lightsL N b x) = none := by
  refine place_none fun z hz => ?_
  obtain ⟨j, hj, e⟩ := List.getElem_of_mem hz
  have hl : (lightsL N b x).length = (path N x).length := by rw [← lights_fst N b x, List.length_map]
  have hyj : (path N x)[j]? = some ((path N x)[j]'(by omega)) := List.getElem?_eq_getElem _
  have hz2 := lights_get o hx b hyj
  rw [List.getElem?_eq_getElem hj, e] at hz2
  have hz3 := Option.some.inj hz2
  have hc : j < cutN N x := by
    have h1 := way_cat N x
    rw [hr, List.append_nil] at h1
    have h2 := wayA_len o hx
    rw [h1] at h2
    omega
  rw [if_pos hc] at hz3
  have g := frst_gap o hx b hyj (show j < (path N x).length by omega)
  refine no_hit (.inl ?_)
  rw [hz3]
  show burnOf N ((path N x)[j]'(by omega)) ≤ beat - frst N b x j
  omega
/-- when it lights a lamp -/
def lookL (y : Nat) : List Lgt → Option (Int × Option Int)
  | [] => none
  | z :: r => if z.1 = y then some z.2 else lookL y r
theorem look_none {y : Nat} : ∀ {L : List Lgt}, y ∉ L.map (·.1) → lookL y L = none
  | [], _ => rfl
  | z :: r, h => by
    simp only [List.map_cons, List.mem_cons, not_or] at h
    unfold lookL
    rw [if_neg (fun e => h.1 e.symm)]
    exact look_none h.2
theorem look_some {y : Nat} : ∀ {L : List Lgt} {j : Nat} {w : Int × Option Int}, (L.map (·.1)).Nodup → L[j]? = some (y, w) → lookL y L = some w
  | [], _, _, _, h => by cases h
  | z :: r, 0, w, _, h => by
    cases h
    unfold lookL
    rw [if_pos rfl]
  | z :: r, j + 1, w, hn, h => by
    have hm : (r.map (·.1))[j]? = some y := by rw [List.getElem?_map, show r[j]? = some (y, w) by simpa using h]; rfl
    have hn2 : z.1 ∉ r.map (·.1) ∧ (r.map (·.1)).Nodup := List.nodup_cons.mp hn
    unfold lookL
    rw [if_neg (fun e : z.1 = y => hn2.1 (by rw [e]; exact List.mem_of_getElem? hm))]
    exact look_some hn2.2 (by simpa using h)
theorem lights_nd {N : Net} (o : NetOk N) {x : Nat} (hx : x < N.length) (b : Int) : ((lightsL N b x).map (·.1)).Nodup := by
  rw [lights_fst]; exact (path_been o hx).nd

theorem nd_take {g : List Nat} {i y : Nat} (hn : g.Nodup) (h : g[i]? = some y) : y ∉ g.take i := by
  intro hm
  obtain ⟨hi, e⟩ := List.getElem?_eq_some_iff.mp h
  obtain ⟨j, hj, e2⟩ := List.getElem_of_mem hm
  rw [List.length_take] at hj
  rw [List.getElem_take] at e2
  have := (List.getElem_inj (h₀ := by omega) (h₁ := hi) hn).mp (e2.trans e.symm)
  omega
/-! ### the lights as a dict -/
def lgtD (w : Int × Option Int) : PyData := .tuple [.int w.1, match w.2 with
  | none => .none
  | some l => .int l]
inductive LtA (H : Hp) : List (Key × V) → List Lgt → Prop
  | nil : LtA H [] []
  | cons {y : Nat} {w : Int × Option Int} {v : V} {r : List (Key × V)} {l : List Lgt} (h : Tu H v (lgtD w)) (t : LtA H r l) : LtA H ((Sum.inl (y : Int), v) :: r) ((y, w) :: l)
theorem LtA.kt {H H' : Hp} (k : Kt H H') : ∀ {r : List (Key × V)} {l : List Lgt}, LtA H r l → LtA H' r l
  | _, _, .nil => .nil
  | _, _, .cons h t => .cons (h.kt k) (LtA.kt k t)
theorem LtA.len {H : Hp} : ∀ {r : List (Key × V)} {l : List Lgt}, LtA H r l → r.length = l.length
  | _, _, .nil => rfl
  | _, _, .cons _ t => congrArg Nat.succ (LtA.len t)
theorem LtA.snoc {H : Hp} {y : Nat} {w : Int × Option Int} {v : V} (h : Tu H v (lgtD w)) : ∀ {r : List (Key × V)} {l : List Lgt}, LtA H r l → LtA H (r ++ [(Sum.inl (y : Int), v)]) (l ++ [(y, w)])
  | _, _, .nil => .cons h .nil
  | _, _, .cons a t => .cons a (LtA.snoc h t)
theorem LtA.get {H : Hp} : ∀ {r : List (Key × V)} {l : List Lgt} {i : Nat} {z : Lgt}, LtA H r l → l[i]? = some z → ∃ v, r[i]? = some (Sum.inl (z.1 : Int), v) ∧ Tu H v (lgtD z.2)
  | _, _, _, _, .nil, h => by cases h
  | _, _, 0, _, .cons a _, h => by cases h; exact ⟨_, rfl, a⟩
  | _, _, i + 1, _, .cons _ t, h => LtA.get (i := i) t (by simpa using h)
theorem LtA.val {H : Hp} {y : Nat} : ∀ {r : List (Key × V)} {l : List Lgt}, LtA H r l → (lookL y l = none ∧ valV r (Sum.inl (y : Int) : Key) = none) ∨ ∃ w v, lookL y l = some w ∧ valV r (Sum.inl (y : Int) : Key) = some v ∧ Tu H v (lgtD w)
  | _, _, .nil => .inl ⟨rfl, rfl⟩
  | _, _, @LtA.cons _ z w v r l h t => by
    by_cases e : z = y
    · subst e
      refine .inr ⟨w, v, ?_, valV_pos rfl, h⟩
      unfold lookL
      rw [if_pos rfl]
    · have e1 : lookL y ((z, w) :: l) = lookL y l := by
        show (if z = y then _ else _) = _
        rw [if_neg e]
      have e2 : valV ((Sum.inl (z : Int), v) :: r) (Sum.inl (y : Int) : Key) = valV r (Sum.inl (y : Int) : Key) := valV_neg (fun q => e (by
        have := Sum.inl.inj q
        omega))
      rw [e1, e2]
      exact LtA.val t
theorem wiped_tup {H : Hp} {P a : Addr} {xs : List V} (t : GxR.TabG H P) (h : H a = some (.tup xs)) : Qt.wipe H P a = some (.tup xs) :=
  wipe_at (fun z => by obtain ⟨ps, e, _⟩ := t; rw [z, e] at h; cases h) h
theorem lgt_at {H : Hp} {v : V} {w : Int × Option Int} (h : Tu H v (lgtD w)) : ∃ a, v = .ref a ∧ H a = some (.tup [.int w.1, match w.2 with
    | none => .non
    | some l => .int l]) := by
  obtain ⟨f, o⟩ := w
  cases h with
  | @tup a xs ds h t =>
    cases t with
    | cons t1 t =>
      cases t1
      cases t with
      | cons t2 t =>
        cases t
        cases o with
        | none => cases t2; exact ⟨a, rfl, h⟩
        | some l => cases t2; exact ⟨a, rfl, h⟩
end Em

namespace Em
open PySem PySem.Spec PyProof.Rows L2 Qt

/-! ### a flame that goes on alone, lamp by lamp -/
theorem last_eq {g : List Nat} {j z : Nat} (h : g[j]? = some z) (hj : j + 1 = g.length) : lastOf g = z := by
  obtain ⟨l, rfl⟩ : ∃ l, g = l ++ [z] := by
    obtain ⟨hlt, e⟩ := List.getElem?_eq_some_iff.mp h
    refine ⟨g.take j, ?_⟩
    have := List.take_add_one (l := g) (i := j)
    rw [h, List.take_of_length_le (by omega)] at this
    exact this
  exact last_app l z
theorem path_chain {N : Net} {x : Nat} : ∀ n j z y, (itr (step N) n [x])[j]? = some z → (itr (step N) n [x])[j + 1]? = some y → nxt N z = some y
  | 0, j, z, y, h1, h2 => by
    have : j + 1 < 1 := (List.getElem?_eq_some_iff.mp h2).1
    omega
  | n + 1, j, z, y, h1, h2 => by
    have es : itr (step N) (n + 1) [x] = step N (itr (step N) n [x]) := rfl
    rw [es] at h1 h2
    obtain ⟨g, eg⟩ : ∃ g, g = itr (step N) n [x] := ⟨_, rfl⟩
    have ih := path_chain (N := N) (x := x) n
    rw [← eg] at h1 h2 ih
    unfold step at h1 h2
    cases hz : nxt N (lastOf g) with
    | none => rw [hz] at h1 h2; exact ih j z y h1 h2
    | some u =>
      rw [hz] at h1 h2
      by_cases hu : u ∈ g
      · simp only [hu, if_true] at h1 h2
        exact ih j z y h1 h2
      · simp only [hu, if_false] at h1 h2
        by_cases hj : j + 1 < g.length
        · rw [List.getElem?_append_left (by omega)] at h1
          rw [List.getElem?_append_left hj] at h2
          exact ih j z y h1 h2
        · have h3 := (List.getElem?_eq_some_iff.mp h2).1
          rw [List.length_append] at h3
          have h4 : j + 1 = g.length := by simp at h3; omega
          rw [List.getElem?_append_left (by omega)] at h1
          rw [h4, List.getElem?_append_right (Nat.le_refl _), Nat.sub_self] at h2
          cases h2
          rw [← last_eq h1 h4]
          exact hz
/-- the next one's place on the way -/
theorem next_at {N : Net} (o : NetOk N) {x j z : Nat} (hx : x < N.length) (h : (path N x)[j]? = some z) :
    (nxt N z = none ∧ j + 1 = (path N x).length ∧ cutN N x = (path N x).length) ∨
    (∃ y, nxt N z = some y ∧ (path N x)[j + 1]? = some y) ∨
    (∃ y, nxt N z = some y ∧ j + 1 = (path N x).length ∧ (path N x)[cutN N x]? = some y) := by
  have hj := (List.getElem?_eq_some_iff.mp h).1
  by_cases hl : j + 1 < (path N x).length
  · refine .inr (.inl ⟨(path N x)[j + 1], ?_, List.getElem?_eq_getElem hl⟩)
    exact path_chain (N := N) (x := x) N.length j z _ h (List.getElem?_eq_getElem hl)
  · have hl2 : j + 1 = (path N x).length := by omega
    have hz := last_eq h hl2
    have hs := (path_been o hx).done.2
    cases hn : nxt N z with
    | none =>
      refine .inl ⟨rfl, hl2, ?_⟩
      unfold cutN cutAt
      rw [hz, hn]
    | some y =>
      have hm : y ∈ path N x := step_mem (by rw [hz]; exact hn) hs
      refine .inr (.inr ⟨y, rfl, hl2, ?_⟩)
      have hc : cutN N x = (path N x).idxOf y := by
        unfold cutN cutAt
        rw [hz, hn]
      have hix := List.idxOf_lt_length_iff.mpr hm
      rw [hc, List.getElem?_eq_getElem hix, List.getElem_idxOf hix]
/-- so many laps on, at a lamp of the way -/
def OnWay (N : Net) (b : Int) (x : Nat) (t : Int) (z : Nat) : Prop := ∃ (j : Nat) (laps : Int), (path N x)[j]? = some z ∧ t = frst N b x j + laps * lapOf N x ∧ 0 ≤ laps ∧ (laps = 0 ∨ cutN N x ≤ j)
theorem onWay_start {N : Net} (b : Int) (x : Nat) : OnWay N b x b x := by
  obtain ⟨t, e⟩ := path_head N x
  refine ⟨0, 0, by rw [e]; rfl, ?_, by decide, .inl rfl⟩
  show b = b + 0 + 0 * lapOf N x
  rw [Int.zero_mul]; omega
theorem onWay_next {N : Net} (o : NetOk N) {b t : Int} {x z : Nat} (hx : x < N.length) (h : OnWay N b x t z) :
    (nxt N z = none ∧ wayR N x = [] ∧ t + burnOf N z = frst N b x (path N x).length) ∨ ∃ y, nxt N z = some y ∧ OnWay N b x (t + burnOf N z) y := by
  obtain ⟨j, laps, hj, rfl, h0, hc⟩ := h
  have hf : frst N b x (j + 1) = frst N b x j + burnOf N z := by
    unfold frst
    rw [take_succ_sum N hj]; omega
  have hjl := (List.getElem?_eq_some_iff.mp hj).1
  rcases next_at o hx hj with ⟨h1, h2, h3⟩ | ⟨y, h1, h2⟩ | ⟨y, h1, h2, h3⟩
  · refine .inl ⟨h1, ?_, ?_⟩
    · unfold wayR
      rw [show cutAt N (path N x) = (path N x).length from h3]
      exact List.drop_length
    · have : laps = 0 := by rcases hc with z | z <;> omega
      subst this
      rw [Int.zero_mul, Int.add_zero, ← hf, h2]
  · refine .inr ⟨y, h1, j + 1, laps, h2, by rw [hf]; omega, h0, ?_⟩
    rcases hc with z | z
    · exact .inl z
    · exact .inr (by omega)
  · refine .inr ⟨y, h1, cutN N x, laps + 1, h3, ?_, by omega, .inr (Nat.le_refl _)⟩
    have lp := lap_frst o hx b
    rw [← h2] at lp
    rw [Int.add_mul, Int.one_mul]
    omega
/-- rows of a flame that goes on alone -/
structure FreeOk (N : Net) (b : Int) (x : Nat) (rows : List (Int × Nat)) (t : Int) : Prop where
  on : ∀ r ∈ rows, OnWay N b x r.1 r.2
  all : ∀ a, b ≤ a → a < t → ∃ r ∈ rows, r.1 ≤ a ∧ a < r.1 + burnOf N r.2
  len : (rows.length : Int) ≤ t - b
theorem FreeOk.start {N : Net} {b : Int} {x : Nat} : FreeOk N b x [] b := ⟨fun r h => (by cases h), fun a h1 h2 => (by omega), (by simp)⟩
theorem FreeOk.more {N : Net} (o : NetOk N) {b t : Int} {x z : Nat} {rows : List (Int × Nat)} (hx : x < N.length) (f : FreeOk N b x rows t) (h : OnWay N b x t z) : FreeOk N b x (rows ++ [(t, z)]) (t + burnOf N z) := by
  have hz : 1 ≤ burnOf N z := by
    obtain ⟨j, _, hj, _⟩ := h
    exact burn_pos o ((path_been o hx).lt z (List.mem_of_getElem? hj))
  refine ⟨fun r hr => ?_, fun a h1 h2 => ?_, ?_⟩
  · rcases List.mem_append.mp hr with hr | hr
    · exact f.on r hr
    · rw [List.mem_singleton.mp hr]; exact h
  · by_cases ht : a < t
    · obtain ⟨r, hr, q⟩ := f.all a h1 ht
      exact ⟨r, List.mem_append_left _ hr, q⟩
    · exact ⟨(t, z), by simp, by show t ≤ a; omega, h2⟩
  · rw [List.length_append]
    have := f.len
    simp
    omega
def foundL (N : Net) (a : Int) : List (Int × Nat) → Option (Nat × Int) → Option (Nat × Int)
  | [], o => o
  | r :: l, o => foundL N a l (if r.1 ≤ a ∧ a < r.1 + burnOf N r.2 then some (r.2, a - r.1) else o)
theorem found_app (N : Net) (a : Int) (r : Int × Nat) : ∀ (l : List (Int × Nat)) (o : Option (Nat × Int)), foundL N a (l ++ [r]) o = if r.1 ≤ a ∧ a < r.1 + burnOf N r.2 then some (r.2, a - r.1) else foundL N a l o
  | [], o => rfl
  | s :: l, o => found_app N a r l _
theorem on_place {N : Net} (o : NetOk N) {b a : Int} {x : Nat} (hx : x < N.length) {r : Int × Nat} (h : OnWay N b x r.1 r.2) (h1 : r.1 ≤ a) (h2 : a < r.1 + burnOf N r.2) : placeL N a (lightsL N b x) = some (r.2, a - r.1) := by
  obtain ⟨j, laps, hj, e, h0, hc⟩ := h
  have := place_on o hx b hj (g := a - r.1) (laps := laps) (by omega) (by omega) h0 hc
  rw [← e, show r.1 + (a - r.1) = a by omega] at this
  exact this
theorem found_place {N : Net} (o : NetOk N) {b a : Int} {x : Nat} (hx : x < N.length) : ∀ (l : List (Int × Nat)) (q : Option (Nat × Int)), (∀ r ∈ l, OnWay N b x r.1 r.2) → ((∃ r ∈ l, r.1 ≤ a ∧ a < r.1 + burnOf N r.2) ∨ q = placeL N a (lightsL N b x)) → foundL N a l q = placeL N a (lightsL N b x)
  | [], q, _, h => by
    rcases h with ⟨r, hr, _⟩ | h
    · cases hr
    · exact h
  | s :: l, q, ho, h => by
    unfold foundL
    refine found_place o hx l _ (fun r hr => ho r (List.mem_cons_of_mem _ hr)) ?_
    by_cases hs : s.1 ≤ a ∧ a < s.1 + burnOf N s.2
    · rw [if_pos hs]
      exact .inr (on_place o hx (ho s List.mem_cons_self) hs.1 hs.2).symm
    · rw [if_neg hs]
      rcases h with ⟨r, hr, hr2⟩ | h
      · rcases List.mem_cons.mp hr with e | hr
        · rw [e] at hr2; exact absurd hr2 hs
        · exact .inl ⟨r, hr, hr2⟩
      · exact .inr h
/-- what the rows tell of a beat -/
def FreeEnd (N : Net) (b : Int) (x : Nat) (upto : Int) (rows : List (Int × Nat)) : Prop := ∃ t, FreeOk N b x rows t ∧ (upto ≤ t ∨ (wayR N x = [] ∧ t = frst N b x (path N x).length))
theorem free_tells {N : Net} (o : NetOk N) {b a upto : Int} {x : Nat} (hx : x < N.length) {rows : List (Int × Nat)} (h : FreeEnd N b x upto rows) (ha : a < upto) : foundL N a rows none = placeL N a (lightsL N b x) := by
  obtain ⟨t, f, he⟩ := h
  refine found_place o hx rows none f.on ?_
  by_cases hb : a < b
  · exact .inr (place_before o hx hb).symm
  by_cases ht : a < t
  · exact .inl (f.all a (by omega) ht)
  · rcases he with he | ⟨h1, h2⟩
    · omega
    · exact .inr (place_after o hx h1 (by omega)).symm
def freeD (rows : List (Int × Nat)) : List PyData := rows.map fun r => .tuple [.int r.1, .int r.2]
end Em

namespace Em
open PySem PySem.Spec PyProof.Rows L2 Qt

theorem op_in_seqK {X : Cx} {K : PySem.W.Frag} (h : X.K = K) : OpR X (compareOp .In) (rIn K false) := h ▸ op_in_seq
theorem op_notIn_seqK {X : Cx} {K : PySem.W.Frag} (h : X.K = K) : OpR X (compareOp .NotIn) (rIn K true) := h ▸ op_notIn_seq
/-! ### going on, step by step -/
def goS (N : Net) : Nat → Nat → Option Nat
  | 0, x => some x
  | n + 1, x => (goS N n x).bind (nxt N)
theorem goS_add (N : Net) (x m : Nat) : ∀ n, goS N (m + n) x = (goS N m x).bind (goS N n)
  | 0 => by
    show goS N m x = _
    cases goS N m x <;> rfl
  | n + 1 => by
    show (goS N (m + n) x).bind (nxt N) = _
    rw [goS_add N x m n]
    cases goS N m x <;> rfl
theorem goS_path {N : Net} {x : Nat} : ∀ j z, (path N x)[j]? = some z → goS N j x = some z
  | 0, z, h => by
    obtain ⟨t, e⟩ := path_head N x
    rw [e] at h
    cases h
    rfl
  | j + 1, z, h => by
    have hj := (List.getElem?_eq_some_iff.mp h).1
    have h0 : (path N x)[j]? = some ((path N x)[j]'(by omega)) := List.getElem?_eq_getElem _
    show (goS N j x).bind (nxt N) = _
    rw [goS_path j _ h0]
    exact path_chain (N := N) (x := x) N.length j _ _ h0 h
theorem goS_mem {N : Net} (o : NetOk N) {x : Nat} (hx : x < N.length) : ∀ n y, goS N n x = some y → ∃ j, (path N x)[j]? = some y ∧ (cutN N x ≤ n → cutN N x < (path N x).length → cutN N x ≤ j)
  | 0, y, h => by
    cases h
    obtain ⟨t, e⟩ := path_head N x
    exact ⟨0, by rw [e]; rfl, fun h _ => h⟩
  | n + 1, y, h => by
    have h' : (goS N n x).bind (nxt N) = some y := h
    cases hz : goS N n x with
    | none => rw [hz] at h'; cases h'
    | some z =>
      rw [hz] at h'
      have hn : nxt N z = some y := h'
      obtain ⟨j, hj, hc⟩ := goS_mem o hx n z hz
      have hjl := (List.getElem?_eq_some_iff.mp hj).1
      rcases next_at o hx hj with ⟨h1, _, _⟩ | ⟨u, h1, h2⟩ | ⟨u, h1, h2, h3⟩
      · rw [hn] at h1; cases h1
      · rw [hn] at h1
        cases h1
        refine ⟨j + 1, h2, fun hcn hcl => ?_⟩
        by_cases hq : cutN N x ≤ n
        · have := hc hq hcl
          omega
        · -- the cut is reached just now
          have e : cutN N x = n + 1 := by omega
          have hp := goS_path (N := N) (x := x) (n + 1) _ (List.getElem?_eq_getElem (show n + 1 < (path N x).length by omega))
          rw [h] at hp
          have hy := Option.some.inj hp
          have hnd := (path_been o hx).nd
          obtain ⟨hj1, e1⟩ := List.getElem?_eq_some_iff.mp h2
          have := (List.getElem_inj (h₀ := hj1) (h₁ := show n + 1 < (path N x).length by omega) hnd).mp (e1.trans hy)
          omega
      · rw [hn] at h1
        cases h1
        exact ⟨cutN N x, h3, fun _ _ => Nat.le_refl _⟩
theorem wayR_get {N : Net} {x y : Nat} : y ∈ wayR N x ↔ ∃ j, cutN N x ≤ j ∧ (path N x)[j]? = some y := by
  unfold wayR
  constructor
  · intro h
    obtain ⟨i, hi, e⟩ := List.getElem_of_mem h
    have h2 := List.getElem?_eq_getElem hi
    rw [e, List.getElem?_drop] at h2
    exact ⟨cutAt N (path N x) + i, by show cutN N x ≤ cutN N x + i; omega, h2⟩
  · rintro ⟨j, hj, h⟩
    refine List.mem_of_getElem? (i := j - cutN N x) ?_
    rw [List.getElem?_drop]
    show (path N x)[cutN N x + (j - cutN N x)]? = _
    rw [show cutN N x + (j - cutN N x) = j by omega]; exact h
/-- behind the whole path -/
theorem goS_len {N : Net} (o : NetOk N) {x : Nat} (hx : x < N.length) : goS N (path N x).length x = if cutN N x < (path N x).length then (path N x)[cutN N x]? else none := by
  have hp := (path_been o hx).pos
  have h0 : (path N x)[(path N x).length - 1]? = some ((path N x)[(path N x).length - 1]'(by omega)) := List.getElem?_eq_getElem _
  have hg := goS_path _ _ h0
  have e : (path N x).length = ((path N x).length - 1) + 1 := by omega
  have h1 : goS N (path N x).length x = nxt N ((path N x)[(path N x).length - 1]'(by omega)) := by
    conv => lhs; rw [e]
    show (goS N ((path N x).length - 1) x).bind (nxt N) = _
    rw [hg]; rfl
  rw [h1]
  rcases next_at o hx h0 with ⟨h2, h3, h4⟩ | ⟨u, h2, h3⟩ | ⟨u, h2, h3, h4⟩
  · rw [h2, if_neg (by omega)]
  · have := (List.getElem?_eq_some_iff.mp h3).1
    omega
  · have := (List.getElem?_eq_some_iff.mp h4).1
    rw [h2, if_pos this, h4]
theorem goS_none {N : Net} {x m : Nat} (h : goS N m x = none) : ∀ n, goS N (m + n) x = none := fun n => by
  rw [goS_add, h]; rfl
/-- what comes again, by steps -/
theorem wayR_iff {N : Net} (o : NetOk N) {x y : Nat} (hx : x < N.length) : y ∈ wayR N x ↔ (∃ m, goS N m x = some y) ∧ ∃ n, 1 ≤ n ∧ goS N n y = some y := by
  constructor
  · intro h
    obtain ⟨j, hj, hy⟩ := wayR_get.mp h
    have hjl := (List.getElem?_eq_some_iff.mp hy).1
    have hg := goS_path j y hy
    refine ⟨⟨j, hg⟩, (path N x).length - cutN N x, by omega, ?_⟩
    have hl := goS_len o hx
    rw [if_pos (by omega)] at hl
    have hcg : goS N (cutN N x) x = (path N x)[cutN N x]? := by
      have := List.getElem?_eq_getElem (show cutN N x < (path N x).length by omega)
      rw [this]; exact goS_path _ _ this
    rw [← hcg] at hl
    have h1 := goS_add N x j ((path N x).length - cutN N x)
    rw [hg] at h1
    have h2 := goS_add N x (path N x).length (j - cutN N x)
    rw [hl, ← goS_add, show cutN N x + (j - cutN N x) = j by omega, hg, show (path N x).length + (j - cutN N x) = j + ((path N x).length - cutN N x) by omega] at h2
    rw [h2] at h1
    exact h1.symm
  · rintro ⟨⟨m, hm⟩, n, hn, hy⟩
    have again : ∀ k, goS N (m + k * n) x = some y := by
      intro k
      induction k with
      | zero => rw [Nat.zero_mul]; exact hm
      | succ k ih => rw [Nat.add_mul, Nat.one_mul, ← Nat.add_assoc, goS_add, ih]; exact hy
    have big : ∀ s, ∃ k, s ≤ m + k * n := fun s => ⟨s, by
      have : s * 1 ≤ s * n := Nat.mul_le_mul_left s hn
      omega⟩
    have hcl : cutN N x < (path N x).length := by
      by_cases hc : cutN N x < (path N x).length
      · exact hc
      · exfalso
        have hl := goS_len o hx
        rw [if_neg hc] at hl
        obtain ⟨k, hk⟩ := big (path N x).length
        have h1 := goS_none hl (m + k * n - (path N x).length)
        rw [show (path N x).length + (m + k * n - (path N x).length) = m + k * n by omega, again k] at h1
        cases h1
    obtain ⟨k, hk⟩ := big (cutN N x)
    obtain ⟨j, hj, hc⟩ := goS_mem o hx _ y (again k)
    exact wayR_get.mpr ⟨j, hc hk hcl, hj⟩
theorem wayR_nd {N : Net} (o : NetOk N) {x : Nat} (hx : x < N.length) : (wayR N x).Nodup := by
  have := (path_been o hx).nd
  rw [← way_cat N x] at this
  exact (List.nodup_append.mp this).2.1
theorem sumB_perm (N : Net) {g h : List Nat} (p : g.Perm h) : sumB N g = sumB N h := by
  induction p with
  | nil => rfl
  | cons x _ ih => rw [sumB_cons, sumB_cons, ih]
  | swap x y l => rw [sumB_cons, sumB_cons, sumB_cons, sumB_cons]; omega
  | trans _ _ h1 h2 => rw [h1, h2]
/-- one lap all along a way -/
theorem lap_along {N : Net} (o : NetOk N) {x z k : Nat} (hx : x < N.length) (hz : z < N.length) (h : goS N k x = some z) : lapOf N z = lapOf N x := by
  refine sumB_perm N ((List.perm_ext_iff_of_nodup (wayR_nd o hz) (wayR_nd o hx)).mpr fun y => ?_)
  rw [wayR_iff o hz, wayR_iff o hx]
  constructor
  · rintro ⟨⟨m, hm⟩, r⟩
    exact ⟨⟨k + m, by rw [goS_add, h]; exact hm⟩, r⟩
  · rintro ⟨⟨m, hm⟩, n, hn, hy⟩
    have again : ∀ i, goS N (m + i * n) x = some y := by
      intro i
      induction i with
      | zero => rw [Nat.zero_mul]; exact hm
      | succ i ih => rw [Nat.add_mul, Nat.one_mul, ← Nat.add_assoc, goS_add, ih]; exact hy
    refine ⟨⟨m + k * n - k, ?_⟩, n, hn, hy⟩
    have h1 : k * 1 ≤ k * n := Nat.mul_le_mul_left k hn
    have h2 := goS_add N x k (m + k * n - k)
    rw [show k + (m + k * n - k) = m + k * n by omega, again k, h] at h2
    exact h2.symm
theorem lap_nonneg {N : Net} (o : NetOk N) {x : Nat} (hx : x < N.length) : 0 ≤ lapOf N x := sumB_nonneg o (way_sub o hx)
/-! ### two flames -/
def frstOf (N : Net) (b : Int) (x y : Nat) : Int := frst N b x ((path N x).idxOf y)
theorem idx_get {g : List Nat} {y : Nat} (h : y ∈ g) : g[g.idxOf y]? = some y := by
  have hix := List.idxOf_lt_length_iff.mpr h
  rw [List.getElem?_eq_getElem hix, List.getElem_idxOf hix]
theorem idx_of {g : List Nat} (hn : g.Nodup) {j y : Nat} (h : g[j]? = some y) : g.idxOf y = j := by
  obtain ⟨h1, e1⟩ := List.getElem?_eq_some_iff.mp h
  have hm := List.mem_of_getElem? h
  obtain ⟨h2, e2⟩ := List.getElem?_eq_some_iff.mp (idx_get hm)
  exact (List.getElem_inj (h₀ := h2) (h₁ := h1) hn).mp (e2.trans e1.symm)
theorem look_frst {N : Net} (o : NetOk N) {x y : Nat} (hx : x < N.length) (b : Int) (h : y ∈ path N x) : ∃ lp, lookL y (lightsL N b x) = some (frstOf N b x y, lp) :=
  ⟨_, look_some (lights_nd o hx b) (lights_get o hx b (idx_get h))⟩
/-- from a lamp on both go alike -/
theorem go_alike {N : Net} (o : NetOk N) {x1 x2 m : Nat} (h1 : x1 < N.length) (h2 : x2 < N.length) (b1 b2 : Int) (hm1 : m ∈ path N x1) (hm2 : m ∈ path N x2) :
    ∀ (k z : Nat), (path N x1)[(path N x1).idxOf m + k]? = some z → OnWay N b2 x2 (frstOf N b2 x2 m + (frst N b1 x1 ((path N x1).idxOf m + k) - frstOf N b1 x1 m)) z
  | 0, z, h => by
    have : z = m := by
      have := idx_get hm1
      rw [Nat.add_zero] at h
      rw [h] at this
      exact Option.some.inj this
    subst this
    refine ⟨(path N x2).idxOf z, 0, idx_get hm2, ?_, by decide, .inl rfl⟩
    unfold frstOf
    rw [Nat.add_zero, Int.zero_mul]
    omega
  | k + 1, z, h => by
    have hj := (List.getElem?_eq_some_iff.mp h).1
    have h0 : (path N x1)[(path N x1).idxOf m + k]? = some ((path N x1)[(path N x1).idxOf m + k]'(by omega)) := List.getElem?_eq_getElem _
    have ih := go_alike o h1 h2 b1 b2 hm1 hm2 k _ h0
    have hn := path_chain (N := N) (x := x1) N.length _ _ _ h0 h
    rcases onWay_next o h2 ih with ⟨n1, _⟩ | ⟨y, n1, n2⟩
    · rw [hn] at n1; cases n1
    · rw [hn] at n1
      cases n1
      have e : frst N b1 x1 ((path N x1).idxOf m + (k + 1)) = frst N b1 x1 ((path N x1).idxOf m + k) + burnOf N ((path N x1)[(path N x1).idxOf m + k]'(by omega)) := by
        show b1 + sumB N ((path N x1).take ((path N x1).idxOf m + k + 1)) = _
        rw [take_succ_sum N h0]
        unfold frst
        omega
      rw [e, show frstOf N b2 x2 m + (frst N b1 x1 ((path N x1).idxOf m + k) + burnOf N ((path N x1)[(path N x1).idxOf m + k]'(by omega)) - frstOf N b1 x1 m) = frstOf N b2 x2 m + (frst N b1 x1 ((path N x1).idxOf m + k) - frstOf N b1 x1 m) + burnOf N ((path N x1)[(path N x1).idxOf m + k]'(by omega)) by omega]
      exact n2
/-- the gap at a lamp behind is the same, but for laps -/
theorem gap_stays {N : Net} (o : NetOk N) {x1 x2 m z : Nat} (h1 : x1 < N.length) (h2 : x2 < N.length) (b1 b2 : Int) (hm1 : m ∈ path N x1) (hm2 : m ∈ path N x2) {j : Nat} (hj : (path N x1).idxOf m ≤ j) (hz : (path N x1)[j]? = some z) :
    z ∈ path N x2 ∧ ∃ laps : Int, frstOf N b2 x2 z - frstOf N b1 x1 z = frstOf N b2 x2 m - frstOf N b1 x1 m - laps * lapOf N x1 := by
  have e : j = (path N x1).idxOf m + (j - (path N x1).idxOf m) := by omega
  rw [e] at hz
  obtain ⟨j2, laps, hj2, ht, _⟩ := go_alike o h1 h2 b1 b2 hm1 hm2 _ z hz
  have hmem := List.mem_of_getElem? hj2
  refine ⟨hmem, laps, ?_⟩
  have ml : m < N.length := (path_been o h1).lt m hm1
  have l1 := lap_along o h1 ml (goS_path _ _ (idx_get hm1))
  have l2 := lap_along o h2 ml (goS_path _ _ (idx_get hm2))
  rw [← l2, l1] at ht
  have f2 : frstOf N b2 x2 z = frst N b2 x2 j2 := by unfold frstOf; rw [idx_of (path_been o h2).nd hj2]
  have f1 : frstOf N b1 x1 z = frst N b1 x1 ((path N x1).idxOf m + (j - (path N x1).idxOf m)) := by unfold frstOf; rw [idx_of (path_been o h1).nd hz]
  rw [f1, f2]
  omega
/-- the gap told -/
def gapL (L2 : List Lgt) : List Lgt → Option (Nat × Int)
  | [] => none
  | z :: r => match lookL z.1 L2 with
    | none => gapL L2 r
    | some w => some (z.1, w.1 - z.2.1)
def gapN (N : Net) (b1 : Int) (x1 : Nat) (b2 : Int) (x2 : Nat) : Option (Nat × Int) := gapL (lightsL N b2 x2) (lightsL N b1 x1)
theorem gap_some {L2 : List Lgt} : ∀ {L : List Lgt} {j : Nat} {z : Lgt} {w : Int × Option Int}, L[j]? = some z → lookL z.1 L2 = some w → (∀ i, i < j → ∀ y, L[i]? = some y → lookL y.1 L2 = none) → gapL L2 L = some (z.1, w.1 - z.2.1)
  | [], _, _, _, h, _, _ => by cases h
  | y :: r, 0, z, w, h, hw, _ => by
    cases h
    unfold gapL
    rw [hw]
  | y :: r, j + 1, z, w, h, hw, hb => by
    unfold gapL
    rw [hb 0 (Nat.zero_lt_succ _) y rfl]
    exact gap_some (j := j) (by simpa using h) hw fun i hi y hy => hb (i + 1) (Nat.succ_lt_succ hi) y (by simpa using hy)
theorem gap_none {L2 : List Lgt} : ∀ {L : List Lgt}, (∀ y ∈ L, lookL y.1 L2 = none) → gapL L2 L = none
  | [], _ => rfl
  | y :: r, h => by
    unfold gapL
    rw [h y List.mem_cons_self]
    exact gap_none fun z hz => h z (List.mem_cons_of_mem _ hz)
def bothL (N : Net) (x1 x2 : Nat) : List Nat := (path N x1).filter fun y => decide (y ∈ path N x2)
theorem gap_due {N : Net} (o : NetOk N) {x1 x2 : Nat} (h1 : x1 < N.length) (h2 : x2 < N.length) (b1 b2 : Int) :
    gapN N b1 x1 b2 x2 = (bothL N x1 x2).head?.map fun m => (m, frstOf N b2 x2 m - frstOf N b1 x1 m) := by
  unfold gapN
  cases hb : bothL N x1 x2 with
  | nil =>
    refine gap_none fun y hy => look_none ?_
    rw [lights_fst]
    intro hm
    have hy1 : y.1 ∈ path N x1 := by rw [← lights_fst N b1 x1]; exact List.mem_map_of_mem hy
    have : y.1 ∈ bothL N x1 x2 := List.mem_filter.mpr ⟨hy1, decide_eq_true hm⟩
    rw [hb] at this
    cases this
  | cons m l =>
    have hm : m ∈ bothL N x1 x2 := by rw [hb]; exact List.mem_cons_self
    obtain ⟨hm1, hm2⟩ := List.mem_filter.mp hm
    have hm2' : m ∈ path N x2 := of_decide_eq_true hm2
    obtain ⟨lp, hlk⟩ := look_frst o h2 b2 hm2'
    have hz := lights_get o h1 b1 (idx_get hm1)
    rw [gap_some (w := (frstOf N b2 x2 m, lp)) hz hlk fun i hi y hy => ?_]
    · rfl
    · refine look_none ?_
      rw [lights_fst]
      intro hyp
      have hlen : (lightsL N b1 x1).length = (path N x1).length := by rw [← lights_fst N b1 x1, List.length_map]
      have hil := (List.getElem?_eq_some_iff.mp hy).1
      have hyi : (path N x1)[i]? = some ((path N x1)[i]'(by omega)) := List.getElem?_eq_getElem _
      have := lights_get o h1 b1 hyi
      rw [hy] at this
      have ey := Option.some.inj this
      rw [ey] at hyp
      -- the filter's head would stand sooner
      have hlt : i < (path N x1).idxOf m := hi
      have hb2 : bothL N x1 x2 = ((path N x1).take ((path N x1).idxOf m)).filter (fun y => decide (y ∈ path N x2)) ++ ((path N x1).drop ((path N x1).idxOf m)).filter (fun y => decide (y ∈ path N x2)) := by
        rw [← List.filter_append, List.take_append_drop]; rfl
      have hin : (path N x1)[i]'(by omega) ∈ ((path N x1).take ((path N x1).idxOf m)).filter (fun y => decide (y ∈ path N x2)) := by
        refine List.mem_filter.mpr ⟨?_, decide_eq_true hyp⟩
        exact List.mem_of_getElem? (i := i) (by rw [List.getElem?_take, if_pos hlt]; exact hyi)
      rw [hb] at hb2
      cases hc : ((path N x1).take ((path N x1).idxOf m)).filter (fun y => decide (y ∈ path N x2)) with
      | nil => rw [hc] at hin; cases hin
      | cons u v =>
        rw [hc] at hb2
        have eu : m = u := (List.cons.inj hb2).1
        have hu : u ∈ (path N x1).take ((path N x1).idxOf m) := (List.mem_filter.mp (by rw [hc]; exact List.mem_cons_self)).1
        rw [← eu] at hu
        exact nd_take (path_been o h1).nd (idx_get hm1) hu
theorem both_mem {N : Net} {x1 x2 m : Nat} (h : (bothL N x1 x2).head? = some m) : m ∈ path N x1 ∧ m ∈ path N x2 := by
  have hm : m ∈ bothL N x1 x2 := List.mem_of_mem_head? h
  obtain ⟨a, b⟩ := List.mem_filter.mp hm
  exact ⟨a, of_decide_eq_true b⟩
theorem both_head {N : Net} (o : NetOk N) {x1 x2 m u : Nat} (h1 : x1 < N.length) (h : (bothL N x1 x2).head? = some m) (hu1 : u ∈ path N x1) (hu2 : u ∈ path N x2) : (path N x1).idxOf m ≤ (path N x1).idxOf u := by
  by_cases hlt : (path N x1).idxOf u < (path N x1).idxOf m
  · exfalso
    obtain ⟨hm1, hm2⟩ := both_mem h
    have hb2 : bothL N x1 x2 = ((path N x1).take ((path N x1).idxOf m)).filter (fun y => decide (y ∈ path N x2)) ++ ((path N x1).drop ((path N x1).idxOf m)).filter (fun y => decide (y ∈ path N x2)) := by
      rw [← List.filter_append, List.take_append_drop]; rfl
    have hin : u ∈ ((path N x1).take ((path N x1).idxOf m)).filter (fun y => decide (y ∈ path N x2)) := by
      refine List.mem_filter.mpr ⟨?_, decide_eq_true hu2⟩
      exact List.mem_of_getElem? (i := (path N x1).idxOf u) (by rw [List.getElem?_take, if_pos hlt]; exact idx_get hu1)
    cases hc : ((path N x1).take ((path N x1).idxOf m)).filter (fun y => decide (y ∈ path N x2)) with
    | nil => rw [hc] at hin; cases hin
    | cons a l =>
      rw [hb2, hc] at h
      have ea : a = m := Option.some.inj h
      have ha : a ∈ (path N x1).take ((path N x1).idxOf m) := (List.mem_filter.mp (by rw [hc]; exact List.mem_cons_self)).1
      rw [ea] at ha
      exact nd_take (path_been o h1).nd (idx_get hm1) ha
  · omega
theorem both_none {N : Net} {x1 x2 : Nat} : bothL N x1 x2 = [] ↔ bothL N x2 x1 = [] := by
  have key : ∀ {a b : Nat}, bothL N a b = [] → bothL N b a = [] := fun {a b} h => by
    cases hc : bothL N b a with
    | nil => rfl
    | cons u l =>
      exfalso
      have hu : u ∈ bothL N b a := by rw [hc]; exact List.mem_cons_self
      obtain ⟨h1, h2⟩ := List.mem_filter.mp hu
      have : u ∈ bothL N a b := List.mem_filter.mpr ⟨of_decide_eq_true h2, decide_eq_true h1⟩
      rw [h] at this
      cases this
  exact ⟨key, key⟩
theorem gap_self {N : Net} (o : NetOk N) {x : Nat} (hx : x < N.length) (b : Int) : gapN N b x b x = some (x, 0) := by
  rw [gap_due o hx hx]
  have e : bothL N x x = path N x := by
    unfold bothL
    refine List.filter_eq_self.mpr fun y hy => decide_eq_true hy
  obtain ⟨t, et⟩ := path_head N x
  rw [e, et]
  show some (x, frstOf N b x x - frstOf N b x x) = _
  rw [Int.sub_self]
theorem gap_none_both {N : Net} (o : NetOk N) {x1 x2 : Nat} (h1 : x1 < N.length) (h2 : x2 < N.length) {b1 b2 : Int} : gapN N b1 x1 b2 x2 = none ↔ bothL N x1 x2 = [] := by
  rw [gap_due o h1 h2]
  cases bothL N x1 x2 with
  | nil => exact ⟨fun _ => rfl, fun _ => rfl⟩
  | cons u l => exact ⟨fun h => (by cases h), fun h => (by cases h)⟩
theorem gap_get {N : Net} (o : NetOk N) {x1 x2 m : Nat} {g : Int} (h1 : x1 < N.length) (h2 : x2 < N.length) {b1 b2 : Int} (h : gapN N b1 x1 b2 x2 = some (m, g)) : (bothL N x1 x2).head? = some m ∧ g = frstOf N b2 x2 m - frstOf N b1 x1 m := by
  rw [gap_due o h1 h2] at h
  cases hb : (bothL N x1 x2).head? with
  | none => rw [hb] at h; cases h
  | some u => rw [hb] at h; cases h; exact ⟨rfl, rfl⟩
theorem gap_back {N : Net} (o : NetOk N) {x1 x2 m m' : Nat} {g g' : Int} (h1 : x1 < N.length) (h2 : x2 < N.length) {b1 b2 : Int} (h : gapN N b1 x1 b2 x2 = some (m, g)) (h' : gapN N b2 x2 b1 x1 = some (m', g')) : ∃ laps : Int, g' = 0 - g - laps * lapOf N m := by
  obtain ⟨hb, rfl⟩ := gap_get o h1 h2 h
  obtain ⟨hb', rfl⟩ := gap_get o h2 h1 h'
  obtain ⟨m1, m2⟩ := both_mem hb
  obtain ⟨m2', m1'⟩ := both_mem hb'
  obtain ⟨_, laps, e⟩ := gap_stays o h1 h2 b1 b2 m1 m2 (both_head o h1 hb m1' m2') (idx_get m1')
  have ml : m < N.length := (path_been o h1).lt m m1
  rw [lap_along o h1 ml (goS_path _ _ (idx_get m1))]
  refine ⟨-laps, ?_⟩
  rw [Int.neg_mul]
  omega
/-- the light's own value -/
theorem valV_at {H : Hp} : ∀ {r : List (Key × V)} {L : List Lgt} {i : Nat} {z : Lgt} {v : V}, LtA H r L → (L.map (·.1)).Nodup → L[i]? = some z → r[i]? = some (Sum.inl (z.1 : Int), v) → valV r (Sum.inl (z.1 : Int) : Key) = some v
  | _, _, _, _, _, .nil, _, h, _ => by cases h
  | _, _, 0, _, _, .cons _ _, _, h, h2 => by
    cases h
    cases h2
    exact valV_pos rfl
  | _, _, i + 1, z, v, @LtA.cons _ y w u r l _ t, hn, h, h2 => by
    have hn2 : y ∉ l.map (·.1) ∧ (l.map (·.1)).Nodup := List.nodup_cons.mp hn
    have h3 : l[i]? = some z := by simpa using h
    have hne : ¬ y = z.1 := fun e => hn2.1 (by
      rw [e]
      exact List.mem_map_of_mem (List.mem_of_getElem? h3))
    rw [valV_neg (fun q => hne (by
      have := Sum.inl.inj q
      omega))]
    exact valV_at (i := i) t hn2.2 h3 (by simpa using h2)
end Em

namespace Em
open PySem PySem.Spec PyProof.Rows L2 Qt

section
variable {X : Cx} {o e : Expr} {es : List Expr} {to : TE} {t : TA} {name : Str} {apos cpos : Pos} {T id : String} {r : V → List V → Hp → VK → Prop}
theorem pe_bmK {K : PySem.W.Frag} (hK : X.K = K) (pa : PlainAttrs T) (slot : Slot T name id) (hty : typeOf (.builtin id) = pure (.type "method_descriptor")) (hm : MtR X id r) (ho : PE X o to) (ha : PA X (e :: es) t)
    (hbase : attributeBase o name X.env (eval o X.env) = eval o X.env := by rfl)
    (hfew : ((backTo cpos (starEach (e :: es) X.env)).all (fun x => !x.1) && (backToKw cpos (keywordEach [] X.env)).all (fun x => x.1.isSome)
      && decide ((e :: es).length + ([] : List Keyword).length + (if ([] : List Keyword).isEmpty then 0 else 1) < 30)) = true := by rfl)
    (hline : (apos.endLine == cpos.line) = true := by rfl) (hs : starEach (e :: es) X.env = (false, eval e X.env) :: starEach es X.env := by rfl) (hplain : (backTo cpos (starEach es X.env)).any (·.1) = false := by rfl) :
    PE X (.Call (.Attribute o name apos) (e :: es) [] cpos) (tBM K T r to t) := hK ▸ pe_bm pa slot hty hm ho ha hbase hfew hline hs hplain
theorem call_len_seqK {K : PySem.W.Frag} (hK : X.K = K) : CallR X (.builtin "len") (fun xs H Q => ∃ p ys, xs = [V.ref p] ∧ (SqL K H p ys ∨ SqT K H p ys) ∧ Q (.int (ys.length : Nat)) H) := hK ▸ call_len_seq
end
/-! ### a net of a line of lamps -/
structure Line (o : List Nat) (s : List Int) (bg : Option Nat) : Prop where
  nd : o.Nodup
  lt : ∀ y ∈ o, y < o.length
  len : s.length = o.length
  lo : 2 ≤ o.length
  hi : o.length ≤ 12
  sz : ∀ z ∈ s, 1 ≤ z ∧ z ≤ 10 ^ 58
  bg : ∀ b, bg = some b → b < o.length
def thereL (o : List Nat) (bg : Option Nat) (k : Nat) : Option Nat := if k + 1 < o.length then o[k + 1]? else bg.bind fun b => o[b]?
def setL (o : List Nat) (s : List Int) (bg : Option Nat) : Nat → List (Option (Int × Option Nat))
  | 0 => List.replicate o.length none
  | k + 1 => (setL o s bg k).set (o.getD k 0) (some (s.getD k 1, thereL o bg k))
def netL (o : List Nat) (s : List Int) (bg : Option Nat) : Net := (setL o s bg o.length).map fun p => p.getD (1, none)
theorem setL_len (o : List Nat) (s : List Int) (bg : Option Nat) : ∀ k, (setL o s bg k).length = o.length
  | 0 => List.length_replicate
  | k + 1 => by
    show ((setL o s bg k).set _ _).length = _
    rw [List.length_set, setL_len o s bg k]
theorem getD_of {α : Type} {l : List α} {k : Nat} {y d : α} (h : l[k]? = some y) : l.getD k d = y := by rw [List.getD_eq_getElem?_getD, h]; rfl
section
variable {o : List Nat} {s : List Int} {bg : Option Nat}
theorem setL_get (h : Line o s bg) : ∀ k, k ≤ o.length → ∀ i y, i < k → o[i]? = some y → (setL o s bg k)[y]? = some (some (s.getD i 1, thereL o bg i))
  | 0, _, i, y, hi, _ => by omega
  | k + 1, hk, i, y, hi, hy => by
    show ((setL o s bg k).set (o.getD k 0) _)[y]? = _
    have hkk : o[k]? = some (o[k]'(by omega)) := List.getElem?_eq_getElem _
    rw [getD_of hkk, List.getElem?_set]
    have hyl := h.lt y (List.mem_of_getElem? hy)
    by_cases e : i = k
    · subst e
      rw [hkk] at hy
      have ey := Option.some.inj hy
      rw [if_pos ey, if_pos (by rw [setL_len, ey]; exact hyl)]
    · have hne : ¬ o[k]'(by omega) = y := fun e2 => by
        obtain ⟨h1, e1⟩ := List.getElem?_eq_some_iff.mp hy
        have := (List.getElem_inj (h₀ := h1) (h₁ := show k < o.length by omega) h.nd).mp (e1.trans e2.symm)
        exact e this
      rw [if_neg hne]
      exact setL_get h k (by omega) i y (by omega) hy
theorem line_all (h : Line o s bg) {j : Nat} (hj : j < o.length) : j ∈ o := by
  by_cases hm : j ∈ o
  · exact hm
  · exfalso
    have := nodup_le (n := o.length) (g := j :: o) (List.nodup_cons.mpr ⟨hm, h.nd⟩) fun y hy => by
      rcases List.mem_cons.mp hy with e | hy
      · rw [e]; exact hj
      · exact h.lt y hy
    rw [List.length_cons] at this
    omega
theorem netL_len : (netL o s bg).length = o.length := by unfold netL; rw [List.length_map, setL_len]
theorem netL_get (h : Line o s bg) {k y : Nat} (hy : o[k]? = some y) : (netL o s bg)[y]? = some (s.getD k 1, thereL o bg k) := by
  unfold netL
  rw [List.getElem?_map, setL_get h o.length (Nat.le_refl _) k y (List.getElem?_eq_some_iff.mp hy).1 hy]
  rfl
theorem netL_some (h : Line o s bg) : setL o s bg o.length = (netL o s bg).map some := by
  refine List.ext_getElem? fun j => ?_
  by_cases hj : j < o.length
  · have hm := line_all h hj
    have hk := idx_get hm
    rw [setL_get h o.length (Nat.le_refl _) _ j (List.getElem?_eq_some_iff.mp hk).1 hk, List.getElem?_map, netL_get h hk]
    rfl
  · rw [List.getElem?_eq_none (by rw [setL_len]; omega), List.getElem?_eq_none (by rw [List.length_map, netL_len]; omega)]
theorem there_lt (h : Line o s bg) {k y : Nat} (e : thereL o bg k = some y) : y < o.length := by
  unfold thereL at e
  by_cases hk : k + 1 < o.length
  · rw [if_pos hk] at e
    exact h.lt y (List.mem_of_getElem? e)
  · rw [if_neg hk] at e
    cases hb : bg with
    | none => rw [hb] at e; cases e
    | some b => rw [hb] at e; exact h.lt y (List.mem_of_getElem? (i := b) e)
theorem size_at (h : Line o s bg) {k : Nat} (hk : k < o.length) : s[k]? = some (s.getD k 1) ∧ 1 ≤ s.getD k 1 ∧ s.getD k 1 ≤ 10 ^ 58 := by
  have e : s[k]? = some (s[k]'(by rw [h.len]; exact hk)) := List.getElem?_eq_getElem _
  rw [getD_of e]
  exact ⟨e, h.sz _ (List.getElem_mem _)⟩
theorem netL_mem (h : Line o s bg) {p : Int × Option Nat} (hp : p ∈ netL o s bg) : ∃ k, k < o.length ∧ p = (s.getD k 1, thereL o bg k) := by
  obtain ⟨j, hj, e⟩ := List.getElem_of_mem hp
  rw [netL_len] at hj
  have hk := idx_get (line_all h hj)
  have h1 := netL_get h hk
  rw [List.getElem?_eq_getElem (by rw [netL_len]; exact hj), e] at h1
  exact ⟨_, (List.getElem?_eq_some_iff.mp hk).1, Option.some.inj h1⟩
theorem netL_ok (h : Line o s bg) : NetOk (netL o s bg) := by
  refine ⟨by rw [netL_len]; have := h.lo; omega, by rw [netL_len]; exact h.hi, fun p hp => ?_, fun p hp y hy => ?_⟩
  · obtain ⟨k, hk, rfl⟩ := netL_mem h hp
    exact (size_at h hk).2.1
  · obtain ⟨k, hk, rfl⟩ := netL_mem h hp
    rw [netL_len]
    exact there_lt h hy
theorem line_nxt (h : Line o s bg) {k y : Nat} (hy : o[k]? = some y) : nxt (netL o s bg) y = thereL o bg k := nxt_get (netL_get h hy)
theorem line_burn (h : Line o s bg) {k y : Nat} (hy : o[k]? = some y) : burnOf (netL o s bg) y = s.getD k 1 := burnOf_get (netL_get h hy)
/-- the lengths from one place of the line to another -/
def sumS (s : List Int) (i k : Nat) : Int := ((s.drop i).take (k - i)).sum
theorem sumS_self (s : List Int) (i : Nat) : sumS s i i = 0 := by unfold sumS; rw [Nat.sub_self]; rfl
theorem sumS_succ (h : Line o s bg) {i k : Nat} (hi : i ≤ k) (hk : k < o.length) : sumS s i (k + 1) = sumS s i k + s.getD k 1 := by
  unfold sumS
  rw [show k + 1 - i = (k - i) + 1 by omega, List.take_add_one, List.getElem?_drop, show i + (k - i) = k by omega, (size_at h hk).1, List.sum_append_int]
  show _ + (s.getD k 1 + 0) = _
  rw [Int.add_zero]
theorem sumS_cat (h : Line o s bg) {i j : Nat} (hi : i ≤ j) : ∀ n, j + n ≤ o.length → sumS s i (j + n) = sumS s i j + sumS s j (j + n)
  | 0, _ => by rw [Nat.add_zero, sumS_self, Int.add_zero]
  | n + 1, hn => by
    have h1 := sumS_succ h (i := i) (k := j + n) (by omega) (by omega)
    have h2 := sumS_succ h (i := j) (k := j + n) (by omega) (by omega)
    have h3 := sumS_cat h hi n (by omega)
    show sumS s i (j + n + 1) = sumS s i j + sumS s j (j + n + 1)
    omega
theorem sumS_bound (h : Line o s bg) {i : Nat} : ∀ n, i + n ≤ o.length → (n : Int) ≤ sumS s i (i + n) ∧ sumS s i (i + n) ≤ n * 10 ^ 58
  | 0, _ => by rw [Nat.add_zero, sumS_self]; exact ⟨by omega, by simp⟩
  | n + 1, hn => by
    have h1 := sumS_succ h (i := i) (k := i + n) (by omega) (by omega)
    have h2 := sumS_bound h (i := i) n (by omega)
    have h3 := (size_at h (show i + n < o.length by omega)).2
    have e : ((n + 1 : Nat) : Int) * 10 ^ 58 = (n : Int) * 10 ^ 58 + 10 ^ 58 := by
      rw [show ((n + 1 : Nat) : Int) = (n : Int) + 1 by omega, Int.add_mul, Int.one_mul]
    show ((n + 1 : Nat) : Int) ≤ sumS s i (i + n + 1) ∧ sumS s i (i + n + 1) ≤ ((n + 1 : Nat) : Int) * 10 ^ 58
    rw [e, h1]
    omega
variable {f : Int} {x : Nat}
theorem line_go (h : Line o s bg) (hx : x < o.length) {i : Nat} {t : Int} {y : Nat} (hy : o[i]? = some y) (ho : OnWay (netL o s bg) f x t y) : ∀ n z, o[i + n]? = some z → OnWay (netL o s bg) f x (t + sumS s i (i + n)) z
  | 0, z, hz => by
    rw [Nat.add_zero] at hz ⊢
    rw [hy] at hz
    cases hz
    rw [sumS_self, Int.add_zero]
    exact ho
  | n + 1, z, hz => by
    have hl := (List.getElem?_eq_some_iff.mp hz).1
    have h0 : o[i + n]? = some (o[i + n]'(by omega)) := List.getElem?_eq_getElem _
    have ih := line_go h hx hy ho n _ h0
    rcases onWay_next (netL_ok h) (by rw [netL_len]; exact hx) ih with ⟨n1, _⟩ | ⟨u, n1, n2⟩
    · rw [line_nxt h h0] at n1
      unfold thereL at n1
      rw [if_pos (by omega)] at n1
      rw [show i + n + 1 = i + (n + 1) by omega, hz] at n1
      cases n1
    · rw [line_nxt h h0] at n1
      unfold thereL at n1
      rw [if_pos (by omega), show i + n + 1 = i + (n + 1) by omega, hz] at n1
      cases n1
      rw [line_burn h h0] at n2
      have e := sumS_succ h (i := i) (k := i + n) (by omega) (by omega)
      rw [show i + (n + 1) = i + n + 1 by omega, e, ← Int.add_assoc]
      exact n2
/-- behind the line's end -/
theorem line_end (h : Line o s bg) (hx : x < o.length) {i : Nat} {t : Int} {y : Nat} (hy : o[i]? = some y) (ho : OnWay (netL o s bg) f x t y) :
    (bg = none → wayR (netL o s bg) x = [] ∧ t + sumS s i o.length = frst (netL o s bg) f x (path (netL o s bg) x).length) ∧
    ∀ b z, bg = some b → o[b]? = some z → OnWay (netL o s bg) f x (t + sumS s i o.length) z := by
  have hi := (List.getElem?_eq_some_iff.mp hy).1
  have hlast : o[i + (o.length - 1 - i)]? = some (o[i + (o.length - 1 - i)]'(by omega)) := List.getElem?_eq_getElem _
  have hg := line_go h hx hy ho (o.length - 1 - i) _ hlast
  have e := sumS_succ h (i := i) (k := i + (o.length - 1 - i)) (by omega) (by omega)
  rw [show i + (o.length - 1 - i) + 1 = o.length by omega] at e
  have hb := line_burn h hlast
  have hn := line_nxt h hlast
  have ht : thereL o bg (i + (o.length - 1 - i)) = bg.bind fun b => o[b]? := by
    unfold thereL
    rw [if_neg (by omega)]
  rw [ht] at hn
  rcases onWay_next (netL_ok h) (by rw [netL_len]; exact hx) hg with ⟨n1, n2, n3⟩ | ⟨u, n1, n2⟩
  · refine ⟨fun hbg => ⟨n2, ?_⟩, fun b z hbg hz => ?_⟩
    · rw [hb] at n3; omega
    · rw [hn, hbg] at n1
      have : o[b]? = none := n1
      rw [hz] at this; cases this
  · refine ⟨fun hbg => ?_, fun b z hbg hz => ?_⟩
    · rw [hn, hbg] at n1; cases n1
    · rw [hn, hbg] at n1
      have : o[b]? = some u := n1
      rw [hz] at this
      cases this
      rw [hb] at n2
      rw [e, ← Int.add_assoc]
      exact n2
theorem line_lap (h : Line o s bg) (hx : x < o.length) {b k : Nat} (hb : bg = some b) (hbk : b ≤ k) {y : Nat} (hy : o[k]? = some y) : ∀ (n : Nat) (t : Int), OnWay (netL o s bg) f x t y → OnWay (netL o s bg) f x (t + n * sumS s b o.length) y
  | 0, t, ho => by
    rw [show ((0 : Nat) : Int) = 0 from rfl, Int.zero_mul, Int.add_zero]; exact ho
  | n + 1, t, ho => by
    have hk := (List.getElem?_eq_some_iff.mp hy).1
    have hbl := h.bg b hb
    have h0 : o[b]? = some (o[b]) := List.getElem?_eq_getElem hbl
    have h1 := (line_end h hx hy ho).2 b _ hb h0
    have h2 := line_go h hx h0 h1 (k - b) y (by rw [show b + (k - b) = k by omega]; exact hy)
    have e := sumS_cat h hbk (o.length - k) (by omega)
    rw [show k + (o.length - k) = o.length by omega] at e
    rw [show b + (k - b) = k by omega] at h2
    have ih := line_lap h hx hb hbk hy n _ h2
    have e2 : t + ((n + 1 : Nat) : Int) * sumS s b o.length = t + sumS s k o.length + sumS s b k + n * sumS s b o.length := by
      rw [show ((n + 1 : Nat) : Int) = (n : Int) + 1 by omega, Int.add_mul, Int.one_mul, e]
      omega
    rw [e2]
    exact ih
end
end Em

namespace K20
open PySem PySem.Spec PyProof.Rows L2 Qt Em
/-! ### the text by places -/
def topS (i : Nat) : Stmt := PySem.Challenge.pw_emberlane_k20_where_one_is_far_on.main.body.getD i (.Pass ⟨0, 0, 0, 0⟩)
abbrev s_is_whole : Stmt := topS 8
abbrev s_is_whole_N : List Str := ["thing"]
theorem sc_is_whole : FnScope s_is_whole_N ["thing"] (defScope s_is_whole) := ⟨rfl, rfl, rfl, by decide +kernel, rfl, by decide +kernel, by decide +kernel⟩
abbrev s_is_pair : Stmt := topS 9
abbrev s_is_pair_N : List Str := ["thing"]
theorem sc_is_pair : FnScope s_is_pair_N ["thing"] (defScope s_is_pair) := ⟨rfl, rfl, rfl, by decide +kernel, rfl, by decide +kernel, by decide +kernel⟩
abbrev s_is_number_of_many : Stmt := topS 10
abbrev s_is_number_of_many_N : List Str := ["thing", "many"]
theorem sc_is_number_of_many : FnScope s_is_number_of_many_N ["thing", "many"] (defScope s_is_number_of_many) := ⟨rfl, rfl, rfl, by decide +kernel, rfl, by decide +kernel, by decide +kernel⟩
abbrev s_is_lamp_of_many : Stmt := topS 11
abbrev s_is_lamp_of_many_N : List Str := ["thing", "many", "length", "onward"]
theorem sc_is_lamp_of_many : FnScope s_is_lamp_of_many_N ["thing", "many"] (defScope s_is_lamp_of_many) := ⟨rfl, rfl, rfl, by decide +kernel, rfl, by decide +kernel, by decide +kernel⟩
abbrev s_is_net : Stmt := topS 12
abbrev s_is_net_N : List Str := ["thing", "many"]
theorem sc_is_net : FnScope s_is_net_N ["thing"] (defScope s_is_net) := ⟨rfl, rfl, rfl, by decide +kernel, rfl, by decide +kernel, by decide +kernel⟩
abbrev s_need_net : Stmt := topS 13
abbrev s_need_net_N : List Str := ["net"]
theorem sc_need_net : FnScope s_need_net_N ["net"] (defScope s_need_net) := ⟨rfl, rfl, rfl, by decide +kernel, rfl, by decide +kernel, by decide +kernel⟩
abbrev s_need_lamp : Stmt := topS 14
abbrev s_need_lamp_N : List Str := ["net", "lamp"]
theorem sc_need_lamp : FnScope s_need_lamp_N ["net", "lamp"] (defScope s_need_lamp) := ⟨rfl, rfl, rfl, by decide +kernel, rfl, by decide +kernel, by decide +kernel⟩
abbrev s_is_kindling_of_many : Stmt := topS 15
abbrev s_is_kindling_of_many_N : List Str := ["thing", "many", "beat", "lamp"]
theorem sc_is_kindling_of_many : FnScope s_is_kindling_of_many_N ["thing", "many"] (defScope s_is_kindling_of_many) := ⟨rfl, rfl, rfl, by decide +kernel, rfl, by decide +kernel, by decide +kernel⟩
abbrev s_way_of : Stmt := topS 16
abbrev s_way_of_N : List Str := ["net", "lamp", "gone", "at", "first"]
theorem sc_way_of : FnScope s_way_of_N ["net", "lamp"] (defScope s_way_of) := ⟨rfl, rfl, rfl, by decide +kernel, rfl, by decide +kernel, by decide +kernel⟩
abbrev s_need_kindling : Stmt := topS 18
abbrev s_need_kindling_N : List Str := ["net", "kindling"]
theorem sc_need_kindling : FnScope s_need_kindling_N ["net", "kindling"] (defScope s_need_kindling) := ⟨rfl, rfl, rfl, by decide +kernel, rfl, by decide +kernel, by decide +kernel⟩
abbrev s_need_beat : Stmt := topS 19
abbrev s_need_beat_N : List Str := ["beat"]
theorem sc_need_beat : FnScope s_need_beat_N ["beat"] (defScope s_need_beat) := ⟨rfl, rfl, rfl, by decide +kernel, rfl, by decide +kernel, by decide +kernel⟩
abbrev s_lights_of : Stmt := topS 21
abbrev s_lights_of_N : List Str := ["net", "kindling", "beat", "lamp", "ahead", "ring", "lap", "lights", "at"]
theorem sc_lights_of : FnScope s_lights_of_N ["net", "kindling"] (defScope s_lights_of) := ⟨rfl, rfl, rfl, by decide +kernel, rfl, by decide +kernel, by decide +kernel⟩
abbrev s_place_by_lights : Stmt := topS 22
abbrev s_place_by_lights_N : List Str := ["net", "lights", "beat", "lamp", "first", "lap", "burnt"]
theorem sc_place_by_lights : FnScope s_place_by_lights_N ["net", "lights", "beat"] (defScope s_place_by_lights) := ⟨rfl, rfl, rfl, by decide +kernel, rfl, by decide +kernel, by decide +kernel⟩
abbrev s_place_alone : Stmt := topS 23
abbrev s_place_alone_N : List Str := ["net", "kindling", "beat"]
theorem sc_place_alone : FnScope s_place_alone_N ["net", "kindling", "beat"] (defScope s_place_alone) := ⟨rfl, rfl, rfl, by decide +kernel, rfl, by decide +kernel, by decide +kernel⟩
abbrev s_law_jar : Stmt := topS 25
abbrev s_law_jar_N : List Str := ["cell", "k"]
theorem sc_law_jar : FnScope s_law_jar_N ["cell", "k"] (defScope s_law_jar) := ⟨rfl, rfl, rfl, by decide +kernel, rfl, by decide +kernel, by decide +kernel⟩
abbrev s_law_pull : Stmt := topS 26
abbrev s_law_pull_N : List Str := ["jar", "many", "found"]
theorem sc_law_pull : FnScope s_law_pull_N ["jar", "many"] (defScope s_law_pull) := ⟨rfl, rfl, rfl, by decide +kernel, rfl, by decide +kernel, by decide +kernel⟩
abbrev s_law_cells : Stmt := topS 27
abbrev s_law_cells_N : List Str := ["script", "most"]
theorem sc_law_cells : FnScope s_law_cells_N ["script", "most"] (defScope s_law_cells) := ⟨rfl, rfl, rfl, by decide +kernel, rfl, by decide +kernel, by decide +kernel⟩
abbrev s_law_exact : Stmt := topS 28
abbrev s_law_exact_N : List Str := ["found", "due", "one", "other"]
theorem sc_law_exact : FnScope s_law_exact_N ["found", "due"] (defScope s_law_exact) := ⟨rfl, rfl, rfl, by decide +kernel, rfl, by decide +kernel, by decide +kernel⟩
abbrev s_law_line : Stmt := topS 29
abbrev s_law_line_N : List Str := ["jar", "many", "left", "order", "turn", "wide", "sizes", "k", "begin"]
theorem sc_law_line : FnScope s_law_line_N ["jar"] (defScope s_law_line) := ⟨rfl, rfl, rfl, by decide +kernel, rfl, by decide +kernel, by decide +kernel⟩
abbrev s_law_land : Stmt := topS 30
abbrev s_law_land_N : List Str := ["order", "sizes", "begin", "found", "k", "there"]
theorem sc_law_land : FnScope s_law_land_N ["order", "sizes", "begin"] (defScope s_law_land) := ⟨rfl, rfl, rfl, by decide +kernel, rfl, by decide +kernel, by decide +kernel⟩
abbrev s_law_at : Stmt := topS 31
abbrev s_law_at_N : List Str := ["order", "sizes", "start", "k"]
theorem sc_law_at : FnScope s_law_at_N ["order", "sizes", "start", "k"] (defScope s_law_at) := ⟨rfl, rfl, rfl, by decide +kernel, rfl, by decide +kernel, by decide +kernel⟩
abbrev s_law_right : Stmt := topS 32
abbrev s_law_right_N : List Str := ["jar", "order", "sizes", "begin", "land", "start", "first", "kindling", "k", "lit", "laps", "lap", "gone", "over"]
theorem sc_law_right : FnScope s_law_right_N ["jar"] (defScope s_law_right) := ⟨rfl, rfl, rfl, by decide +kernel, rfl, by decide +kernel, by decide +kernel⟩
abbrev s_law : Stmt := topS 33
abbrev s_law_N : List Str := ["script", "cells", "k"]
theorem sc_law : FnScope s_law_N ["script"] (defScope s_law) := ⟨rfl, rfl, rfl, by decide +kernel, rfl, by decide +kernel, by decide +kernel⟩

structure Ad where
  a_is_whole : Addr
  f_is_whole : FuncData
  a_is_pair : Addr
  f_is_pair : FuncData
  a_is_number_of_many : Addr
  f_is_number_of_many : FuncData
  a_is_lamp_of_many : Addr
  f_is_lamp_of_many : FuncData
  a_is_net : Addr
  f_is_net : FuncData
  a_need_net : Addr
  f_need_net : FuncData
  a_need_lamp : Addr
  f_need_lamp : FuncData
  a_is_kindling_of_many : Addr
  f_is_kindling_of_many : FuncData
  a_way_of : Addr
  f_way_of : FuncData
  a_need_kindling : Addr
  f_need_kindling : FuncData
  a_need_beat : Addr
  f_need_beat : FuncData
  a_lights_of : Addr
  f_lights_of : FuncData
  a_place_by_lights : Addr
  f_place_by_lights : FuncData
  a_place_alone : Addr
  f_place_alone : FuncData
  a_law_jar : Addr
  f_law_jar : FuncData
  a_law_pull : Addr
  f_law_pull : FuncData
  a_law_cells : Addr
  f_law_cells : FuncData
  a_law_exact : Addr
  f_law_exact : FuncData
  a_law_line : Addr
  f_law_line : FuncData
  a_law_land : Addr
  f_law_land : FuncData
  a_law_at : Addr
  f_law_at : FuncData
  a_law_right : Addr
  f_law_right : FuncData
  a_law : Addr
  f_law : FuncData
  c_EmberError : Addr
  c_NoNet : Addr
  c_NoKindlings : Addr
  c_NoLamp : Addr
  c_NoBeat : Addr
  cd_is_net : Addr
  tb_is_net : Addr
  cd_lights_of : Addr
  tb_lights_of : Addr
structure Tx (K : PySem.W.Frag) (mg : Str → Option Value) (a : Ad) : Prop where
  is_whole : Df K mg "is_whole" s_is_whole ["thing"] a.a_is_whole a.f_is_whole
  is_pair : Df K mg "is_pair" s_is_pair ["thing"] a.a_is_pair a.f_is_pair
  is_number_of_many : Df K mg "is_number_of_many" s_is_number_of_many ["thing", "many"] a.a_is_number_of_many a.f_is_number_of_many
  is_lamp_of_many : Df K mg "is_lamp_of_many" s_is_lamp_of_many ["thing", "many"] a.a_is_lamp_of_many a.f_is_lamp_of_many
  is_net : Df K mg "is_net" s_is_net ["thing"] a.a_is_net a.f_is_net
  need_net : Df K mg "need_net" s_need_net ["net"] a.a_need_net a.f_need_net
  need_lamp : Df K mg "need_lamp" s_need_lamp ["net", "lamp"] a.a_need_lamp a.f_need_lamp
  is_kindling_of_many : Df K mg "is_kindling_of_many" s_is_kindling_of_many ["thing", "many"] a.a_is_kindling_of_many a.f_is_kindling_of_many
  way_of : Df K mg "way_of" s_way_of ["net", "lamp"] a.a_way_of a.f_way_of
  need_kindling : Df K mg "need_kindling" s_need_kindling ["net", "kindling"] a.a_need_kindling a.f_need_kindling
  need_beat : Df K mg "need_beat" s_need_beat ["beat"] a.a_need_beat a.f_need_beat
  lights_of : Df K mg "lights_of" s_lights_of ["net", "kindling"] a.a_lights_of a.f_lights_of
  place_by_lights : Df K mg "place_by_lights" s_place_by_lights ["net", "lights", "beat"] a.a_place_by_lights a.f_place_by_lights
  place_alone : Df K mg "place_alone" s_place_alone ["net", "kindling", "beat"] a.a_place_alone a.f_place_alone
  law_jar : Df K mg "_law_jar" s_law_jar ["cell", "k"] a.a_law_jar a.f_law_jar
  law_pull : Df K mg "_law_pull" s_law_pull ["jar", "many"] a.a_law_pull a.f_law_pull
  law_cells : Df K mg "_law_cells" s_law_cells ["script", "most"] a.a_law_cells a.f_law_cells
  law_exact : Df K mg "_law_exact" s_law_exact ["found", "due"] a.a_law_exact a.f_law_exact
  law_line : Df K mg "_law_line" s_law_line ["jar"] a.a_law_line a.f_law_line
  law_land : Df K mg "_law_land" s_law_land ["order", "sizes", "begin"] a.a_law_land a.f_law_land
  law_at : Df K mg "_law_at" s_law_at ["order", "sizes", "start", "k"] a.a_law_at a.f_law_at
  law_right : Df K mg "_law_right" s_law_right ["jar"] a.a_law_right a.f_law_right
  law : Df K mg "law" s_law ["script"] a.a_law a.f_law
  n_all : mg "all" = none
  n_bool : mg "bool" = none
  n_int : mg "int" = none
  n_isinstance : mg "isinstance" = none
  n_len : mg "len" = none
  n_list : mg "list" = none
  n_max : mg "max" = none
  n_min : mg "min" = none
  n_range : mg "range" = none
  n_sum : mg "sum" = none
  n_tuple : mg "tuple" = none
  n_zip : mg "zip" = none
  c_MOST_LAMPS : ∃ t, mg "MOST_LAMPS" = some (.int 12 t)
  code_is_net : CodeIs K a.a_is_net a.cd_is_net
  code_lights_of : CodeIs K a.a_lights_of a.cd_lights_of
  g_EmberError : mg "EmberError" = some (.ref a.c_EmberError)
  g_NoNet : mg "NoNet" = some (.ref a.c_NoNet)
  g_NoKindlings : mg "NoKindlings" = some (.ref a.c_NoKindlings)
  g_NoLamp : mg "NoLamp" = some (.ref a.c_NoLamp)
  g_NoBeat : mg "NoBeat" = some (.ref a.c_NoBeat)
def lv_is_whole : Nat := 1
def lv_is_pair : Nat := 1
def lv_is_number_of_many : Nat := 2
def lv_is_lamp_of_many : Nat := 3
def lv_is_net : Nat := 6
def lv_need_net : Nat := 7
def lv_need_lamp : Nat := 3
def lv_is_kindling_of_many : Nat := 3
def lv_way_of : Nat := 8
def lv_need_kindling : Nat := 8
def lv_need_beat : Nat := 2
def lv_lights_of : Nat := 11
def lv_place_by_lights : Nat := 1
def lv_place_alone : Nat := 12
def lv_law_jar : Nat := 1
def lv_law_pull : Nat := 1
def lv_law_cells : Nat := 1
def lv_law_exact : Nat := 8
def lv_law_line : Nat := 2
def lv_law_land : Nat := 1
def lv_law_at : Nat := 1
def lv_law_right : Nat := 13
def lv_law : Nat := 14
/-! ### is_whole, is_pair, is_number_of_many, is_lamp_of_many: quiet -/
section
variable {c : Qc} {a : Ad} {S : List Addr} {v u : V} {d e : PyData}
theorem qf_is_whole (O : c.Ok) (T : Tx c.K c.mg a) (h : Dx S c.H v d) : QF c 1 a.a_is_whole a.f_is_whole ["thing"] [v] (.bl (isW d)) := by
  refine q_fun O T.is_whole.F sc_is_whole (by decide +kernel) rfl fun L cdv => ?_
  have e1 : isW d = (kindB d "int" && !kindB d "bool") := by cases d <;> rfl
  rw [e1]
  exact qb_ret (q_and2 (qe_isi (C := "int") O h (q_name rfl) rfl T.n_isinstance rfl T.n_int (by decide +kernel) (by decide)) fun _ => q_not (qe_isi (C := "bool") O h (q_name rfl) rfl T.n_isinstance rfl T.n_bool (by decide +kernel) (by decide)))
def pairB : PyData → Bool
  | .tuple ds => (ds.length : Int) == 2
  | _ => false
theorem qf_is_pair (O : c.Ok) (T : Tx c.K c.mg a) (h : Dx S c.H v d) : QF c 1 a.a_is_pair a.f_is_pair ["thing"] [v] (.bl (pairB d)) := by
  refine q_fun O T.is_pair.F sc_is_pair (by decide +kernel) rfl fun L cdv => ?_
  have h1 : ∀ {k p1 p2 p3 pos}, QE c k (envOfC "is_pair" (defScope s_is_pair) L a.a_is_pair cdv) [("thing", v)] (.Call (.Name "isinstance" p1) [.Name "thing" p2, .Name (Str.ofString "tuple") p3] [] pos) (.bl (kindB d "tuple")) :=
    qe_isi (C := "tuple") O h (q_name rfl) rfl T.n_isinstance rfl T.n_tuple (by decide +kernel) (by decide)
  have e1 : pairB d = (kindB d "tuple" && pairB d) := by cases d <;> rfl
  rw [e1]
  refine qb_ret (q_and2 h1 fun z => ?_)
  cases h with
  | tup n h r =>
    have := r.len
    show QE _ _ _ _ _ (.bl ((_ : Int) == 2))
    rw [← this]
    exact q_cmp qo_eq (q_callB O (qc_lenT (tupQ_of O h)) rfl T.n_len (by decide +kernel) (qa_cons (q_name rfl) qa_nil)) q_int rfl
  | non => cases z
  | bl b => cases z
  | int i => cases z
  | str y => cases z
  | lst n h r => cases z
  | dic n h => cases z
theorem qf_is_number_of_many {m : Nat} (O : c.Ok) (T : Tx c.K c.mg a) (h : Dx S c.H v d) : QF c 2 a.a_is_number_of_many a.f_is_number_of_many ["thing", "many"] [v, .int m] (.bl (numB m d)) := by
  refine q_fun O T.is_number_of_many.F sc_is_number_of_many (by decide +kernel) rfl fun L cdv => ?_
  have e1 : numB m d = (isW d && numB m d) := by cases d <;> rfl
  rw [e1]
  refine qb_ret (q_and2 (q_call O (qf_is_whole O T h) T.is_whole.b rfl rfl T.is_whole.g T.is_whole.F.kp (qa_cons (q_name rfl) qa_nil)) fun z => ?_)
  cases h with
  | int i => exact q_chain qo_le qo_lt q_int (q_name rfl) (q_name rfl)
  | non => cases z
  | bl b => cases z
  | tup n h r => cases z
  | str y => cases z
  | lst n h r => cases z
  | dic n h => cases z
theorem lampB_pair {m : Nat} (h : pairB d = false) : lampB m d = false := by
  cases d with
  | tuple ds =>
    match ds, h with
    | [], _ => rfl
    | [_], _ => rfl
    | [_, _], h => cases h
    | _ :: _ :: _ :: _, _ => rfl
  | _ => rfl
theorem qf_is_lamp_of_many {m : Nat} (O : c.Ok) (T : Tx c.K c.mg a) (h : Dx S c.H v d) : QF c 3 a.a_is_lamp_of_many a.f_is_lamp_of_many ["thing", "many"] [v, .int m] (.bl (lampB m d)) := by
  refine q_fun O T.is_lamp_of_many.F sc_is_lamp_of_many (by decide +kernel) rfl fun L cdv => ?_
  have hp : ∀ {N : Nm} {p1 p2 pos}, N.lookup ("thing" : Str) = some v → QE c 2 (envOfC "is_lamp_of_many" (defScope s_is_lamp_of_many) L a.a_is_lamp_of_many cdv) N (.Call (.Name "is_pair" p1) [.Name "thing" p2] [] pos) (.bl (pairB d)) := fun hN =>
    q_call O (fun A R args us s r => qf_is_pair O T h A R args us s (r.mono (by decide))) T.is_pair.b rfl rfl T.is_pair.g T.is_pair.F.kp (qa_cons (q_name hN) qa_nil)
  cases z : pairB d with
  | false =>
    rw [lampB_pair z]
    refine qb_ifT (qt_not (t := false) (qt_val ?_)) (qb_ret q_bool)
    rw [← z]
    exact hp rfl
  | true =>
    refine qb_ifF (qt_not (t := true) (qt_val ?_)) ?_
    · rw [← z]
      exact hp rfl
    cases h with
    | @tup ad xs ds n h r =>
      have hl : (ds.length : Int) = 2 := by simpa [pairB] using z
      match ds, r with
      | [d1, d2], .cons (v := v1) r1 (.cons (v := v2) r2 .nil) =>
        refine qb_two (q_name rfl) (tupQ_of O h) rfl rfl (fun y hy => ?_) ?_
        · by_cases e1 : y = "thing"
          · rw [e1]; rfl
          · by_cases e2 : y = "many"
            · rw [e2]; rfl
            · have q1 : (y == ("thing" : Str)) = false := by simpa using e1
              have q2 : (y == ("many" : Str)) = false := by simpa using e2
              simp [List.zip, List.zipWith, List.lookup, q1, q2] at hy
        · have hw : ∀ {N : Nm} {p1 p2 pos}, N.lookup ("length" : Str) = some v1 → QE c 2 (envOfC "is_lamp_of_many" (defScope s_is_lamp_of_many) L a.a_is_lamp_of_many cdv) N (.Call (.Name "is_whole" p1) [.Name "length" p2] [] pos) (.bl (isW d1)) := fun hN =>
            q_call O (fun A R args us s r => qf_is_whole O T r1 A R args us s (r.mono (by decide))) T.is_whole.b rfl rfl T.is_whole.g T.is_whole.F.kp (qa_cons (q_name hN) qa_nil)
          cases y1 : isW d1 with
          | false =>
            have e3 : lampB m (.tuple [d1, d2]) = false := by
              have : lenB d1 = false := by cases d1 <;> first | rfl | cases y1
              show (lenB d1 && _) = false
              rw [this]; rfl
            rw [e3]
            refine qb_ifT (qt_orT (qt_not (t := false) (qt_val ?_))) (qb_ret q_bool)
            rw [← y1]
            exact hw rfl
          | true =>
            cases r1 with
            | int i =>
              have h0 : ∀ {p1 p2 p3 p4}, QT c 2 (envOfC "is_lamp_of_many" (defScope s_is_lamp_of_many) L a.a_is_lamp_of_many cdv) (("onward", v2) :: ("length", .int i) :: [("thing", .ref ad), ("many", .int m)])
                  (.UnaryOp .Not (.Call (.Name "is_whole" p1) [.Name "length" p2] [] p3) p4) false := by
                refine qt_not (t := true) (qt_val ?_)
                exact hw rfl
              have e4 : lampB m (.tuple [.int i, d2]) = (!decide (i < 1) && nxB m d2) := rfl
              cases y2 : decide (i < 1) with
              | true =>
                rw [e4, y2]
                exact qb_ifT (qt_or2 h0 (y2 ▸ qt_cmp qo_lt (q_name rfl) q_int rfl)) (qb_ret q_bool)
              | false =>
                rw [e4, y2]
                refine qb_ifF (qt_or2 h0 (y2 ▸ qt_cmp qo_lt (q_name rfl) q_int rfl)) ?_
                have e5 : (!false && nxB m d2) = (decide (v2 = .non) || numB m d2) := by
                  cases r2 <;> first | rfl | (simp [nxB])
                rw [e5]
                refine qb_ret (q_or2 (q_isN (q_name rfl)) fun _ => ?_)
                exact q_call O (fun A R args us s r => qf_is_number_of_many O T r2 A R args us s (r.mono (by decide))) T.is_number_of_many.b rfl rfl T.is_number_of_many.g T.is_number_of_many.F.kp (qa_cons (q_name rfl) (qa_cons (q_name rfl) qa_nil))
            | non => cases y1
            | bl b => cases y1
            | tup n h r => cases y1
            | str y => cases y1
            | lst n h r => cases y1
            | dic n h => cases y1
    | non => cases z
    | bl b => cases z
    | int i => cases z
    | str y => cases z
    | lst n h r => cases z
    | dic n h => cases z
end
/-! ### is_net -/
section
variable {P : Program} {w : World} {K : PySem.W.Frag} {mg : Str → Option Value} {base : Heap} {a : Ad}
/-- is_net(thing), thing any data -/
def spIsNet (TB : Addr) : Sp := fun vs H Q _ => ∃ (S : List Addr) (v : V) (d : PyData), vs = [v] ∧ Dx S H v d ∧ GxR.TabG H TB ∧ ∀ H', Kp [] H H' → Q (.bl (netB d)) H'
theorem ok_is_net (T : Tx K mg a) (TB : GxR.TabB base mg a.cd_is_net a.tb_is_net) : FnOk P w K mg base CX0 6 a.a_is_net a.f_is_net ["thing"] (spIsNet a.tb_is_net) := by
  refine okC T.is_net.F T.code_is_net sc_is_net (fun vs H Q E h => ?_) (fun A outer s H vs Q E hr h => ?_)
  · obtain ⟨S, v, d, rfl, _⟩ := h
    rfl
  obtain ⟨S, v, d, rfl, hd, ht, q⟩ := h
  refine ⟨_, (pss_cons (ps_if (pt_not (pt_val (pe_callB call_isi (by rfl) T.n_isinstance (by decide +kernel) (pa_cons (pv 0) (pa_cons (pe_bltn (v := .ty "tuple") (by rfl) T.n_tuple (by decide +kernel) rfl) pa_nil))))) (pss_one (ps_ret pe_bl)) pss_nil)
      (pss_cons (ps_set (i := 1) sc_is_net.nd rfl (by first | exact .inl rfl | exact .inr rfl) (pe_callB call_len_seq (by rfl) T.n_len (by decide +kernel) (pa_cons (pv 0) pa_nil)))
      (pss_cons (ps_if (PW.pt (pw_or (pt_cmpR op_lt (pv 1) pe_int (nomark _)) (pw_or1 (pt_cmpR op_gt (pv 1) (pe_glob (v := .int 12) rfl T.c_MOST_LAMPS.choose_spec ⟨_, rfl⟩) (nomark _))))) (pss_one (ps_ret pe_bl)) pss_nil)
      (pss_one (ps_ret (pe_allQ (k := 1) (hr.mono (by decide)) (by rfl) T.n_all TB rfl ⟨rfl, rfl, by decide +kernel, by decide +kernel, by decide +kernel, free_by (by decide +kernel)⟩ (pv 0) (fun _ => rfl))))))), ?_⟩
  have hk : PySem.W.kitOne K (.type (kname d)) (.type "tuple") = some (kindB d "tuple") := kit_data (by decide)
  refine ⟨v, rfl, v, .ty "tuple", _, _, _, rfl, .ty _, tyx_of hd, hk, _, rfl, ?_⟩
  cases z : kindB d "tuple" with
  | false =>
    refine iteT ?_
    have e : netB d = false := by cases d <;> first | rfl | cases z
    have := q H Kp.rfl'
    rw [e] at this
    exact this
  | true =>
    refine iteF ?_
    cases hd with
    | @tup ad xs ds n h r =>
      have hl : (xs.length : Int) = (ds.length : Int) := by rw [r.len]
      -- many = len(thing)
      refine ⟨.ref ad, rfl, ad, xs, rfl, .inr (SqT.of h), ?_⟩
      rw [hl]
      -- if many < 1 or many > MOST_LAMPS
      refine ⟨.int ds.length, rfl, _, _, rfl, rfl, _, rfl, ?_⟩
      have e0 : netB (.tuple ds) = (!decide ((ds.length : Int) < 1) && !decide ((12 : Int) < (ds.length : Int)) && (ds.map (lampB ds.length)).all id) := rfl
      cases z1 : decide ((ds.length : Int) < 1) with
      | true =>
        refine iteT (iteT ?_)
        have := q H Kp.rfl'
        rw [e0, z1] at this
        exact this
      | false =>
        refine iteF ⟨.int ds.length, rfl, _, _, rfl, rfl, _, rfl, ?_⟩
        cases z2 : decide ((12 : Int) < (ds.length : Int)) with
        | true =>
          refine iteT ?_
          have := q H Kp.rfl'
          rw [e0, z1, z2] at this
          exact this
        | false =>
          refine iteF ?_
          -- return all(..)
          refine ⟨.ref ad, rfl, ad, xs, ds.map (lampB ds.length), [("many", .int ds.length)], rfl, .inl (SqT.of h), ht, fun y vy hy => ?_, ⟨by rw [List.length_map, r.len], fun hd env OK hsc j xv b hx hb => ?_⟩, fun H2 hT => ?_⟩
          · by_cases ey : y = "many"
            · subst ey
              have e2 : V.int ds.length = vy := by simpa [List.lookup] using hy
              subst e2
              exact ⟨by decide, by decide +kernel, by decide +kernel, 1, rfl, rfl, (by decide +kernel : (defScope s_is_net).names.lookup _ = some .cell)⟩
            · have ey' : (y == ("many" : Str)) = false := by simpa using ey
              simp [List.lookup, ey'] at hy
          · obtain ⟨dj, hdj, hxv⟩ := r.get hx
            rw [List.getElem?_map, hdj] at hb
            cases hb
            have OT : Tx (Qc.mk P w K mg (wipe H a.tb_is_net) hd).K (Qc.mk P w K mg (wipe H a.tb_is_net) hd).mg a := T
            have hw : Dx S (wipe H a.tb_is_net) xv dj := hxv.wiped ht
            refine q_call OK (qf_is_lamp_of_many OK OT hw) T.is_lamp_of_many.b rfl ?_ T.is_lamp_of_many.g T.is_lamp_of_many.F.kp (qa_cons (q_name rfl) (qa_cons (q_name rfl) qa_nil))
            show env.scope.names.lookup _ = _
            rw [hsc]
            decide +kernel
          · have := q H2 (Kp.tabbed ht hT)
            rw [e0, z1, z2] at this
            exact this
    | non => cases z
    | bl b => cases z
    | int i => cases z
    | str y => cases z
    | lst n h r => cases z
    | dic n h => cases z
end

/-! ### need_net, need_lamp of what is right -/
section
variable {P : Program} {w : World} {K : PySem.W.Frag} {mg : Str → Option Value} {base : Heap} {a : Ad}
def spNeedNet (TB : Addr) : Sp := fun vs H Q _ => ∃ (S : List Addr) (v : V) (N : Net), vs = [v] ∧ Dx S H v (netD N) ∧ NetOk N ∧ GxR.TabG H TB ∧ ∀ H', Kp [] H H' → Q .non H'
theorem ok_need_net (T : Tx K mg a) (TB : GxR.TabB base mg a.cd_is_net a.tb_is_net) : FnOk P w K mg base CX0 7 a.a_need_net a.f_need_net ["net"] (spNeedNet a.tb_is_net) := by
  have G_is_net := ok_is_net (P := P) (w := w) (base := base) T TB
  refine T.need_net.F.ok sc_need_net (fun vs H Q E h => ?_) (fun cdv A outer s H vs Q E hr h => ?_)
  · obtain ⟨S, v, N, rfl, _⟩ := h
    rfl
  obtain ⟨S, v, N, rfl, hd, ok, ht, q⟩ := h
  refine ⟨_, (pss_one (ps_if (pt_not (pt_val (pe_call G_is_net (hr.mono (by decide)) (by rfl) T.is_net.g T.is_net.F.kp T.is_net.b .nil pass0 (pa_cons (pv 0) pa_nil)))) (pss_one ps_never) pss_nil)), ?_⟩
  refine ⟨v, rfl, S, v, netD N, rfl, hd, ht, fun H' k => ⟨true, by rw [netB_of ok], ?_⟩⟩
  exact iteF (q H' k)
def spNeedLamp : Sp := fun vs H Q _ => ∃ (S : List Addr) (v : V) (N : Net) (x : Nat), vs = [v, .int x] ∧ Dx S H v (netD N) ∧ x < N.length ∧ Q .non H
theorem ok_need_lamp (T : Tx K mg a) : FnOk P w K mg base CX0 3 a.a_need_lamp a.f_need_lamp ["net", "lamp"] spNeedLamp := by
  have G_is_number_of_many : FnOk P w K mg base CX0 2 a.a_is_number_of_many a.f_is_number_of_many ["thing", "many"] (fun vs H Q _ => ∃ (x m : Nat), vs = [.int x, .int m] ∧ x < m ∧ Q (.bl true) H) := by
    refine fn_ofQ (fun vs H Q E h => ?_) fun vs H Q E h => ?_
    · obtain ⟨x, m, rfl, _⟩ := h
      rfl
    · obtain ⟨x, m, rfl, hx, q⟩ := h
      refine ⟨.bl true, q, fun hd OK => ?_⟩
      have OT : Tx (Qc.mk P w K mg H hd).K (Qc.mk P w K mg H hd).mg a := T
      have := qf_is_number_of_many (S := []) (m := m) OK OT (.int (x : Int))
      have e : numB m (.int (x : Int)) = true := by
        show (decide ((0 : Int) ≤ (x : Int)) && decide ((x : Int) < (m : Int))) = true
        rw [decide_eq_true (by omega), decide_eq_true (by omega)]
        rfl
      rw [e] at this
      exact fun A R args us s r => this A R args us s (r.mono (by decide))
  refine T.need_lamp.F.ok sc_need_lamp (fun vs H Q E h => ?_) (fun cdv A outer s H vs Q E hr h => ?_)
  · obtain ⟨S, v, N, x, rfl, _⟩ := h
    rfl
  obtain ⟨S, v, N, x, rfl, hd, hx, q⟩ := h
  refine ⟨_, (pss_one (ps_if (pt_not (pt_val (pe_call G_is_number_of_many (hr.mono (by decide)) (by rfl) T.is_number_of_many.g T.is_number_of_many.F.kp T.is_number_of_many.b .nil pass0 (pa_cons (pv 1) (pa_cons (pe_callB call_len_seq (by rfl) T.n_len (by decide +kernel) (pa_cons (pv 0) pa_nil)) pa_nil))))) (pss_one ps_never) pss_nil)), ?_⟩
  cases hd with
  | @tup ad xs ds n h r =>
    have e := r.len
    rw [List.length_map] at e
    refine ⟨.int x, rfl, .ref ad, rfl, ad, xs, rfl, .inr (SqT.of h), x, N.length, by rw [e]; rfl, hx, true, rfl, ?_⟩
    exact iteF q
end

/-! ### way_of -/
section
variable {P : Program} {w : World} {K : PySem.W.Frag} {mg : Str → Option Value} {base : Heap} {a : Ad}
def spWayOf (TB : Addr) : Sp := fun vs H Q _ => ∃ (S : List Addr) (v : V) (N : Net) (x : Nat), vs = [v, .int x] ∧ Dx S H v (netD N) ∧ NetOk N ∧ x < N.length ∧ GxR.TabG H TB ∧ ∀ v' H', Kp [] H H' → Nw H H' v' (wayD N x) → Q v' H'
theorem ok_way_of (T : Tx K mg a) (TB : GxR.TabB base mg a.cd_is_net a.tb_is_net) : FnOk P w K mg base CX0 8 a.a_way_of a.f_way_of ["net", "lamp"] (spWayOf a.tb_is_net) := by
  have G_need_net := ok_need_net (P := P) (w := w) (base := base) T TB
  have G_need_lamp := ok_need_lamp (P := P) (w := w) (base := base) T
  refine T.way_of.F.ok sc_way_of (fun vs H Q E h => ?_) (fun cdv A outer s H vs Q E hr h => ?_)
  · obtain ⟨S, v, N, x, rfl, _⟩ := h
    rfl
  obtain ⟨S, v, N, x, rfl, hd, ok, hx, ht, q⟩ := h
  refine ⟨_, (pss_cons (ps_expr (pe_call G_need_net (hr.mono (by decide)) (by rfl) T.need_net.g T.need_net.F.kp T.need_net.b .nil pass0 (pa_cons (pv 0) pa_nil)))
      (pss_cons (ps_expr (pe_call G_need_lamp (hr.mono (by decide)) (by rfl) T.need_lamp.g T.need_lamp.F.kp T.need_lamp.b .nil pass0 (pa_cons (pv 0) (pa_cons (pv 1) pa_nil))))
      (pss_cons (ps_set (i := 2) sc_way_of.nd rfl (by first | exact .inl rfl | exact .inr rfl) (pe_lst pa_nil))
      (pss_cons (ps_set (i := 3) sc_way_of.nd rfl (by first | exact .inl rfl | exact .inr rfl) (pv 1))
      (pss_cons (ps_while PassesOwn.never (PW.pt (pw_and (pt_cmpR op_notN (pv 3) pe_non (nomark _)) (pw_and1 (pt_cmpR op_notIn_seq (pv 3) (pv 2) (by rfl))))) (pss_cons (ps_expr (pe_bm PySem.F.plainAttrs_list PySem.F.slot_list_append PySem.F.type_list_append mt_append (pv 2) (pa_cons (pv 3) pa_nil)))
      (pss_one (ps_set (i := 3) sc_way_of.nd rfl (by first | exact .inl rfl | exact .inr rfl) (pe_ix ix_tup (pe_ix ix_tup (pv 0) (pv 3) (fun _ _ => rfl)) pe_int (fun _ _ => rfl))))))
      (pss_cons (ps_if (pt_cmpR op_isN (pv 3) pe_non (nomark _)) (pss_one (ps_ret (pe_tup (pa_cons (pe_callTy call_tuple_of (by rfl) T.n_tuple (by decide +kernel) (pa_cons (pv 2) pa_nil)) (pa_cons (pe_tup pa_nil) pa_nil))))) pss_nil)
      (pss_cons (ps_set (i := 4) sc_way_of.nd rfl (by first | exact .inl rfl | exact .inr rfl) (pe_bm PySem.F.plainAttrs_list PySem.F.slot_list_index PySem.F.type_list_index mt_index (pv 2) (pa_cons (pv 3) pa_nil)))
      (pss_one (ps_ret (pe_tup (pa_cons (pe_callTy call_tuple_of (by rfl) T.n_tuple (by decide +kernel) (pa_cons (pe_slice sl_list (pv 2) po_none (po_some (pv 4))) pa_nil)) (pa_cons (pe_callTy call_tuple_of (by rfl) T.n_tuple (by decide +kernel) (pa_cons (pe_slice sl_list (pv 2) (po_some (pv 4)) po_none) pa_nil)) pa_nil)))))))))))), ?_⟩
  -- need_net(net), need_lamp(net, lamp)
  refine ⟨v, rfl, S, v, N, rfl, hd, ok, ht, fun Ha ka => ?_⟩
  have hda : Dx S Ha v (netD N) := hd.kp ka fun _ z => by cases z
  refine ⟨v, rfl, .int x, rfl, S, v, N, x, rfl, hda, hx, ?_⟩
  -- gone = [], at = lamp
  refine ⟨Nat.zero_le _, fun gp ng => ⟨.int x, rfl, ?_⟩⟩
  have hdl : ∀ l, Dx S (upd Ha gp (.lst l)) v (netD N) := fun l => hda.kp (Kp.new (S := []) ng) fun _ z => by cases z
  obtain ⟨I, hI⟩ : ∃ I : Nat → L2.St → Hp → Prop, I = fun m σ H3 => ∃ (g : List Nat) (at_ : V), σ = [some v, some (.int x), some (.ref gp), some at_, none] ∧ H3 = upd Ha gp (.lst (natV g)) ∧ ((g = [] ∧ at_ = .int x) ∨ ∃ i, Gone N x i g ∧ at_ = nxV (nxt N (lastOf g))) ∧ m + g.length = N.length + 1 := ⟨_, rfl⟩
  refine ⟨I, ⟨N.length + 1, by rw [hI]; exact ⟨[], _, rfl, rfl, .inl ⟨rfl, rfl⟩, rfl⟩⟩, fun m σ H3 hW => ?_⟩
  rw [hI] at hW
  obtain ⟨g, at_, rfl, rfl, hg, hm⟩ := hW
  have hdg := hdl (natV g)
  have hgp : (upd Ha gp (.lst (natV g))) gp = some (.lst (natV g)) := upd_same
  have kg : Kp [] H (upd Ha gp (.lst (natV g))) := ka.tr (Kp.new ng)
  have trg : ∀ b, H b ≠ none → (upd Ha gp (.lst (natV g))) b ≠ none := kg.tr_
  have hlen : g.length ≤ N.length := by
    rcases hg with ⟨e, _⟩ | ⟨i, gi, _⟩
    · rw [e]; exact Nat.zero_le _
    · exact gi.le
  have h12 := ok.hi
  have zl : (natV g).length < sizeLine := by rw [natV_len]; exact Nat.lt_of_le_of_lt (Nat.le_trans hlen h12) (by decide)
  have two : (∃ y : Nat, at_ = .int y ∧ y < N.length ∧ ((g = [] ∧ y = x) ∨ ∃ i, Gone N x i g ∧ nxt N (lastOf g) = some y)) ∨ (at_ = .non ∧ ∃ i, Gone N x i g ∧ nxt N (lastOf g) = none) := by
    rcases hg with ⟨e, e2⟩ | ⟨i, gi, e2⟩
    · exact .inl ⟨x, e2, hx, .inl ⟨e, rfl⟩⟩
    · cases z : nxt N (lastOf g) with
      | none => rw [z] at e2; exact .inr ⟨e2, i, gi, rfl⟩
      | some y => rw [z] at e2; exact .inl ⟨y, e2, nxt_lt ok z, .inr ⟨i, gi, rfl⟩⟩
  rcases two with ⟨y, rfl, hy, hst⟩ | ⟨rfl, i, gi, hnx⟩
  · -- a lamp is come to
    refine ⟨.int y, rfl, rfl, _, rfl, iteT ?_⟩
    refine ⟨.int y, rfl, .ref gp, rfl, gp, natV g, rfl, .inl (SqL.of hgp), rfl, natV_flat g, _, rfl, ?_⟩
    show if (!inV (.int (y : Int)) (natV g)) = true then _ else _
    rw [inV_natV]
    by_cases hn : y ∈ g
    · -- it was come by: the loop is over
      rw [decide_eq_true hn]
      refine iteF ?_
      rcases hst with ⟨e, _⟩ | ⟨i, gi, hnx⟩
      · rw [e] at hn; cases hn
      have hpa : path N x = g := gi.done (step_in hnx hn)
      have hcut : cutAt N (path N x) = g.idxOf y := by rw [hpa]; unfold cutAt; rw [hnx]
      have hix : g.idxOf y < g.length := List.idxOf_lt_length_iff.mpr hn
      have hge : g[g.idxOf y]? = some y := by rw [List.getElem?_eq_getElem hix, List.getElem_idxOf hix]
      -- if at is None
      refine ⟨.int y, rfl, rfl, _, rfl, iteF ?_⟩
      -- first = gone.index(at)
      refine ⟨.ref gp, rfl, .inl ⟨rfl, _, SqL.of hgp⟩, .int y, rfl, gp, natV g, .int y, g.idxOf y, .int y, rfl, rfl, SqL.of hgp, rfl, natV_flat g, natV_get hge, by show ((y : Int) == (y : Int)) = true; simp, fun j z hj hz => ?_, ?_⟩
      · obtain ⟨u, hu, rfl⟩ : ∃ u, g[j]? = some u ∧ z = .int (u : Int) := by
          unfold natV at hz
          rw [List.getElem?_map] at hz
          cases q1 : g[j]? with
          | none => rw [q1] at hz; cases hz
          | some u => rw [q1] at hz; exact ⟨u, rfl, (Option.some.inj hz).symm⟩
        show ((u : Int) == (y : Int)) = false
        have hne : u ≠ y := idx_ne hj hu
        simp only [beq_eq_false_iff_ne]
        omega
      -- return (tuple(gone[:first]), tuple(gone[first:]))
      refine ⟨.ref gp, rfl, .int (g.idxOf y : Nat), rfl, _, rfl, gp, natV g, rfl, SqL.of hgp, fun p1 n1 => ?_⟩
      obtain ⟨H1, e1⟩ : ∃ H1, H1 = upd (upd Ha gp (.lst (natV g))) p1 (.lst (cutV (natV g) none (some (g.idxOf y : Nat)))) := ⟨_, rfl⟩
      rw [← e1]
      have k1 : Kp [] (upd Ha gp (.lst (natV g))) H1 := e1 ▸ Kp.new n1
      refine ⟨p1, _, rfl, .inl ⟨SqL.of (by rw [e1]; exact upd_same), fun t1 nt1 => ?_⟩⟩
      rw [natV_cut0 (Nat.le_of_lt hix)]
      obtain ⟨H2, e2⟩ : ∃ H2, H2 = upd H1 t1 (.tup (natV (g.take (g.idxOf y)))) := ⟨_, rfl⟩
      rw [← e2]
      have k2 : Kp [] H1 H2 := e2 ▸ Kp.new nt1
      have w1 : Nw H H2 (.ref t1) (natsD (g.take (g.idxOf y))) := by
        rw [e2]
        exact Nw.tup (kg.tr k1).tr_ nt1 (nwA_natV _)
      have hgp2 : H2 gp = some (.lst (natV g)) := (k1.tr k2).lst (by simp) hgp
      refine ⟨.ref gp, rfl, .int (g.idxOf y : Nat), rfl, _, rfl, gp, natV g, rfl, SqL.of hgp2, fun p2 n2 => ?_⟩
      obtain ⟨H3, e3⟩ : ∃ H3, H3 = upd H2 p2 (.lst (cutV (natV g) (some (g.idxOf y : Nat)) none)) := ⟨_, rfl⟩
      rw [← e3]
      have k3 : Kp [] H2 H3 := e3 ▸ Kp.new n2
      refine ⟨p2, _, rfl, .inl ⟨SqL.of (by rw [e3]; exact upd_same), fun t2 nt2 => ?_⟩⟩
      rw [natV_cut1 (Nat.le_of_lt hix)]
      obtain ⟨H4, e4⟩ : ∃ H4, H4 = upd H3 t2 (.tup (natV (g.drop (g.idxOf y)))) := ⟨_, rfl⟩
      rw [← e4]
      have k4 : Kp [] H3 H4 := e4 ▸ Kp.new nt2
      have kh4 : Kp [] H H4 := kg.tr (k1.tr (k2.tr (k3.tr k4)))
      have w2 : Nw H H4 (.ref t2) (natsD (g.drop (g.idxOf y))) := by
        rw [e4]
        exact Nw.tup (kg.tr (k1.tr (k2.tr k3))).tr_ nt2 (nwA_natV _)
      refine ⟨by show 2 ≤ sizeLine; decide, fun t3 n3 => q _ _ (kh4.tr (Kp.new n3)) ?_⟩
      have e5 : wayD N x = .tuple [natsD (g.take (g.idxOf y)), natsD (g.drop (g.idxOf y))] := by
        unfold wayD wayA wayR
        rw [hcut, hpa]
      rw [e5]
      exact Nw.tup kh4.tr_ n3 (.cons (w1.kp (k3.tr k4)) (.cons w2 .nil))
    · rw [decide_eq_false hn]
      refine iteT ⟨fun σ' H' => ∃ m', m' < m ∧ I m' σ' H', fun _ _ h => h, ?_⟩
      obtain ⟨p, hp⟩ : ∃ p, N[y]? = some p := ⟨N[y], List.getElem?_eq_getElem hy⟩
      -- gone.append(at)
      refine ⟨.ref gp, rfl, .inl ⟨rfl, _, SqL.of hgp⟩, .int y, rfl, gp, natV g, .int y, rfl, rfl, hgp, zl, ?_⟩
      rw [upd_upd]
      -- at = net[at][1]
      obtain ⟨ad, xs, rfl, _, h1, hl1, hat⟩ := net_at (hdl (natV g ++ [.int (y : Int)]))
      obtain ⟨la, hxl, _, h2⟩ := hat y p hp
      refine ⟨.ref ad, rfl, .int y, rfl, ad, xs, y, .ref la, rfl, rfl, SqT.of h1, atI_nat hxl, la, _, 1, nxV p.2, rfl, rfl, SqT.of h2, atI_nat (j := 1) rfl, ?_⟩
      rw [hI]
      have hyg : Gone N x (g.length) (g ++ [y]) := by
        rcases hst with ⟨e, e2⟩ | ⟨i, gi, hnx⟩
        · subst e; subst e2; exact Gone.start hx
        · have := gi.more ok hnx hn
          rwa [← gi.len] at this
      have hgl := hyg.le
      rw [List.length_append] at hgl
      refine ⟨m - 1, by simp at hgl; omega, g ++ [y], nxV p.2, rfl, by rw [natV_app], .inr ⟨_, hyg, by rw [last_app, nxt_get hp]⟩, ?_⟩
      rw [List.length_append]
      simp at hgl ⊢
      omega
  · -- the way is over
    refine ⟨.non, rfl, rfl, _, rfl, iteF ?_⟩
    refine ⟨.non, rfl, rfl, _, rfl, iteT ?_⟩
    have hpa : path N x = g := gi.done (step_none hnx)
    have hcut : cutAt N (path N x) = g.length := by rw [hpa]; unfold cutAt; rw [hnx]
    refine ⟨.ref gp, rfl, gp, natV g, rfl, .inl ⟨SqL.of hgp, fun t1 nt1 => ?_⟩⟩
    obtain ⟨H2, e2⟩ : ∃ H2, H2 = upd (upd Ha gp (.lst (natV g))) t1 (.tup (natV g)) := ⟨_, rfl⟩
    rw [← e2]
    have k2 : Kp [] (upd Ha gp (.lst (natV g))) H2 := e2 ▸ Kp.new nt1
    have w1 : Nw H H2 (.ref t1) (natsD g) := by
      rw [e2]
      exact Nw.tup kg.tr_ nt1 (nwA_natV _)
    refine ⟨Nat.zero_le _, fun t2 nt2 => ?_⟩
    obtain ⟨H4, e4⟩ : ∃ H4, H4 = upd H2 t2 (.tup []) := ⟨_, rfl⟩
    rw [← e4]
    have k4 : Kp [] H2 H4 := e4 ▸ Kp.new nt2
    have kh4 : Kp [] H H4 := kg.tr (k2.tr k4)
    have w2 : Nw H H4 (.ref t2) (natsD []) := by
      rw [e4]
      exact Nw.tup (kg.tr k2).tr_ nt2 .nil
    refine ⟨by show 2 ≤ sizeLine; decide, fun t3 n3 => q _ _ (kh4.tr (Kp.new n3)) ?_⟩
    have e5 : wayD N x = .tuple [natsD g, natsD []] := by
      unfold wayD wayA wayR
      rw [hcut, hpa, List.take_length, List.drop_length]
    rw [e5]
    exact Nw.tup kh4.tr_ n3 (.cons (w1.kp k4) (.cons w2 .nil))
end

/-! ### is_kindling_of_many: quiet; are_kindlings -/
section
variable {c : Qc} {a : Ad} {S : List Addr} {v u : V} {d e : PyData}
theorem sparkB_pair {m : Nat} (h : pairB d = false) : sparkB m d = false := by
  cases d with
  | tuple ds =>
    match ds, h with
    | [], _ => rfl
    | [_], _ => rfl
    | [_, _], h => cases h
    | _ :: _ :: _ :: _, _ => rfl
  | _ => rfl
theorem qf_is_kindling_of_many {m : Nat} (O : c.Ok) (T : Tx c.K c.mg a) (h : Dx S c.H v d) : QF c 3 a.a_is_kindling_of_many a.f_is_kindling_of_many ["thing", "many"] [v, .int m] (.bl (sparkB m d)) := by
  refine q_fun O T.is_kindling_of_many.F sc_is_kindling_of_many (by decide +kernel) rfl fun L cdv => ?_
  have hp : ∀ {N : Nm} {p1 p2 pos}, N.lookup ("thing" : Str) = some v → QE c 2 (envOfC "is_kindling_of_many" (defScope s_is_kindling_of_many) L a.a_is_kindling_of_many cdv) N (.Call (.Name "is_pair" p1) [.Name "thing" p2] [] pos) (.bl (pairB d)) := fun hN =>
    q_call O (fun A R args us s r => qf_is_pair O T h A R args us s (r.mono (by decide))) T.is_pair.b rfl rfl T.is_pair.g T.is_pair.F.kp (qa_cons (q_name hN) qa_nil)
  cases z : pairB d with
  | false =>
    rw [sparkB_pair z]
    refine qb_ifT (qt_not (t := false) (qt_val ?_)) (qb_ret q_bool)
    rw [← z]
    exact hp rfl
  | true =>
    refine qb_ifF (qt_not (t := true) (qt_val ?_)) ?_
    · rw [← z]
      exact hp rfl
    cases h with
    | @tup ad xs ds n h r =>
      have hl : (ds.length : Int) = 2 := by simpa [pairB] using z
      match ds, r with
      | [d1, d2], .cons (v := v1) r1 (.cons (v := v2) r2 .nil) =>
        refine qb_two (q_name rfl) (tupQ_of O h) rfl rfl (fun y hy => ?_) ?_
        · by_cases e1 : y = "thing"
          · rw [e1]; rfl
          · by_cases e2 : y = "many"
            · rw [e2]; rfl
            · have q1 : (y == ("thing" : Str)) = false := by simpa using e1
              have q2 : (y == ("many" : Str)) = false := by simpa using e2
              simp [List.zip, List.zipWith, List.lookup, q1, q2] at hy
        · have hw : ∀ {N : Nm} {p1 p2 pos}, N.lookup ("beat" : Str) = some v1 → QE c 2 (envOfC "is_kindling_of_many" (defScope s_is_kindling_of_many) L a.a_is_kindling_of_many cdv) N (.Call (.Name "is_whole" p1) [.Name "beat" p2] [] pos) (.bl (isW d1)) := fun hN =>
            q_call O (fun A R args us s r => qf_is_whole O T r1 A R args us s (r.mono (by decide))) T.is_whole.b rfl rfl T.is_whole.g T.is_whole.F.kp (qa_cons (q_name hN) qa_nil)
          cases y1 : isW d1 with
          | false =>
            have e3 : sparkB m (.tuple [d1, d2]) = false := by
              have : beatB d1 = false := by cases d1 <;> first | rfl | cases y1
              show (beatB d1 && _) = false
              rw [this]; rfl
            rw [e3]
            refine qb_ifT (qt_orT (qt_not (t := false) (qt_val ?_))) (qb_ret q_bool)
            rw [← y1]
            exact hw rfl
          | true =>
            cases r1 with
            | int i =>
              have h0 : ∀ {p1 p2 p3 p4}, QT c 2 (envOfC "is_kindling_of_many" (defScope s_is_kindling_of_many) L a.a_is_kindling_of_many cdv) (("lamp", v2) :: ("beat", .int i) :: [("thing", .ref ad), ("many", .int m)])
                  (.UnaryOp .Not (.Call (.Name "is_whole" p1) [.Name "beat" p2] [] p3) p4) false := by
                refine qt_not (t := true) (qt_val ?_)
                exact hw rfl
              have e4 : sparkB m (.tuple [.int i, d2]) = (!decide (i < 0) && numB m d2) := rfl
              cases y2 : decide (i < 0) with
              | true =>
                rw [e4, y2]
                exact qb_ifT (qt_or2 h0 (y2 ▸ qt_cmp qo_lt (q_name rfl) q_int rfl)) (qb_ret q_bool)
              | false =>
                rw [e4, y2]
                refine qb_ifF (qt_or2 h0 (y2 ▸ qt_cmp qo_lt (q_name rfl) q_int rfl)) ?_
                have e5 : (!false && numB m d2) = numB m d2 := rfl
                rw [e5]
                exact qb_ret (q_call O (fun A R args us s r => qf_is_number_of_many O T r2 A R args us s (r.mono (by decide))) T.is_number_of_many.b rfl rfl T.is_number_of_many.g T.is_number_of_many.F.kp (qa_cons (q_name rfl) (qa_cons (q_name rfl) qa_nil)))
            | non => cases y1
            | bl b => cases y1
            | tup n h r => cases y1
            | str y => cases y1
            | lst n h r => cases y1
            | dic n h => cases y1
    | non => cases z
    | bl b => cases z
    | int i => cases z
    | str y => cases z
    | lst n h r => cases z
    | dic n h => cases z
end

/-! ### of a kindling that is the only one -/
section
variable {P : Program} {w : World} {K : PySem.W.Frag} {mg : Str → Option Value} {base : Heap} {a : Ad}
def sparkD (b : Int) (x : Nat) : PyData := .tuple [.int b, .int x]
theorem spark_at {H : Hp} {v : V} {b : Int} {x : Nat} (h : Tu H v (sparkD b x)) : ∃ q : Addr, v = .ref q ∧ H q = some (.tup [.int b, .int x]) := by
  cases h with
  | @tup q xs ds h t =>
    cases t with
    | cons t1 t =>
      cases t1
      cases t with
      | cons t2 t =>
        cases t
        cases t2
        exact ⟨q, rfl, h⟩
theorem spark_ok {m x : Nat} {b : Int} (h0 : 0 ≤ b) (hx : x < m) : sparkB m (sparkD b x) = true := by
  show (!decide (b < 0) && (decide ((0 : Int) ≤ (x : Int)) && decide ((x : Int) < (m : Int)))) = true
  rw [decide_eq_false (by omega), decide_eq_true (by omega), decide_eq_true (by omega)]
  rfl
def spNeedK (TB : Addr) : Sp := fun vs H Q _ => ∃ (v u : V) (N : Net) (b : Int) (x : Nat), vs = [v, u] ∧ Tu H v (netD N) ∧ NetOk N ∧ Tu H u (sparkD b x) ∧ 0 ≤ b ∧ x < N.length ∧ GxR.TabG H TB ∧ ∀ H', Kp [] H H' → Q .non H'
theorem ok_need_kindling (T : Tx K mg a) (TB : GxR.TabB base mg a.cd_is_net a.tb_is_net) : FnOk P w K mg base CX0 8 a.a_need_kindling a.f_need_kindling ["net", "kindling"] (spNeedK a.tb_is_net) := by
  have G_need_net := ok_need_net (P := P) (w := w) (base := base) T TB
  have G_is_kindling_of_many : FnOk P w K mg base CX0 3 a.a_is_kindling_of_many a.f_is_kindling_of_many ["thing", "many"] (fun vs H Q _ => ∃ (v : V) (b : Int) (x m : Nat), vs = [v, .int m] ∧ Tu H v (sparkD b x) ∧ 0 ≤ b ∧ x < m ∧ Q (.bl true) H) := by
    refine fn_ofQ (fun vs H Q E h => ?_) fun vs H Q E h => ?_
    · obtain ⟨v, b, x, m, rfl, _⟩ := h
      rfl
    · obtain ⟨v, b, x, m, rfl, ht, h0, hx, q⟩ := h
      refine ⟨.bl true, q, fun hd OK => ?_⟩
      have OT : Tx (Qc.mk P w K mg H hd).K (Qc.mk P w K mg H hd).mg a := T
      have := qf_is_kindling_of_many (S := []) (m := m) OK OT ht.dx0
      rw [spark_ok h0 hx] at this
      exact fun A R args us s r => this A R args us s (r.mono (by decide))
  refine T.need_kindling.F.ok sc_need_kindling (fun vs H Q E h => ?_) (fun cdv A outer s H vs Q E hr h => ?_)
  · obtain ⟨v, u, N, b, x, rfl, _⟩ := h
    rfl
  obtain ⟨v, u, N, b, x, rfl, hd, ok, hu, h0, hx, ht, q⟩ := h
  refine ⟨_, (pss_cons (ps_expr (pe_call G_need_net (hr.mono (by decide)) (by rfl) T.need_net.g T.need_net.F.kp T.need_net.b .nil pass0 (pa_cons (pv 0) pa_nil)))
      (pss_one (ps_if (pt_not (pt_val (pe_call G_is_kindling_of_many (hr.mono (by decide)) (by rfl) T.is_kindling_of_many.g T.is_kindling_of_many.F.kp T.is_kindling_of_many.b .nil pass0 (pa_cons (pv 1) (pa_cons (pe_callB call_len_seq (by rfl) T.n_len (by decide +kernel) (pa_cons (pv 0) pa_nil)) pa_nil))))) (pss_one ps_never) pss_nil))), ?_⟩
  refine ⟨v, rfl, [], v, N, rfl, hd.dx0, ok, ht, fun H1 k1 => ?_⟩
  obtain ⟨ad, xs, rfl, hx1, hl1, _⟩ := tnet_at (hd.kt k1.kt0)
  refine ⟨u, rfl, .ref ad, rfl, ad, xs, rfl, .inr (SqT.of hx1), u, b, x, N.length, by rw [hl1]; rfl, hu.kt k1.kt0, h0, hx, true, rfl, ?_⟩
  exact iteF (q H1 k1)
/-- the lights told -/
def spLights (TB TB2 : Addr) : Sp := fun vs H Q _ => ∃ (v u : V) (N : Net) (b : Int) (x : Nat), vs = [v, u] ∧ Tu H v (netD N) ∧ NetOk N ∧ Tu H u (sparkD b x) ∧ x < N.length ∧ GxR.TabG H TB ∧ GxR.TabG H TB2 ∧
  ∀ d r H', H d = none → H' d = some (.dK r) → LtA H' r (lightsL N b x) → Kp [] H H' → Q (.ref d) H'
theorem ok_lights_of (T : Tx K mg a) (TB : GxR.TabB base mg a.cd_is_net a.tb_is_net) (TB2 : GxR.TabB base mg a.cd_lights_of a.tb_lights_of) : FnOk P w K mg base CX0 11 a.a_lights_of a.f_lights_of ["net", "kindling"] (spLights a.tb_is_net a.tb_lights_of) := by
  have G_way_of := ok_way_of (P := P) (w := w) (base := base) T TB
  refine okC T.lights_of.F T.code_lights_of sc_lights_of (fun vs H Q E h => ?_) (fun A outer s H vs Q E hr h => ?_)
  · obtain ⟨v, u, N, b, x, rfl, _⟩ := h
    rfl
  obtain ⟨v, u, N, b, x, rfl, hn, ok, hu0, hx, ht, ht2, q⟩ := h
  have hu := hu_of hr
  obtain ⟨kq, rfl, hkq⟩ := spark_at hu0
  refine ⟨_, (pss_cons (ps_asg (pv 1) (pg_tup (by rfl) (pgs_cons (pg_name (i := 2) sc_lights_of.nd rfl (by first | exact .inl rfl | exact .inr rfl)) (pgs_cons (pg_name (i := 3) sc_lights_of.nd rfl (by first | exact .inl rfl | exact .inr rfl)) pgs_nil))))
      (pss_cons (ps_asg (pe_call G_way_of (hr.mono (by decide)) (by rfl) T.way_of.g T.way_of.F.kp T.way_of.b .nil pass0 (pa_cons (pv 0) (pa_cons (pv 3) pa_nil))) (pg_tup (by rfl) (pgs_cons (pg_name (i := 4) sc_lights_of.nd rfl (by first | exact .inl rfl | exact .inr rfl)) (pgs_cons (pg_name (i := 5) sc_lights_of.nd rfl (by first | exact .inl rfl | exact .inr rfl)) pgs_nil))))
      (pss_cons (ps_set (i := 6) sc_lights_of.nd rfl (by first | exact .inl rfl | exact .inr rfl) (pe_sumQ (k := 1) (hr.mono (by decide)) (by rfl) T.n_sum TB2 rfl ⟨rfl, rfl, by decide +kernel, by decide +kernel, by decide +kernel, free_by (by decide +kernel)⟩ (pv 5) (fun _ => rfl)))
      (pss_cons (ps_set (i := 7) sc_lights_of.nd rfl (by first | exact .inl rfl | exact .inr rfl) pe_dnewK)
      (pss_cons (ps_for PassesOwn.never rfl (pi_tup (pv 4)) (pg_name (i := 8) sc_lights_of.nd rfl (by first | exact .inl rfl | exact .inr rfl)) (pss_cons (ps_dput hu (pv 7) (pv 8) (pe_tup (pa_cons (pv 2) (pa_cons pe_non pa_nil))) rfl)
      (pss_one (ps_aug (i := 2) sc_lights_of.nd rfl (by first | exact .inl rfl | exact .inr rfl) (pe_ix ix_tup (pe_ix ix_tup (pv 0) (pv 8) (fun _ _ => rfl)) pe_int (fun _ _ => rfl)) ip_add))))
      (pss_cons (ps_for PassesOwn.never rfl (pi_tup (pv 5)) (pg_name (i := 8) sc_lights_of.nd rfl (by first | exact .inl rfl | exact .inr rfl)) (pss_cons (ps_dput hu (pv 7) (pv 8) (pe_tup (pa_cons (pv 2) (pa_cons (pv 6) pa_nil))) rfl)
      (pss_one (ps_aug (i := 2) sc_lights_of.nd rfl (by first | exact .inl rfl | exact .inr rfl) (pe_ix ix_tup (pe_ix ix_tup (pv 0) (pv 8) (fun _ _ => rfl)) pe_int (fun _ _ => rfl)) ip_add))))
      (pss_one (ps_ret (pv 7))))))))), ?_⟩
  -- beat, lamp = kindling
  refine ⟨.ref kq, rfl, kq, _, rfl, SqT.of hkq, rfl, _, _, rfl, _, _, rfl, rfl, ?_⟩
  -- ahead, ring = way_of(net, lamp)
  refine ⟨v, rfl, .int x, rfl, [], v, N, x, rfl, hn.dx0, ok, hx, ht, fun v1 H1 k1 nw => ?_⟩
  obtain ⟨wa, pa, pr, rfl, _, hwa, hpa, hpr, _, _⟩ := way_at (nw [] fun s z => by cases z)
  refine ⟨wa, _, rfl, SqT.of hwa, rfl, _, _, rfl, _, _, rfl, rfl, ?_⟩
  have hn1 := hn.kt k1.kt0
  have ht1 := k1.tab _ ht
  have ht21 := k1.tab _ ht2
  obtain ⟨ad, xs, rfl, hx1, hl1, hat⟩ := tnet_at hn1
  -- lap = sum(..)
  refine ⟨.ref pr, rfl, pr, natV (wayR N x), ((wayR N x).map (burnOf N)).map V.int, [("net", .ref ad)], rfl, .inl (SqT.of hpr), ht21, fun y vy hy => ?_, ⟨by rw [List.length_map, List.length_map, natV_len], fun hd env OK hsc j xv bv hxj hbj => ?_⟩, (wayR N x).map (burnOf N), rfl, fun H2 hT => ?_⟩
  · by_cases ey : y = "net"
    · subst ey
      have e2 : V.ref ad = vy := by simpa [List.lookup] using hy
      subst e2
      exact ⟨by decide, by decide +kernel, by decide +kernel, 0, rfl, rfl, (by decide +kernel : (defScope s_lights_of).names.lookup _ = some .cell)⟩
    · have ey' : (y == ("net" : Str)) = false := by simpa using ey
      simp [List.lookup, ey'] at hy
  · obtain ⟨yy, hyy, rfl⟩ : ∃ f : Nat, (wayR N x)[j]? = some f ∧ xv = .int (f : Int) := by
      unfold natV at hxj
      rw [List.getElem?_map] at hxj
      cases q1 : (wayR N x)[j]? with
      | none => rw [q1] at hxj; cases hxj
      | some u => rw [q1] at hxj; exact ⟨u, rfl, (Option.some.inj hxj).symm⟩
    rw [List.getElem?_map, List.getElem?_map, hyy] at hbj
    obtain rfl : V.int (burnOf N yy) = bv := Option.some.inj hbj
    have hyl := way_sub ok hx yy (List.mem_of_getElem? hyy)
    obtain ⟨la, hxl, hla⟩ := hat yy _ (List.getElem?_eq_getElem hyl)
    have w1 : wipe H1 a.tb_lights_of ad = some (.tup xs) := wiped_tup ht21 hx1
    have w2 : wipe H1 a.tb_lights_of la = some (.tup [V.int (N[yy]'hyl).1, nxV (N[yy]'hyl).2]) := wiped_tup ht21 hla
    refine q_ixT (j := 0) (q_ixT (j := yy) (q_name rfl) (q_name rfl) (tupQ_of OK w1) hxl) q_int (tupQ_of OK w2) ?_
    rw [burnOf_get (List.getElem?_eq_getElem hyl)]
    rfl
  obtain ⟨lap, elap⟩ : ∃ lap, lap = lapOf N x := ⟨_, rfl⟩
  have es : ((wayR N x).map (burnOf N)).sum = lap := elap.symm
  rw [es]
  have k2 : Kp [] H1 H2 := Kp.tabbed ht21 hT
  have hx2 := k2.kt0 _ _ hx1
  have hpa2 := k2.kt0 _ _ hpa
  have hpr2 := k2.kt0 _ _ hpr
  have hat2 : ∀ (i : Nat) (p : Int × Option Nat), N[i]? = some p → ∃ l, xs[i]? = some (V.ref l) ∧ H2 l = some (.tup [V.int p.1, nxV p.2]) := fun i p hp => let ⟨l, h1, h2⟩ := hat i p hp; ⟨l, h1, k2.kt0 _ _ h2⟩
  clear hat hx1 hpa hpr hn1
  have hpl := path_been ok hx
  have hcat := way_cat N x
  have hnd : (wayA N x ++ wayR N x).Nodup := by rw [hcat]; exact hpl.nd
  have hltA : ∀ y ∈ wayA N x ++ wayR N x, y < N.length := fun y hy => hpl.lt y (by rw [← hcat]; exact hy)
  have hle : (wayA N x).length + (wayR N x).length ≤ 12 := by
    have h1 := hpl.le
    have h2 := ok.hi
    rw [← hcat, List.length_append] at h1
    omega
  -- lights = {}
  refine fun d nd => ?_
  have k3 : Kp [] H2 (upd H2 d (.dK [])) := Kp.new nd
  -- one row of the lights
  have step : ∀ (A R : List Nat) (lp : Option Int) (lv : V) (b0 : Int) (y : Nat) (H3 : Hp) (r : List (Key × V)) (L0 : List Lgt) (QQ : Int → Hp → Prop), H3 d = some (.dK r) → LtA H3 r (L0 ++ lts N lp b0 A) → (y ∉ (L0 ++ lts N lp b0 A).map (·.1)) → L0.length + A.length < 12 → Kp [] H2 H3 → Tu H3 lv (match lp with | none => .none | some l => .int l) → y < N.length →
      (∀ r' H4, H4 d = some (.dK r') → LtA H4 r' (L0 ++ lts N lp b0 (A ++ [y])) → Kp [] H2 H4 → QQ (b0 + sumB N (A ++ [y])) H4) →
      ∀ t, H3 t = none → ∃ (Hx : Hp), DPut (upd H3 t (.tup [.int (b0 + sumB N A), lv])) d (.int y) (.ref t) Hx ∧ ∃ (la : Addr), xs[y]? = some (V.ref la) ∧ Hx ad = some (.tup xs) ∧ (∃ ov, Hx la = some (.tup [V.int (burnOf N y), ov])) ∧ QQ (b0 + sumB N A + burnOf N y) Hx := by
    intro A R lp lv b0 y H3 r L0 QQ hd3 hl3 hny hlen k23 hlv hyl fin t nt
    have k34 : Kp [] H3 (upd H3 t (.tup [.int (b0 + sumB N A), lv])) := Kp.new nt
    have hd4 : upd H3 t (.tup [.int (b0 + sumB N A), lv]) d = some (.dK r) := by rw [upd_ne (ne_of_none hd3 nt)]; exact hd3
    have hl4 := hl3.kt k34.kt0
    have hrl : r.length < 12 := by
      rw [hl3.len, List.length_append, lts_len]; exact hlen
    have hv : valV r (Sum.inl (y : Int) : Key) = none := by
      rcases hl4.val (y := y) with ⟨_, e⟩ | ⟨w, v, e, _⟩
      · exact e
      · rw [look_none hny] at e; cases e
    have htv : Tu (upd H3 t (.tup [.int (b0 + sumB N A), lv])) (.ref t) (lgtD (b0 + sumB N A, lp)) := .tup upd_same (.cons (.int _) (.cons (hlv.kt k34.kt0) .nil))
    obtain ⟨H5, e5⟩ : ∃ H5, H5 = upd (upd H3 t (.tup [.int (b0 + sumB N A), lv])) d (.dK (r ++ [((Sum.inl (y : Int) : Key), .ref t)])) := ⟨_, rfl⟩
    have k45 : Kt (upd H3 t (.tup [.int (b0 + sumB N A), lv])) H5 := by
      rw [e5]; exact Kt.put hd4 fun _ z => by cases z
    have k25 : Kp [] H2 H5 := by
      refine Kp.drop nd ?_
      rw [e5]
      exact (k23.tr k34).of0.tr (Kp.put (by simp) hd4 fun _ z => by cases z)
    obtain ⟨la, hxl, hla⟩ := hat2 y _ (List.getElem?_eq_getElem hyl)
    refine ⟨H5, ?_, la, hxl, k25.kt0 _ _ hx2, ⟨nxV (N[y]'hyl).2, ?_⟩, ?_⟩
    · rw [e5, ← putK_new (V.ref t) hv]
      exact DPut.k (k := Sum.inl (y : Int)) hd4 (Nat.lt_of_lt_of_le hrl (by decide))
    · rw [burnOf_get (List.getElem?_eq_getElem hyl)]
      exact k25.kt0 _ _ hla
    · have e6 : b0 + sumB N A + burnOf N y = b0 + sumB N (A ++ [y]) := by rw [sumB_app, sumB_one]; omega
      rw [e6]
      refine fin _ H5 (by rw [e5]; exact upd_same) ?_ k25
      rw [lts_snoc, ← List.append_assoc]
      exact (hl4.kt k45).snoc (htv.kt k45)
  -- for at in ahead
  refine ⟨.ref pa, rfl, pa, rfl, ⟨_, SqT.of (k3.kt0 _ _ hpa2)⟩, for_tup (xs := natV (wayA N x)) (fun i σ H' => ∃ (o8 : Option V) (r : List (Key × V)), σ = [some (.ref ad), some (.ref kq), some (.int (b + sumB N ((wayA N x).take i))), some (.int x), some (.ref pa), some (.ref pr), some (.int lap), some (.ref d), o8] ∧
      H' d = some (.dK r) ∧ LtA H' r ([] ++ lts N none b ((wayA N x).take i)) ∧ Kp [] H2 H') ⟨none, [], by rw [List.take_zero, sumB_nil, Int.add_zero]; rfl, upd_same, .nil, k3⟩ (fun i σ H' _ hP => ?_) (fun i z σ H3 hz hP => ?_) (fun σ H3 hP => ?_)⟩
  · obtain ⟨_, _, _, _, _, k⟩ := hP
    exact SqT.of (k.kt0 _ _ hpa2)
  · obtain ⟨o8, r, rfl, hd3, hl3, k23⟩ := hP
    obtain ⟨y, hy, rfl⟩ : ∃ f : Nat, (wayA N x)[i]? = some f ∧ z = .int (f : Int) := by
      unfold natV at hz
      rw [List.getElem?_map] at hz
      cases q1 : (wayA N x)[i]? with
      | none => rw [q1] at hz; cases hz
      | some u => rw [q1] at hz; exact ⟨u, rfl, (Option.some.inj hz).symm⟩
    have hi := (List.getElem?_eq_some_iff.mp hy).1
    have etk : (wayA N x).take (i + 1) = (wayA N x).take i ++ [y] := by rw [List.take_add_one, hy]; rfl
    refine ⟨.int _, rfl, by show 2 ≤ sizeLine; decide, fun t nt => ?_⟩
    obtain ⟨H5, hput, la, hxl, hx5, ⟨ov, hla⟩, hfin⟩ := step ((wayA N x).take i) [] none .non b y H3 r [] (fun n H' => ∃ (r : List (Key × V)), n = b + sumB N ((wayA N x).take (i + 1)) ∧ H' d = some (.dK r) ∧ LtA H' r ([] ++ lts N none b ((wayA N x).take (i + 1))) ∧ Kp [] H2 H') hd3 hl3 (by
      rw [List.nil_append, lts_fst]
      intro hm
      have := (List.nodup_append.mp hnd).1
      exact nd_take this hy hm) (by rw [List.length_take]; simp; omega) k23 .non (hltA y (List.mem_append_left _ (List.mem_of_getElem? hy))) (fun r' H4 a1 a2 a3 => ⟨r', by rw [etk], a1, by rw [etk]; exact a2, a3⟩) t nt
    refine ⟨.ref d, rfl, .int y, rfl, d, H5, rfl, hput, ?_⟩
    refine ⟨_, rfl, .ref ad, rfl, .int y, rfl, ad, xs, y, .ref la, rfl, rfl, SqT.of hx5, atI_nat hxl, la, _, 0, .int (burnOf N y), rfl, rfl, SqT.of hla, atI_nat (j := 0) rfl, _, _, rfl, rfl, ?_⟩
    obtain ⟨r', en, a1, a2, a3⟩ := hfin
    refine ⟨some (.int y), r', ?_, a1, a2, a3⟩
    rw [← en]
    rfl
  obtain ⟨o8, r, rfl, hd3, hl3, k23⟩ := hP
  rw [natV_len, List.take_length] at hl3 ⊢
  -- for at in ring
  refine ⟨.ref pr, rfl, pr, rfl, ⟨_, SqT.of (k23.kt0 _ _ hpr2)⟩, for_tup (xs := natV (wayR N x)) (fun i σ H' => ∃ (o8 : Option V) (r : List (Key × V)), σ = [some (.ref ad), some (.ref kq), some (.int (b + sumB N (wayA N x) + sumB N ((wayR N x).take i))), some (.int x), some (.ref pa), some (.ref pr), some (.int lap), some (.ref d), o8] ∧
      H' d = some (.dK r) ∧ LtA H' r (lts N none b (wayA N x) ++ lts N (some lap) (b + sumB N (wayA N x)) ((wayR N x).take i)) ∧ Kp [] H2 H') ⟨o8, r, by rw [List.take_zero, sumB_nil, Int.add_zero], hd3, by rw [List.take_zero, lts, List.append_nil]; exact hl3, k23⟩ (fun i σ H' _ hP => ?_) (fun i z σ H3 hz hP => ?_) (fun σ H3 hP => ?_)⟩
  · obtain ⟨_, _, _, _, _, k⟩ := hP
    exact SqT.of (k.kt0 _ _ hpr2)
  · obtain ⟨o8, r, rfl, hd3, hl3, k23⟩ := hP
    obtain ⟨y, hy, rfl⟩ : ∃ f : Nat, (wayR N x)[i]? = some f ∧ z = .int (f : Int) := by
      unfold natV at hz
      rw [List.getElem?_map] at hz
      cases q1 : (wayR N x)[i]? with
      | none => rw [q1] at hz; cases hz
      | some u => rw [q1] at hz; exact ⟨u, rfl, (Option.some.inj hz).symm⟩
    have hi := (List.getElem?_eq_some_iff.mp hy).1
    have etk : (wayR N x).take (i + 1) = (wayR N x).take i ++ [y] := by rw [List.take_add_one, hy]; rfl
    refine ⟨.int _, rfl, .int lap, rfl, by show 2 ≤ sizeLine; decide, fun t nt => ?_⟩
    obtain ⟨H5, hput, la, hxl, hx5, ⟨ov, hla⟩, hfin⟩ := step ((wayR N x).take i) [] (some lap) (.int lap) (b + sumB N (wayA N x)) y H3 r (lts N none b (wayA N x)) (fun n H' => ∃ (r : List (Key × V)), n = b + sumB N (wayA N x) + sumB N ((wayR N x).take (i + 1)) ∧ H' d = some (.dK r) ∧ LtA H' r (lts N none b (wayA N x) ++ lts N (some lap) (b + sumB N (wayA N x)) ((wayR N x).take (i + 1))) ∧ Kp [] H2 H') hd3 hl3 (by
      rw [List.map_append, lts_fst, lts_fst]
      intro hm
      obtain ⟨_, n2, n3⟩ := List.nodup_append.mp hnd
      rcases List.mem_append.mp hm with hm | hm
      · exact n3 y hm y (List.mem_of_getElem? hy) rfl
      · exact nd_take n2 hy hm) (by rw [lts_len, List.length_take]; omega) k23 (.int _) (hltA y (List.mem_append_right _ (List.mem_of_getElem? hy))) (fun r' H4 a1 a2 a3 => ⟨r', by rw [etk], a1, by rw [etk]; exact a2, a3⟩) t nt
    refine ⟨.ref d, rfl, .int y, rfl, d, H5, rfl, hput, ?_⟩
    refine ⟨_, rfl, .ref ad, rfl, .int y, rfl, ad, xs, y, .ref la, rfl, rfl, SqT.of hx5, atI_nat hxl, la, _, 0, .int (burnOf N y), rfl, rfl, SqT.of hla, atI_nat (j := 0) rfl, _, _, rfl, rfl, ?_⟩
    obtain ⟨r', en, a1, a2, a3⟩ := hfin
    refine ⟨some (.int y), r', ?_, a1, a2, a3⟩
    rw [← en]
    rfl
  · obtain ⟨o8, r, rfl, hd3, hl3, k23⟩ := hP
    rw [natV_len, List.take_length, elap] at hl3
    have k02 : Kp [] H H3 := k1.tr (k2.tr k23)
    refine ⟨.ref d, rfl, q d r H3 ?_ hd3 hl3 k02⟩
    cases z : H d with
    | none => rfl
    | some o => exact absurd nd ((k1.tr k2).tr_ d (by rw [z]; exact fun y => by cases y))
end
section
def placeD : Option (Nat × Int) → PyData
  | none => .none
  | some z => .tuple [.int z.1, .int z.2]
def lightD : Option (Int × Option Int) → PyData
  | none => .none
  | some w => lgtD w
theorem lights_ok {N : Net} (o : NetOk N) {x : Nat} (hx : x < N.length) (b : Int) : ∀ z ∈ lightsL N b x, z.1 < N.length ∧ ∀ l, z.2.2 = some l → 0 < l := by
  intro z hz
  obtain ⟨j, hj, e⟩ := List.getElem_of_mem hz
  have hl : (lightsL N b x).length = (path N x).length := by rw [← lights_fst N b x, List.length_map]
  have hyj : (path N x)[j]? = some ((path N x)[j]'(by omega)) := List.getElem?_eq_getElem _
  have hz2 := lights_get o hx b hyj
  rw [List.getElem?_eq_getElem hj, e] at hz2
  have hz3 := Option.some.inj hz2
  rw [hz3]
  refine ⟨(path_been o hx).lt _ (List.getElem_mem _), fun l el => ?_⟩
  have el2 : (if j < cutN N x then none else some (lapOf N x)) = some l := el
  by_cases hjc : j < cutN N x
  · rw [if_pos hjc] at el2; cases el2
  · rw [if_neg hjc] at el2
    obtain rfl := Option.some.inj el2
    have lp := lap_frst o hx b
    have g := frst_gap o hx b hyj (show j < (path N x).length by omega)
    have hm := sum_mono o (path_been o hx).lt (show cutN N x ≤ j by omega)
    have bp := burn_pos o ((path_been o hx).lt _ (List.getElem_mem (l := path N x) (n := j) (by omega)))
    unfold frst at lp g
    omega
end

section
variable {P : Program} {w : World} {K : PySem.W.Frag} {mg : Str → Option Value} {base : Heap} {a : Ad}
def spNeedBeat : Sp := fun vs H Q _ => ∃ (b : Int), vs = [.int b] ∧ 0 ≤ b ∧ Q .non H
theorem ok_need_beat (T : Tx K mg a) : FnOk P w K mg base CX0 2 a.a_need_beat a.f_need_beat ["beat"] spNeedBeat := by
  have G_is_whole : FnOk P w K mg base CX0 1 a.a_is_whole a.f_is_whole ["thing"] (fun vs H Q _ => ∃ b : Int, vs = [.int b] ∧ Q (.bl true) H) := by
    refine fn_ofQ (fun vs H Q E h => ?_) fun vs H Q E h => ?_
    · obtain ⟨b, rfl, _⟩ := h
      rfl
    · obtain ⟨b, rfl, q⟩ := h
      refine ⟨.bl true, q, fun hd OK => ?_⟩
      have OT : Tx (Qc.mk P w K mg H hd).K (Qc.mk P w K mg H hd).mg a := T
      have := qf_is_whole (S := []) OK OT (.int b)
      exact fun A R args us s r => this A R args us s (r.mono (by decide))
  refine T.need_beat.F.ok sc_need_beat (fun vs H Q E h => ?_) (fun cdv A outer s H vs Q E hr h => ?_)
  · obtain ⟨b, rfl, _⟩ := h
    rfl
  obtain ⟨b, rfl, h0, q⟩ := h
  refine ⟨_, (pss_one (ps_if (PW.pt (pw_or (pt_not (pt_val (pe_call G_is_whole (hr.mono (by decide)) (by rfl) T.is_whole.g T.is_whole.F.kp T.is_whole.b .nil pass0 (pa_cons (pv 0) pa_nil)))) (pw_or1 (pt_cmpR op_lt (pv 0) pe_int (nomark _))))) (pss_one ps_never) pss_nil)), ?_⟩
  refine ⟨.int b, rfl, b, rfl, true, rfl, iteF ⟨.int b, rfl, _, _, rfl, rfl, _, rfl, ?_⟩⟩
  rw [decide_eq_false (show ¬ b < 0 by omega)]
  exact iteF q
def spByL : Sp := fun vs H Q _ => ∃ (v : V) (d : Addr) (t : Int) (N : Net) (r : List (Key × V)) (L : List Lgt), vs = [v, .ref d, .int t] ∧ Tu H v (netD N) ∧ H d = some (.dK r) ∧ LtA H r L ∧ (∀ z ∈ L, z.1 < N.length ∧ ∀ l, z.2.2 = some l → 0 < l) ∧
  ∀ v' H', Tu H' v' (placeD (placeL N t L)) → Kp [d] H H' → Q v' H'
theorem ok_place_by_lights (T : Tx K mg a) : FnOk P w K mg base CX0 1 a.a_place_by_lights a.f_place_by_lights ["net", "lights", "beat"] spByL := by
  refine T.place_by_lights.F.ok sc_place_by_lights (fun vs H Q E h => ?_) (fun cdv A outer s H vs Q E hr h => ?_)
  · obtain ⟨v, d, t, N, r, L, rfl, _⟩ := h
    rfl
  obtain ⟨v, d, t, N, r, L, rfl, hn, hd, hl, hL, q⟩ := h
  refine ⟨_, (pss_cons (ps_lock (ps_for PassesOwn.never rfl (pi_items (pv 1)) (pg_tup (by rfl) (pgs_cons (pg_name (i := 3) sc_place_by_lights.nd rfl (by first | exact .inl rfl | exact .inr rfl)) (pgs_cons (pg_tup (by rfl) (pgs_cons (pg_name (i := 4) sc_place_by_lights.nd rfl (by first | exact .inl rfl | exact .inr rfl)) (pgs_cons (pg_name (i := 5) sc_place_by_lights.nd rfl (by first | exact .inl rfl | exact .inr rfl)) pgs_nil))) pgs_nil))) (pss_cons (ps_set (i := 6) sc_place_by_lights.nd rfl (by first | exact .inl rfl | exact .inr rfl) (pe_op op_sub (pv 2) (pv 4)))
      (pss_cons (ps_if (PW.pt (pw_and (pt_cmpR op_notN (pv 5) pe_non (nomark _)) (pw_and1 (pt_cmpR op_ge (pv 6) pe_int (nomark _))))) (pss_one (ps_set (i := 6) sc_place_by_lights.nd rfl (by first | exact .inl rfl | exact .inr rfl) (pe_op op_mod (pv 6) (pv 5)))) pss_nil)
      (pss_one (ps_if (pt_chain op_le op_lt pe_int (pv 6) (pe_ix ix_tup (pe_ix ix_tup (pv 0) (pv 3) (fun _ _ => rfl)) pe_int (fun _ _ => rfl))) (pss_one (ps_ret (pe_tup (pa_cons (pv 3) (pa_cons (pv 6) pa_nil))))) pss_nil))))))
      (pss_one (ps_ret pe_non))), ?_⟩
  obtain ⟨ad, xs, rfl, hx, hln, hat⟩ := tnet_at hn
  refine ⟨d, .dK r, hd, trivial, fun od => ⟨.ref d, rfl, d, od, r, rfl, upd_same, ?_⟩⟩
  obtain ⟨Hf, ef⟩ : ∃ Hf, Hf = upd H d (.frz od (.dK r)) := ⟨_, rfl⟩
  rw [← ef]
  have kf : Kp [d] H Hf := ef ▸ Kp.put (by simp) hd fun ps z => by cases z
  have tf : Kt H Hf := kf.kt fun s z ys e => by
    rw [List.mem_singleton.mp z, hd] at e
    cases e
  have hfd : Hf d = some (.frz od (.dK r)) := by rw [ef]; exact upd_same
  -- back to the open dict
  have back : ∀ H', Kp [] Hf H' → H' d = some (.frz od (.dK r)) ∧ Kp [d] H (upd H' d (.dK r)) ∧ Kt H' (upd H' d (.dK r)) := fun H' k => by
    have e : H' d = some (.frz od (.dK r)) := k.at_ d _ (by simp) hfd fun ps z => by cases z
    exact ⟨e, kf.tr (k.of0.tr (Kp.put (by simp) e fun ps z => by cases z)), Kt.put e fun _ z => by cases z⟩
  refine for_it walk_items (fun i σ H' => ∃ (o3 o4 o5 o6 : Option V), σ = [some (.ref ad), some (.ref d), some (.int t), o3, o4, o5, o6] ∧ Kp [] Hf H' ∧ placeL N t L = placeL N t (L.drop i)) ⟨none, none, none, none, rfl, .rfl', rfl⟩ (fun i σ H' _ hP => ?_) (fun i z σ H1 H2 hi hP hY => ?_) (fun σ H' hP => ?_)
  · obtain ⟨_, _, _, _, _, k, _⟩ := hP
    exact (back H' k).1
  · obtain ⟨o3, o4, o5, o6, rfl, k1, hpl⟩ := hP
    obtain ⟨Tq, y1, y2, rfl, nT, rfl, h1, h2⟩ := hY
    have hiL : i < L.length := by rw [← hl.len]; exact hi
    obtain ⟨lg, hlg⟩ : ∃ lg, L[i]? = some lg := ⟨L[i], List.getElem?_eq_getElem hiL⟩
    obtain ⟨vz, hr1, hvz⟩ := hl.get hlg
    replace h1 : r[i]?.map (fun kv => kV kv.1) = some y1 := h1
    replace h2 : r[i]?.map Prod.snd = some y2 := h2
    rw [hr1] at h1 h2
    obtain rfl : V.int (lg.1 : Int) = y1 := Option.some.inj h1
    obtain rfl : vz = y2 := Option.some.inj h2
    obtain ⟨y, fb, lp⟩ := lg
    have hdrop : L.drop i = (y, fb, lp) :: L.drop (i + 1) := by
      rw [List.drop_eq_getElem_cons hiL]
      rw [List.getElem?_eq_getElem hiL] at hlg
      rw [Option.some.inj hlg]
    obtain ⟨hyl, hpos⟩ := hL _ (List.mem_of_getElem? hlg)
    have k2 : Kp [] Hf (upd H1 Tq (.tup [.int (y : Int), vz])) := k1.tr (Kp.new nT)
    obtain ⟨H2, e2⟩ : ∃ H2, H2 = upd H1 Tq (.tup [.int (y : Int), vz]) := ⟨_, rfl⟩
    rw [← e2] at k2 ⊢
    have hT2 : H2 Tq = some (.tup [.int (y : Int), vz]) := by rw [e2]; exact upd_same
    obtain ⟨ta, rfl, hta⟩ := lgt_at (hvz.kt (tf.tr k2.kt0))
    have hx2 := (tf.tr k2.kt0) _ _ hx
    obtain ⟨la, hxl, hla⟩ := hat y _ (List.getElem?_eq_getElem hyl)
    have hla2 : H2 la = some (.tup [V.int (burnOf N y), nxV (N[y]'hyl).2]) := by
      rw [burnOf_get (List.getElem?_eq_getElem hyl)]
      exact (tf.tr k2.kt0) _ _ hla
    -- lamp, (first, lap)
    refine ⟨Tq, _, rfl, SqT.of hT2, rfl, _, _, rfl, _, _, rfl, ta, _, rfl, SqT.of hta, rfl, _, _, rfl, _, _, rfl, rfl, rfl, ?_⟩
    -- burnt = beat - first
    refine ⟨.int t, rfl, .int fb, rfl, _, _, rfl, rfl, ?_⟩
    -- what is left to be shown, the beats burnt known
    have fin : ∀ g : Int, g = gone t (y, fb, lp) → ∀ σ' : L2.St, σ' = [some (.ref ad), some (.ref d), some (.int t), some (.int (y : Int)), some (.int fb), some (match lp with | none => .non | some l => .int l), some (.int g)] → ∀ (X : Prop),
        ((0 ≤ g → g < burnOf N y → ∀ tp Hx, H2 tp = none → Hx = upd H2 tp (.tup [.int (y : Int), .int g]) → Hx d = some (.frz od (.dK r)) ∧ Q (.ref tp) (upd Hx d (.dK r))) → ((¬ (0 ≤ g ∧ g < burnOf N y)) → placeL N t L = placeL N t (L.drop (i + 1))) → X) → X := fun g eg σ' _ X hX => by
      refine hX (fun h0 h1 tp Hx ntp ex => ?_) (fun hno => ?_)
      · have kx : Kp [] Hf Hx := k2.tr (ex ▸ Kp.new ntp)
        obtain ⟨b1, b2, b3⟩ := back Hx kx
        refine ⟨b1, q _ _ ?_ b2⟩
        have ep : placeL N t L = some (y, g) := by
          rw [hpl, hdrop]
          unfold placeL
          rw [if_pos (yes_hit (by rw [← eg]; exact h0) (by rw [← eg]; exact h1)), ← eg]
        rw [ep]
        exact .tup (b3 _ _ (by rw [ex]; exact upd_same)) (.cons (.int _) (.cons (.int _) .nil))
      · rw [hpl, hdrop]
        have eh : hit N t (y, fb, lp) = false := no_hit (by
          rw [← eg]
          show burnOf N y ≤ g ∨ g < 0
          omega)
        show (if hit N t (y, fb, lp) = true then _ else _) = _
        rw [if_neg (by rw [eh]; exact Bool.false_ne_true)]
    -- the test of the lamp
    have tail : ∀ g : Int, g = gone t (y, fb, lp) → _ := fun g eg => fin g eg _ rfl
    cases lp with
    | none =>
      refine ⟨.non, rfl, rfl, _, rfl, iteF (iteF ?_)⟩
      refine ⟨.int (t - fb), rfl, _, _, rfl, rfl, _, rfl, ?_⟩
      refine tail (t - fb) rfl _ fun ha hb => ?_
      by_cases h0 : 0 ≤ t - fb
      · rw [decide_eq_true h0]
        refine iteT ⟨.ref ad, rfl, .int (y : Int), rfl, ad, xs, y, .ref la, rfl, rfl, SqT.of hx2, atI_nat hxl, la, _, 0, .int (burnOf N y), rfl, rfl, SqT.of hla2, atI_nat (j := 0) rfl, _, _, rfl, rfl, _, rfl, ?_⟩
        by_cases h1 : t - fb < burnOf N y
        · rw [decide_eq_true h1]
          exact iteT ⟨.int (y : Int), rfl, .int (t - fb), rfl, by show 2 ≤ sizeLine; decide, fun tp ntp => ha h0 h1 tp _ ntp rfl⟩
        · rw [decide_eq_false h1]
          exact iteF ⟨_, _, _, _, rfl, k2, hb fun z => h1 z.2⟩
      · rw [decide_eq_false h0]
        exact iteF ⟨_, rfl, iteF ⟨_, _, _, _, rfl, k2, hb fun z => h0 z.1⟩⟩
    | some l =>
      have hl0 := hpos l rfl
      refine ⟨.int l, rfl, rfl, _, rfl, iteT ⟨.int (t - fb), rfl, _, _, rfl, rfl, _, rfl, ?_⟩⟩
      by_cases h00 : 0 ≤ t - fb
      · rw [decide_eq_true h00]
        refine iteT ⟨.int (t - fb), rfl, .int l, rfl, _, _, rfl, rfl, (by omega), ?_⟩
        have eg : (t - fb) % l = gone t (y, fb, some l) := by
          show _ = (if 0 ≤ t - fb then (t - fb) % l else t - fb)
          rw [if_pos h00]
        refine ⟨.int ((t - fb) % l), rfl, _, _, rfl, rfl, _, rfl, ?_⟩
        have h0 : 0 ≤ (t - fb) % l := Int.emod_nonneg _ (by omega)
        refine tail _ eg _ fun ha hb => ?_
        rw [decide_eq_true h0]
        refine iteT ⟨.ref ad, rfl, .int (y : Int), rfl, ad, xs, y, .ref la, rfl, rfl, SqT.of hx2, atI_nat hxl, la, _, 0, .int (burnOf N y), rfl, rfl, SqT.of hla2, atI_nat (j := 0) rfl, _, _, rfl, rfl, _, rfl, ?_⟩
        by_cases h1 : (t - fb) % l < burnOf N y
        · rw [decide_eq_true h1]
          exact iteT ⟨.int (y : Int), rfl, .int ((t - fb) % l), rfl, by show 2 ≤ sizeLine; decide, fun tp ntp => ha h0 h1 tp _ ntp rfl⟩
        · rw [decide_eq_false h1]
          exact iteF ⟨_, _, _, _, rfl, k2, hb fun z => h1 z.2⟩
      · rw [decide_eq_false h00]
        refine iteF ?_
        have eg : t - fb = gone t (y, fb, some l) := by
          show _ = (if 0 ≤ t - fb then (t - fb) % l else t - fb)
          rw [if_neg h00]
        refine ⟨.int (t - fb), rfl, _, _, rfl, rfl, _, rfl, ?_⟩
        refine tail _ eg _ fun ha hb => ?_
        rw [decide_eq_false h00]
        exact iteF ⟨_, rfl, iteF ⟨_, _, _, _, rfl, k2, hb fun z => h00 z.1⟩⟩
  · obtain ⟨o3, o4, o5, o6, rfl, k1, hpl⟩ := hP
    obtain ⟨b1, b2, b3⟩ := back H' k1
    refine ⟨b1, q _ _ ?_ b2⟩
    rw [hpl, hl.len, List.drop_length]
    exact .non
def spPlaceA (TB TB2 : Addr) : Sp := fun vs H Q _ => ∃ (v u : V) (t : Int) (N : Net) (b : Int) (x : Nat), vs = [v, u, .int t] ∧ Tu H v (netD N) ∧ NetOk N ∧ Tu H u (sparkD b x) ∧ 0 ≤ b ∧ x < N.length ∧ 0 ≤ t ∧ GxR.TabG H TB ∧ GxR.TabG H TB2 ∧
  ∀ v' H', Tu H' v' (placeD (placeL N t (lightsL N b x))) → Kp [] H H' → Q v' H'
theorem ok_place_alone (T : Tx K mg a) (TB : GxR.TabB base mg a.cd_is_net a.tb_is_net) (TB2 : GxR.TabB base mg a.cd_lights_of a.tb_lights_of) : FnOk P w K mg base CX0 12 a.a_place_alone a.f_place_alone ["net", "kindling", "beat"] (spPlaceA a.tb_is_net a.tb_lights_of) := by
  have G_need_kindling := ok_need_kindling (P := P) (w := w) (base := base) T TB
  have G_need_beat := ok_need_beat (P := P) (w := w) (base := base) T
  have G_lights_of := ok_lights_of (P := P) (w := w) (base := base) T TB TB2
  have G_place_by_lights := ok_place_by_lights (P := P) (w := w) (base := base) T
  refine T.place_alone.F.ok sc_place_alone (fun vs H Q E h => ?_) (fun cdv A outer s H vs Q E hr h => ?_)
  · obtain ⟨v, u, t, N, b, x, rfl, _⟩ := h
    rfl
  obtain ⟨v, u, t, N, b, x, rfl, hn, ok, hu, hb, hx, h0, ht, ht2, q⟩ := h
  refine ⟨_, (pss_cons (ps_expr (pe_call G_need_kindling (hr.mono (by decide)) (by rfl) T.need_kindling.g T.need_kindling.F.kp T.need_kindling.b .nil pass0 (pa_cons (pv 0) (pa_cons (pv 1) pa_nil))))
      (pss_cons (ps_expr (pe_call G_need_beat (hr.mono (by decide)) (by rfl) T.need_beat.g T.need_beat.F.kp T.need_beat.b .nil pass0 (pa_cons (pv 2) pa_nil)))
      (pss_one (ps_ret (pe_call G_place_by_lights (hr.mono (by decide)) (by rfl) T.place_by_lights.g T.place_by_lights.F.kp T.place_by_lights.b .nil pass0 (pa_cons (pv 0) (pa_cons (pe_call G_lights_of (hr.mono (by decide)) (by rfl) T.lights_of.g T.lights_of.F.kp T.lights_of.b .nil pass0 (pa_cons (pv 0) (pa_cons (pv 1) pa_nil))) (pa_cons (pv 2) pa_nil)))))))), ?_⟩
  refine ⟨v, rfl, u, rfl, v, u, N, b, x, rfl, hn, ok, hu, hb, hx, ht, fun H1 k1 => ?_⟩
  refine ⟨.int t, rfl, t, rfl, h0, ?_⟩
  refine ⟨v, rfl, v, rfl, u, rfl, v, u, N, b, x, rfl, hn.kt k1.kt0, ok, hu.kt k1.kt0, hx, k1.tab _ ht, k1.tab _ ht2, fun d r H2 nd hd hl k2 => ?_⟩
  refine ⟨.int t, rfl, v, d, t, N, r, _, rfl, hn.kt (k1.tr k2).kt0, hd, hl, lights_ok ok hx b, fun v' H3 tv k3 => ?_⟩
  exact q v' H3 tv (k1.tr (Kp.drop nd (k2.of0.tr k3)))
end


/-! ### the law's draws -/
section
variable {P : Program} {w : World} {K : PySem.W.Frag} {mg : Str → Option Value} {base : Heap} {a : Ad}
/-- a jar: three numbers, at most n draws were made -/
def Jar (H : Hp) (p : Addr) (n : Nat) : Prop := ∃ x y z : Int, H p = some (.lst [.int x, .int y, .int z]) ∧ 0 ≤ x ∧ 0 ≤ y ∧ y < 2 ^ 400 ∧ 0 ≤ z ∧ z ≤ n
theorem Jar.mono {H : Hp} {p : Addr} {n m : Nat} (h : Jar H p n) (l : n ≤ m) : Jar H p m := by
  obtain ⟨x, y, z, e, h1, h2, h3, h4, h5⟩ := h
  exact ⟨x, y, z, e, h1, h2, h3, h4, by omega⟩
theorem Jar.kp {S : List Addr} {H H1 : Hp} {p : Addr} {n : Nat} (h : Jar H p n) (k : Kp S H H1) (hp : p ∉ S) : Jar H1 p n := by
  obtain ⟨x, y, z, e, r⟩ := h
  exact ⟨x, y, z, k.lst hp e, r⟩
theorem Jar.new {H : Hp} {p q : Addr} {o : HO} {n : Nat} (h : Jar H p n) (nq : H q = none) : Jar (upd H q o) p n := h.kp (Kp.new (S := []) nq) (by simp)
theorem Jar.tr {H : Hp} {p : Addr} {n : Nat} (h : Jar H p n) : H p ≠ none := by
  obtain ⟨x, y, z, e, _⟩ := h
  rw [e]
  exact fun q => by cases q
theorem Jar.nt {H : Hp} {p : Addr} {n : Nat} (h : Jar H p n) : ∀ s ∈ [p], ∀ xs, H s ≠ some (.tup xs) := fun s hs xs => by
  obtain rfl : s = p := by simpa using hs
  obtain ⟨x, y, z, e, _⟩ := h
  rw [e]
  exact fun q => by cases q
theorem Jar.ni {H : Hp} {p q : Addr} {n : Nat} (h : Jar H p n) (nq : H q = none) : q ∉ [p] := by
  have : p ≠ q := fun e => h.tr (e ▸ nq)
  simpa using this.symm
def spJar : Sp := fun vs H Q _ => ∃ (c : Int) (k : Nat), vs = [.int c, .int k] ∧ k < 100 ∧ ∀ p, H p = none → ∀ H', Kp [] H H' → Jar H' p 0 → Q (.ref p) H'
theorem ok_law_jar (T : Tx K mg a) : FnOk P w K mg base CX0 1 a.a_law_jar a.f_law_jar ["cell", "k"] spJar := by
  refine T.law_jar.F.ok sc_law_jar (fun vs H Q E h => ?_) (fun cdv A outer s H vs Q E hr h => ?_)
  · obtain ⟨c, k, rfl, _⟩ := h
    rfl
  obtain ⟨c, k, rfl, hk, q⟩ := h
  refine ⟨_, (pss_one (ps_ret (pe_lst (pa_cons (pe_callB (call_max2 rfl) (by rfl) T.n_max (by decide +kernel) (pa_cons pe_int (pa_cons (pe_op op_sub (pv 0) (pe_op op_powW pe_int pe_int)) pa_nil))) (pa_cons (pe_op op_add (pe_op op_add (pe_op op_powW (pe_op op_mod (pv 0) (pe_op op_add (pe_op op_powW pe_int pe_int) pe_int)) pe_int) (pe_op op_mulW pe_int (pv 1))) pe_int) (pa_cons pe_int pa_nil)))))), ?_⟩
  have l1 := Int.emod_nonneg c (show ((10 : Int) ^ (38 : Int).toNat + 133) ≠ 0 by decide)
  have l2 := Int.emod_lt_of_pos c (show 0 < ((10 : Int) ^ (38 : Int).toNat + 133) by decide)
  have l3 : ((10 : Int) ^ (38 : Int).toNat + 133) < 2 ^ 127 := by decide
  refine ⟨.int c, rfl, _, _, rfl, rfl, ⟨by decide, by decide⟩, _, _, rfl, rfl, _, _, rfl, ?_⟩
  refine ⟨.int c, rfl, _, _, rfl, rfl, ⟨by decide, by decide⟩, _, _, rfl, rfl, _, _, rfl, rfl, (by show (0 : Int) < _; decide), ?_⟩
  obtain ⟨M, eM⟩ : ∃ M, M = (10 : Int) ^ (38 : Int).toNat + 133 := ⟨_, rfl⟩
  have l4 : (c % ((10 : Int) ^ (38 : Int).toNat + 133)).natAbs < 2 ^ 127 := by
    rw [← eM] at l1 l2 l3 ⊢
    obtain ⟨r, er⟩ : ∃ r, r = c % M := ⟨_, rfl⟩
    rw [← er] at l1 l2 ⊢
    omega
  have e3 : (c % ((10 : Int) ^ (38 : Int).toNat + 133)) ^ (3 : Int).toNat < 2 ^ 381 := by
    rw [← eM] at l1 l2 l3 ⊢
    obtain ⟨r, er⟩ : ∃ r, r = c % M := ⟨_, rfl⟩
    rw [← er] at l1 l2 ⊢
    have q1 : r < 2 ^ 127 := by omega
    obtain ⟨n, rfl⟩ := Int.eq_ofNat_of_zero_le l1
    have h1 : n ^ 3 < (2 ^ 127) ^ 3 := Nat.pow_lt_pow_left (by omega) (by decide)
    have h2 : (2 ^ 127) ^ 3 = 2 ^ 381 := by decide
    rw [h2] at h1
    show (n : Int) ^ 3 < _
    have h3 : ((n ^ 3 : Nat) : Int) < ((2 ^ 381 : Nat) : Int) := Int.ofNat_lt.mpr h1
    rw [Int.natCast_pow, Int.natCast_pow] at h3
    exact h3
  have e4 : 0 ≤ (c % ((10 : Int) ^ (38 : Int).toNat + 133)) ^ (3 : Int).toNat := Int.pow_nonneg l1
  refine ⟨_, _, rfl, rfl, pow_ok (n := 127) (e := 3) l4 (by decide) (by decide), .int k, rfl, _, _, rfl, rfl, wide_mul (a := 32) (b := 8) (by decide) (by omega) (by decide) (by decide) (by decide), _, _, rfl, rfl, _, _, rfl, rfl, ?_⟩
  refine ⟨by show 3 ≤ sizeLine; decide, fun p np => q p np _ (Kp.new np) ⟨_, _, _, upd_same, ?_, ?_, ?_, Int.le_refl 0, Int.le_refl 0⟩⟩
  · split <;> omega
  · generalize (c % ((10 : Int) ^ (38 : Int).toNat + 133)) ^ (3 : Int).toNat = r3 at e4
    omega
  · generalize (c % ((10 : Int) ^ (38 : Int).toNat + 133)) ^ (3 : Int).toNat = r3 at e3
    have e : (2 : Int) ^ 381 + 2147483629 * 100 + 3 < 2 ^ 400 := by decide
    omega
def spPull : Sp := fun vs H Q _ => ∃ (p : Addr) (m : Int) (n : Nat), vs = [.ref p, .int m] ∧ 0 < m ∧ m < 2 ^ 8000 ∧ Jar H p n ∧ n < 100000 ∧ ∀ r H', 0 ≤ r → r < m → Kp [p] H H' → Jar H' p (n + 1) → Q (.int r) H'
theorem ok_law_pull (T : Tx K mg a) : FnOk P w K mg base CX0 1 a.a_law_pull a.f_law_pull ["jar", "many"] spPull := by
  refine T.law_pull.F.ok sc_law_pull (fun vs H Q E h => ?_) (fun cdv A outer s H vs Q E hr h => ?_)
  · obtain ⟨p, m, n, rfl, _⟩ := h
    rfl
  obtain ⟨p, m, n, rfl, hm, hm2, ⟨x, y, z, hp, hx, hy, hy2, hz, hz2⟩, hn, q⟩ := h
  refine ⟨_, (pss_cons (ps_if (pt_cmpR op_gt (pe_ix ix_list (pv 0) pe_int (fun _ _ => rfl)) pe_int (nomark _)) (pss_cons (ps_set (i := 2) sc_law_pull.nd rfl (by first | exact .inl rfl | exact .inr rfl) (pe_op op_mod (pe_ix ix_list (pv 0) pe_int (fun _ _ => rfl)) (pv 1)))
      (pss_cons (ps_asg (pe_op op_fdivW (pe_ix ix_list (pv 0) pe_int (fun _ _ => rfl)) (pv 1)) (pg_sub (pv 0) pe_int set_list))
      (pss_one (ps_ret (pv 2))))) pss_nil)
      (pss_cons (ps_asg (pe_op op_add (pe_ix ix_list (pv 0) pe_int (fun _ _ => rfl)) pe_int) (pg_sub (pv 0) pe_int set_list))
      (pss_cons (ps_asg (pe_op op_mod (pe_op op_add (pe_op op_add (pe_op op_powW (pe_ix ix_list (pv 0) pe_int (fun _ _ => rfl)) pe_int) (pe_op op_mulW pe_int (pe_ix ix_list (pv 0) pe_int (fun _ _ => rfl)))) pe_int) (pe_op op_add (pe_op op_powW pe_int pe_int) pe_int)) (pg_sub (pv 0) pe_int set_list))
      (pss_one (ps_ret (pe_op op_mod (pe_op op_fdivW (pe_ix ix_list (pv 0) pe_int (fun _ _ => rfl)) (pe_op op_powW pe_int pe_int)) (pv 1))))))), ?_⟩
  have nt : ∀ ps, HO.lst [V.int x, .int y, .int z] ≠ .tbl ps := fun ps e => by cases e
  refine ⟨.ref p, rfl, p, _, 0, .int x, rfl, rfl, SqL.of hp, atI_nat (j := 0) rfl, _, _, rfl, rfl, _, rfl, ite2 (fun e => ?_) (fun e => ?_)⟩
  · have hx0 : 0 < x := of_decide_eq_true e
    refine ⟨.ref p, rfl, p, _, 0, .int x, rfl, rfl, SqL.of hp, atI_nat (j := 0) rfl, .int m, rfl, x, m, rfl, rfl, hm, ?_⟩
    refine ⟨.ref p, rfl, p, _, 0, .int x, rfl, rfl, SqL.of hp, atI_nat (j := 0) rfl, .int m, rfl, x, m, rfl, rfl, ⟨hm, big_log hm hm2⟩, ?_⟩
    refine ⟨.ref p, rfl, p, _, 0, 0, rfl, rfl, hp, rfl, ?_⟩
    refine ⟨.int (x % m), rfl, ?_⟩
    refine q _ _ (Int.emod_nonneg _ (by omega)) (Int.emod_lt_of_pos _ hm) (Kp.put (by simp) hp nt) ⟨x / m, y, z, upd_same, Int.ediv_nonneg hx (by omega), hy, hy2, hz, by omega⟩
  · have hx0 : x = 0 := by
      have : ¬ 0 < x := fun h => e (decide_eq_true h)
      omega
    -- jar[2] = jar[2] + 1
    refine ⟨.ref p, rfl, p, _, 2, .int z, rfl, rfl, SqL.of hp, atI_nat (j := 2) rfl, _, _, rfl, rfl, .ref p, rfl, p, _, 2, 2, rfl, rfl, hp, rfl, ?_⟩
    obtain ⟨H1, e1⟩ : ∃ H1, H1 = upd H p (.lst [.int x, .int y, .int (z + 1)]) := ⟨_, rfl⟩
    have hp1 : H1 p = some (.lst [.int x, .int y, .int (z + 1)]) := by rw [e1]; exact upd_same
    have k1 : Kp [p] H H1 := e1 ▸ Kp.put (by simp) hp nt
    show tSeq _ _ _ _ (upd H p (.lst [.int x, .int y, .int (z + 1)]))
    rw [← e1]
    -- jar[1] = (jar[1] ** 3 + 87178291 * jar[2] + 5) % (10 ** 33 + 61)
    refine ⟨.ref p, rfl, p, _, 1, .int y, rfl, rfl, SqL.of hp1, atI_nat (j := 1) rfl, _, _, rfl, rfl, pow_ok (n := 400) (e := 3) (by omega) (by decide) (by decide), .ref p, rfl, p, _, 2, .int (z + 1), rfl, rfl, SqL.of hp1, atI_nat (j := 2) rfl, _, _, rfl, rfl, wide_mul (a := 27) (b := 20) (by decide) (by omega) (by decide) (by decide) (by decide), _, _, rfl, rfl, _, _, rfl, rfl, _, _, rfl, rfl, ⟨by decide, by decide⟩, _, _, rfl, rfl, _, _, rfl, rfl, (by show (0 : Int) < _; decide), ?_⟩
    have l1 := Int.emod_nonneg (y ^ (3 : Int).toNat + 87178291 * (z + 1) + 5) (show ((10 : Int) ^ (33 : Int).toNat + 61) ≠ 0 by decide)
    have l2 := Int.emod_lt_of_pos (y ^ (3 : Int).toNat + 87178291 * (z + 1) + 5) (show 0 < ((10 : Int) ^ (33 : Int).toNat + 61) by decide)
    have l3 : ((10 : Int) ^ (33 : Int).toNat + 61) < 2 ^ 400 := by decide
    obtain ⟨b1, eb⟩ : ∃ b1, b1 = (y ^ (3 : Int).toNat + 87178291 * (z + 1) + 5) % ((10 : Int) ^ (33 : Int).toNat + 61) := ⟨_, rfl⟩
    rw [← eb] at l1 l2
    refine ⟨.ref p, rfl, p, _, 1, 1, rfl, rfl, hp1, rfl, ?_⟩
    obtain ⟨H2, e2⟩ : ∃ H2, H2 = upd H1 p (.lst [.int x, .int b1, .int (z + 1)]) := ⟨_, rfl⟩
    have hp2 : H2 p = some (.lst [.int x, .int b1, .int (z + 1)]) := by rw [e2]; exact upd_same
    have k2 : Kp [p] H1 H2 := e2 ▸ Kp.put (by simp) hp1 (fun ps e => by cases e)
    rw [eb] at e2
    show tSeq _ _ _ _ (upd H1 p (.lst [.int x, .int ((y ^ (3 : Int).toNat + 87178291 * (z + 1) + 5) % ((10 : Int) ^ (33 : Int).toNat + 61)), .int (z + 1)]))
    rw [← e2]
    -- return jar[1] // 10 ** 8 % many
    refine ⟨.ref p, rfl, p, _, 1, .int b1, rfl, rfl, SqL.of hp2, atI_nat (j := 1) rfl, _, _, rfl, rfl, ⟨by decide, by decide⟩, _, _, rfl, rfl, ⟨by decide, by decide⟩, .int m, rfl, _, _, rfl, rfl, hm, ?_⟩
    exact q _ _ (Int.emod_nonneg _ (by omega)) (Int.emod_lt_of_pos _ hm) (k1.tr k2) ⟨x, b1, z + 1, hp2, hx, l1, by omega, by omega, by omega⟩
def spCells : Sp := fun vs H Q _ => ∃ (l : Addr) (ns : List Int) (m : Nat), vs = [.ref l, .int m] ∧ SqL K H l (ns.map V.int) ∧ ns.length ≤ 63 ∧ m ≤ 63 ∧ ∀ (p : Addr) (cs : List Int) (H' : Hp), H' p = some (.lst (cs.map V.int)) → cs.length ≤ m + 1 → Kp [] H H' → Q (.ref p) H'
theorem ok_law_cells (T : Tx K mg a) : FnOk P w K mg base CX0 1 a.a_law_cells a.f_law_cells ["script", "most"] (spCells (K := K)) := by
  refine T.law_cells.F.ok sc_law_cells (fun vs H Q E h => ?_) (fun cdv A outer s H vs Q E hr h => ?_)
  · obtain ⟨l, ns, m, rfl, _⟩ := h
    rfl
  obtain ⟨l, ns, m, rfl, hl, hn, hm, q⟩ := h
  refine ⟨_, (pss_one (ps_ret (pe_op op_catL (pe_slice sl_list (pv 0) po_none (po_some (pv 1))) (pe_op op_rep (pe_lst (pa_cons pe_int pa_nil)) (pe_callTy call_int1 (by rfl) T.n_int (by decide +kernel) (pa_cons (pe_cmpR (op_eqD hr.units) (pv 0) (pe_lst pa_nil) (nomark _)) pa_nil)))))), ?_⟩
  -- script[:most]
  refine ⟨.ref l, rfl, .int m, rfl, _, rfl, l, _, rfl, hl, fun y ny => ?_⟩
  obtain ⟨cs, hcs, hcl⟩ : ∃ cs : List Int, cutV (ns.map V.int) none (some (m : Int)) = cs.map V.int ∧ cs.length ≤ m := by
    unfold cutV
    rw [← List.map_drop, ← List.map_take]
    refine ⟨_, rfl, ?_⟩
    rw [List.length_take, List.length_drop, HT.sIx_none, show HT.sIx (ns.map V.int).length (ns.map V.int).length (some (m : Int)) = min m (ns.map V.int).length from HT.sIx_nat _ _ m]
    omega
  rw [hcs]
  obtain ⟨H1, e1⟩ : ∃ H1, H1 = upd H y (.lst (cs.map V.int)) := ⟨_, rfl⟩
  rw [← e1]
  have k1 : Kp [] H H1 := e1 ▸ Kp.new ny
  have hy1 : H1 y = some (.lst (cs.map V.int)) := by rw [e1]; exact upd_same
  have hl1 := k1.seq (by simp) hl
  -- [0]
  refine ⟨by show 1 ≤ sizeLine; decide, fun z nz => ?_⟩
  obtain ⟨H2, e2⟩ : ∃ H2, H2 = upd H1 z (.lst [.int 0]) := ⟨_, rfl⟩
  rw [← e2]
  have k2 : Kp [] H1 H2 := e2 ▸ Kp.new nz
  have hz2 : H2 z = some (.lst [.int 0]) := by rw [e2]; exact upd_same
  -- int(script == [])
  refine ⟨.ref l, rfl, Nat.zero_le _, fun u nu => ?_⟩
  obtain ⟨H3, e3⟩ : ∃ H3, H3 = upd H2 u (.lst []) := ⟨_, rfl⟩
  rw [← e3]
  have k3 : Kp [] H2 H3 := e3 ▸ Kp.new nu
  have hu3 : H3 u = some (.lst []) := by rw [e3]; exact upd_same
  have dpi : ∀ ns : List Int, DpAll K H3 (ns.map V.int) (ns.map PyData.int) := fun ns => by
    induction ns with
    | nil => exact .nil
    | cons n r ih => exact .cons (.int n) ih
  have shI : ∀ ns : List Int, SeqAt.shaped (.list (ns.map PyData.int)) = true := fun ns => by
    unfold SeqAt.shaped
    have h1 : (PyData.list (ns.map PyData.int)).canLay0 = true := by
      show PyData.canLayAll0 (ns.map PyData.int) = true
      exact all_lay (fun _ => rfl) ns
    have h2 : (PyData.list (ns.map PyData.int)).depth ≤ 1 := by
      show PyData.depthAll (ns.map PyData.int) + 1 ≤ 1
      have := all_depth (f := PyData.int) (n := 0) (fun _ => Nat.le_refl _) ns
      omega
    rw [h1, decide_eq_true (Nat.le_trans h2 (by decide))]
    rfl
  refine ⟨.list (ns.map PyData.int), .list [], .lst (k3.seq (by simp) (k2.seq (by simp) hl1)) (dpi ns), .lst (SqL.of hu3) .nil, shI ns, (by decide), ?_⟩
  refine .inr ⟨_, rfl, ?_⟩
  obtain ⟨b, hb⟩ : ∃ b, b = PyData.eqv (.list (ns.map PyData.int)) (.list []) := ⟨_, rfl⟩
  rw [← hb]
  have hb1 : 0 ≤ (if b = true then (1 : Int) else 0) ∧ (if b = true then (1 : Int) else 0) ≤ 1 := by cases b <;> decide
  obtain ⟨j, ej⟩ : ∃ j, j = (if b = true then (1 : Int) else 0) := ⟨_, rfl⟩
  rw [← ej] at hb1 ⊢
  refine ⟨z, j, _, rfl, rfl, k3.lst (by simp) hz2, by omega, by omega, ?_, fun z2 nz2 => ?_⟩
  · have : ([V.int 0].length * j.toNat) ≤ 1 := by show 1 * j.toNat ≤ 1; omega
    exact Nat.le_trans this (by decide)
  obtain ⟨zs, hzs, hzl⟩ : ∃ zs : List Int, (List.replicate j.toNat [V.int 0]).flatten = zs.map V.int ∧ zs.length ≤ 1 := by
    refine ⟨(List.replicate j.toNat [(0 : Int)]).flatten, ?_, ?_⟩
    · rw [List.map_flatten, List.map_replicate]; rfl
    · rw [List.length_flatten, List.map_replicate, List.sum_replicate_nat]; simp; omega
  rw [hzs]
  obtain ⟨H4, e4⟩ : ∃ H4, H4 = upd H3 z2 (.lst (zs.map V.int)) := ⟨_, rfl⟩
  rw [← e4]
  have k4 : Kp [] H3 H4 := e4 ▸ Kp.new nz2
  refine ⟨y, z2, _, _, rfl, rfl, SqL.of ((k2.tr (k3.tr k4)).lst (by simp) hy1), SqL.of (by rw [e4]; exact upd_same), ?_, fun p np => ?_⟩
  · rw [List.length_map, List.length_map]
    exact Nat.le_trans (show cs.length + zs.length ≤ 64 by omega) (by decide)
  rw [← List.map_append]
  exact q p (cs ++ zs) _ upd_same (by rw [List.length_append]; omega) (k1.tr (k2.tr (k3.tr (k4.tr (Kp.new np)))))
end

/-! ### the law's own look whether two things are alike: of data that are -/
section
variable {P : Program} {w : World} {K : PySem.W.Frag} {mg : Str → Option Value} {base : Heap} {a : Ad}
def spExact (n : Nat) : Sp := fun vs H Q _ => ∃ (v u : V) (d : PyData), vs = [v, u] ∧ Dx [] H v d ∧ Dx [] H u d ∧ d.canLay0 = true ∧ wdB d = true ∧ d.depth ≤ n ∧ ∀ H', Kp [] H H' → Q (.bl true) H'
theorem kit_any {K : PySem.W.Frag} {d : PyData} : PySem.W.kitAny K (.type (kname d)) [.type "list", .type "tuple"] = some (kindB d "list" || kindB d "tuple") := by
  refine kitAny_cons (kit_data (C := "list") (by decide)) (fun e => ?_) fun e => by rw [e]; rfl
  rw [e]
  refine kitAny_cons (kit_data (C := "tuple") (by decide)) (fun e => ?_) fun e => by rw [e]; rfl
  rw [e]
  exact kitAny_nil
theorem lay_mem {d : PyData} : ∀ {ds : List PyData}, PyData.canLayAll0 ds = true → d ∈ ds → d.canLay0 = true
  | [], _, h => by cases h
  | e :: ds, h, hm => by
    have h2 : e.canLay0 = true ∧ PyData.canLayAll0 ds = true := by simpa [PyData.canLayAll0] using h
    rcases List.mem_cons.mp hm with rfl | hm
    · exact h2.1
    · exact lay_mem h2.2 hm
theorem depth_mem {d : PyData} : ∀ {ds : List PyData}, d ∈ ds → d.depth ≤ PyData.depthAll ds
  | [], h => by cases h
  | e :: ds, hm => by
    show _ ≤ max e.depth (PyData.depthAll ds)
    rcases List.mem_cons.mp hm with rfl | hm
    · exact Nat.le_max_left _ _
    · exact Nat.le_trans (depth_mem hm) (Nat.le_max_right _ _)
theorem ok_law_exactN (T : Tx K mg a) (n : Nat) {j : Nat} {sp : Sp} (G_law_exact : FnOk P w K mg base CX0 j a.a_law_exact a.f_law_exact ["found", "due"] sp) (hj : j ≤ n) (hsp : 0 < n → ∀ vs H Q E, spExact (n - 1) vs H Q E → sp vs H Q E) :
    FnOk P w K mg base CX0 (n + 1) a.a_law_exact a.f_law_exact ["found", "due"] (spExact n) := by
  refine T.law_exact.F.ok sc_law_exact (fun vs H Q E h => ?_) (fun cdv A outer s H vs Q E hr h => ?_)
  · obtain ⟨v, u, d, rfl, _⟩ := h
    rfl
  obtain ⟨v, u, d, rfl, hv, hu, hl, hwd, hdp, q⟩ := h
  refine ⟨_, (pss_cons (ps_if (pt_cmpR op_isN (pv 1) pe_non (nomark _)) (pss_one (ps_ret (pe_cmpR op_isN (pv 0) pe_non (nomark _)))) pss_nil)
      (pss_cons (ps_if (pt_val (pe_callB call_isiT (by rfl) T.n_isinstance (by decide +kernel) (pa_cons (pv 1) (pa_cons (pe_tup (pa_cons (pe_bltn (v := .ty "list") (by rfl) T.n_list (by decide +kernel) rfl) (pa_cons (pe_bltn (v := .ty "tuple") (by rfl) T.n_tuple (by decide +kernel) rfl) pa_nil))) pa_nil)))) (pss_cons (ps_if (PW.pt (pw_or (pt_cmpR op_ne (pe_callB call_isi (by rfl) T.n_isinstance (by decide +kernel) (pa_cons (pv 0) (pa_cons (pe_bltn (v := .ty "list") (by rfl) T.n_list (by decide +kernel) rfl) pa_nil))) (pe_callB call_isi (by rfl) T.n_isinstance (by decide +kernel) (pa_cons (pv 1) (pa_cons (pe_bltn (v := .ty "list") (by rfl) T.n_list (by decide +kernel) rfl) pa_nil))) (nomark _)) (pw_or1 (pt_cmpR op_ne (pe_callB call_isi (by rfl) T.n_isinstance (by decide +kernel) (pa_cons (pv 0) (pa_cons (pe_bltn (v := .ty "tuple") (by rfl) T.n_tuple (by decide +kernel) rfl) pa_nil))) (pe_callB call_isi (by rfl) T.n_isinstance (by decide +kernel) (pa_cons (pv 1) (pa_cons (pe_bltn (v := .ty "tuple") (by rfl) T.n_tuple (by decide +kernel) rfl) pa_nil))) (nomark _))))) (pss_one (ps_ret pe_bl)) pss_nil)
      (pss_one (ps_ret (pe_and (pe_cmpR op_eq (pe_callB call_len_seq (by rfl) T.n_len (by decide +kernel) (pa_cons (pv 0) pa_nil)) (pe_callB call_len_seq (by rfl) T.n_len (by decide +kernel) (pa_cons (pv 1) pa_nil)) (nomark _)) (pe_one (pe_callB (cr_all rfl) (by rfl) T.n_all (by decide +kernel) (pa_cons (pe_lc (own := [("one", 2), ("other", 3)]) (g := gTup K 2 (gCons (gName 2) (gCons (gName 3) (gNil)))) (by rfl) sc_law_exact.nd (RZ.pi_zipA (by rfl) T.n_zip (pa_cons (pv 0) (pa_cons (pv 1) pa_nil))) (blkOk_by (own := [("one", 2), ("other", 3)]) (N := s_law_exact_N) (sc := defScope s_law_exact) (by decide +kernel)) (fun _ _ _ _ _ => (pg_tupK (K := K) rfl (by rfl) (pgs_cons (pg_name (i := 2) sc_law_exact.nd rfl (by first | exact .inl rfl | exact .inr rfl)) (pgs_cons (pg_name (i := 3) sc_law_exact.nd rfl (by first | exact .inl rfl | exact .inr rfl)) pgs_nil)))) (fun _ _ _ _ _ => pts_nil) (fun _ _ _ _ _ => (pe_call G_law_exact (hr.mono (by omega)) (by rfl) T.law_exact.g T.law_exact.F.kp T.law_exact.b .nil pass0 (pa_cons (pv 2) (pa_cons (pv 3) pa_nil))))) pa_nil))))))) pss_nil)
      (pss_one (ps_ret (pe_and (pe_cmpR op_eq (pe_callB call_isi (by rfl) T.n_isinstance (by decide +kernel) (pa_cons (pv 0) (pa_cons (pe_bltn (v := .ty "bool") (by rfl) T.n_bool (by decide +kernel) rfl) pa_nil))) (pe_callB call_isi (by rfl) T.n_isinstance (by decide +kernel) (pa_cons (pv 1) (pa_cons (pe_bltn (v := .ty "bool") (by rfl) T.n_bool (by decide +kernel) rfl) pa_nil))) (nomark _)) (pe_one (pe_cmpR (op_eqD hr.units) (pv 0) (pv 1) (nomark _)))))))), ?_⟩
  have kl : PySem.W.kitOne K (.type (kname d)) (.type "list") = some (kindB d "list") := kit_data (by decide)
  have kt : PySem.W.kitOne K (.type (kname d)) (.type "tuple") = some (kindB d "tuple") := kit_data (by decide)
  have kb : PySem.W.kitOne K (.type (kname d)) (.type "bool") = some (kindB d "bool") := kit_data (by decide)
  -- two leaves
  have leaf : (kindB d "list" || kindB d "tuple") = false → d.depth = 0 → ∀ Ha, Kp [] H Ha → Dx [] Ha v d → Dx [] Ha u d → SeqAt.shaped d = true → v ≠ .non → ∀ (X : Prop), (Q (.bl true) Ha → X) → X := fun _ _ Ha k _ _ _ _ X f => f (q Ha k)
  clear leaf
  by_cases hnon : d = .none
  · subst hnon
    cases hv
    cases hu
    refine ⟨.non, rfl, rfl, _, rfl, iteT ⟨.non, rfl, rfl, ?_⟩⟩
    exact q H Kp.rfl'
  have hun : u ≠ .non := fun e => by
    subst e
    cases hu
    exact hnon rfl
  refine ⟨u, rfl, rfl, _, rfl, ?_⟩
  rw [decide_eq_false hun]
  refine iteF ⟨u, rfl, by show 2 ≤ sizeLine; decide, fun tp ntp => ⟨u, tp, _, _, _, _, rfl, upd_same, .cons (.ty _) (.cons (.ty _) .nil), ?_, kit_any (d := d), _, rfl, ?_⟩⟩
  · exact tyx_of (hu.kp (Kp.new (S := []) ntp) fun _ z => by cases z)
  have kp1 : Kp [] H (upd H tp (.tup [.ty "list", .ty "tuple"])) := Kp.new ntp
  obtain ⟨H1, e1⟩ : ∃ H1, H1 = upd H tp (.tup [.ty "list", .ty "tuple"]) := ⟨_, rfl⟩
  rw [← e1] at kp1
  show (if (kindB d "list" || kindB d "tuple") = true then _ else _)
  have hv1 : Dx [] H1 v d := hv.kp kp1 fun _ z => by cases z
  have hu1 : Dx [] H1 u d := hu.kp kp1 fun _ z => by cases z
  have shp : d.depth ≤ 64 → SeqAt.shaped d = true := fun e => by
    unfold SeqAt.shaped
    rw [hl, decide_eq_true e]; rfl
  by_cases hk : (kindB d "list" || kindB d "tuple") = true
  · rw [hk]
    refine iteT ?_
    rw [← e1]
    refine ⟨v, rfl, v, .ty "list", _, _, _, rfl, .ty _, tyx_of hv1, kl, u, rfl, u, .ty "list", _, _, _, rfl, .ty _, tyx_of hu1, kl, rfl, _, rfl, ?_⟩
    rw [decide_eq_true (Eq.refl _)]
    refine iteF ⟨v, rfl, v, .ty "tuple", _, _, _, rfl, .ty _, tyx_of hv1, kt, u, rfl, u, .ty "tuple", _, _, _, rfl, .ty _, tyx_of hu1, kt, rfl, _, rfl, ?_⟩
    rw [decide_eq_true (Eq.refl _)]
    refine iteF ?_
    -- what stands in both
    obtain ⟨x1, x2, xs1, xs2, ds, rfl, rfl, hr1, hr2, hlay, hwds, hdep, hseq⟩ : ∃ x1 x2 xs1 xs2 ds, v = .ref x1 ∧ u = .ref x2 ∧ DxA [] H1 xs1 ds ∧ DxA [] H1 xs2 ds ∧ PyData.canLayAll0 ds = true ∧ (ds.length < 100000 ∧ wdAll ds = true) ∧ PyData.depthAll ds + 1 ≤ n ∧
        ((H1 x1 = some (.lst xs1) ∧ H1 x2 = some (.lst xs2)) ∨ (H1 x1 = some (.tup xs1) ∧ H1 x2 = some (.tup xs2))) := by
      cases hv1 with
      | @lst x1 xs1 ds _ h1 r1 =>
        cases hu1 with
        | @lst x2 xs2 _ _ h2 r2 => exact ⟨x1, x2, xs1, xs2, ds, rfl, rfl, r1, r2, hl, by simpa [wdB] using hwd, hdp, .inl ⟨h1, h2⟩⟩
      | @tup x1 xs1 ds _ h1 r1 =>
        cases hu1 with
        | @tup x2 xs2 _ _ h2 r2 => exact ⟨x1, x2, xs1, xs2, ds, rfl, rfl, r1, r2, hl, by simpa [wdB] using hwd, hdp, .inr ⟨h1, h2⟩⟩
      | dic _ h => exact absurd hl (by simp [PyData.canLay0])
      | non => exact absurd rfl hnon
      | bl b => exact nomatch (show (false : Bool) = true from hk)
      | int i => exact nomatch (show (false : Bool) = true from hk)
      | str z => exact nomatch (show (false : Bool) = true from hk)
    have l1 := hr1.len
    have l2 := hr2.len
    have sq1 : SqL K H1 x1 xs1 ∨ SqT K H1 x1 xs1 := by
      rcases hseq with ⟨h1, _⟩ | ⟨h1, _⟩
      · exact .inl (SqL.of h1)
      · exact .inr (SqT.of h1)
    have sq2 : SqL K H1 x2 xs2 ∨ SqT K H1 x2 xs2 := by
      rcases hseq with ⟨_, h1⟩ | ⟨_, h1⟩
      · exact .inl (SqL.of h1)
      · exact .inr (SqT.of h1)
    refine ⟨.ref x1, rfl, x1, xs1, rfl, sq1, .ref x2, rfl, x2, xs2, rfl, sq2, rfl, _, rfl, ?_⟩
    rw [decide_eq_true (by rw [l1, l2])]
    refine iteT ⟨.ref x1, rfl, .ref x2, rfl, x1, x2, xs1, xs2, rfl, ?_⟩
    -- one turn, and the end
    have turn : ∀ (D : Addr), H1 D = none → ∀ (i : Nat) (x : V) (σ0 : L2.St) (Ha Hb : Hp), i < xs1.length → (Ha D = some (.lst (List.replicate i (.bl true))) ∧ Kp [] H1 Ha) → YPair (fun i => xs1[i]?) (fun i => xs2[i]?) i Ha x Hb →
        ∃ (Tp : Addr) (y1 y2 : V) (dd : PyData), x = .ref Tp ∧ Hb Tp = some (.tup [y1, y2]) ∧ Dx [] Hb y1 dd ∧ Dx [] Hb y2 dd ∧ dd.canLay0 = true ∧ wdB dd = true ∧ dd.depth ≤ n - 1 ∧ Kp [] Ha Hb := by
      intro D nD i x σ0 Ha Hb hi hP hy
      obtain ⟨Tp, y1, y2, rfl, nT, rfl, hy1, hy2⟩ := hy
      have kT : Kp [] Ha (upd Ha Tp (.tup [y1, y2])) := Kp.new nT
      obtain ⟨dd, hd1, hx1⟩ := hr1.get hy1
      obtain ⟨dd2, hd2, hx2⟩ := hr2.get hy2
      rw [hd1] at hd2
      cases hd2
      have hm := List.mem_of_getElem? hd1
      refine ⟨Tp, y1, y2, dd, rfl, upd_same, hx1.kp (hP.2.tr kT) (fun _ z => by cases z), hx2.kp (hP.2.tr kT) (fun _ z => by cases z), lay_mem hlay hm, wd_mem hwds.2 hm, ?_, kT⟩
      have := depth_mem hm
      omega
    have n1 : xs1.length = min xs1.length xs2.length := by omega
    have n0 : 0 < n := by omega
    have fin : ∀ (D : Addr), H1 D = none → ∀ (Ha : Hp), (Ha D = some (.lst (List.replicate xs1.length (.bl true))) ∧ Kp [] H1 Ha) → rAll K [V.ref D] Ha Q := by
      intro D nD Ha hP
      refine ⟨D, List.replicate xs1.length true, rfl, SqL.of (by rw [List.map_replicate]; exact hP.1), ?_⟩
      have e : (List.replicate xs1.length true).all id = true := by
        rw [List.all_eq_true]
        intro b hb
        rw [(List.mem_replicate.mp hb).2]; rfl
      rw [e]
      exact q Ha (kp1.tr hP.2)
    have step : ∀ (D : Addr), H1 D = none → ∀ (i : Nat) (Hb Hc : Hp), i < xs1.length → Hb D = some (.lst (List.replicate i (.bl true))) → Kp [] H1 Hb → Kp [] Hb Hc → ∃ acc, Hc D = some (.lst acc) ∧ acc.length < sizeLine ∧ ((upd Hc D (.lst (acc ++ [.bl true]))) D = some (.lst (List.replicate (i + 1) (.bl true))) ∧ Kp [] H1 (upd Hc D (.lst (acc ++ [.bl true])))) := by
      intro D nD i Hb Hc hi hb k1 k2
      have hc := k2.lst (by simp) hb
      refine ⟨_, hc, ?_, ?_, ?_⟩
      · rw [List.length_replicate]
        have := wd_len
        have := hwds.1
        omega
      · rw [upd_same, List.replicate_succ']
      · exact Kp.drop nD ((k1.tr k2).of0.tr (Kp.put (S := [D]) (by simp) hc fun ps e => by cases e))
    rcases hseq with ⟨h1, h2⟩ | ⟨h1, h2⟩
    · refine .inl ⟨SqL.of h1, SqL.of h2, fun D nD => lc_it (walk_zip (K := K) (a := x1) (b := x2) (xs := xs1) (ys := xs2) n1) (fun i Ha => Ha D = some (.lst (List.replicate i (.bl true))) ∧ Kp [] H1 Ha) ⟨upd_same, Kp.new nD⟩ (fun i Ha _ hP => ⟨SqL.of (hP.2.lst (by simp) h1), SqL.of (hP.2.lst (by simp) h2)⟩) (fun i x Ha Hb hi hP hy => ?_) (fun Ha hP => fin D nD Ha hP)⟩
      obtain ⟨Tp, y1, y2, dd, rfl, hT, hx1, hx2, ly, wy, dp, kab⟩ := turn D nD i x [] Ha Hb hi hP hy
      refine ⟨Tp, _, rfl, SqT.of hT, rfl, _, _, rfl, _, _, rfl, rfl, rfl, y1, rfl, y2, rfl, hsp n0 _ _ _ _ ⟨y1, y2, dd, rfl, hx1, hx2, ly, wy, dp, fun Hc kc => step D nD i Hb Hc hi (kab.lst (by simp) hP.1) (hP.2.tr kab) kc⟩⟩
    · refine .inr ⟨SqT.of h1, SqT.of h2, fun D nD => lc_it (walk_zipT (K := K) (a := x1) (b := x2) (xs := xs1) (ys := xs2) n1) (fun i Ha => Ha D = some (.lst (List.replicate i (.bl true))) ∧ Kp [] H1 Ha) ⟨upd_same, Kp.new nD⟩ (fun i Ha _ hP => ⟨SqT.of (hP.2.tup (by simp) h1), SqT.of (hP.2.tup (by simp) h2)⟩) (fun i x Ha Hb hi hP hy => ?_) (fun Ha hP => fin D nD Ha hP)⟩
      obtain ⟨Tp, y1, y2, dd, rfl, hT, hx1, hx2, ly, wy, dp, kab⟩ := turn D nD i x [] Ha Hb hi hP hy
      refine ⟨Tp, _, rfl, SqT.of hT, rfl, _, _, rfl, _, _, rfl, rfl, rfl, y1, rfl, y2, rfl, hsp n0 _ _ _ _ ⟨y1, y2, dd, rfl, hx1, hx2, ly, wy, dp, fun Hc kc => step D nD i Hb Hc hi (kab.lst (by simp) hP.1) (hP.2.tr kab) kc⟩⟩
  · have hk2 : (kindB d "list" || kindB d "tuple") = false := by simpa using hk
    rw [hk2]
    refine iteF ?_
    rw [← e1]
    refine ⟨v, rfl, v, .ty "bool", _, _, _, rfl, .ty _, tyx_of hv1, kb, u, rfl, u, .ty "bool", _, _, _, rfl, .ty _, tyx_of hu1, kb, rfl, _, rfl, ?_⟩
    rw [decide_eq_true (Eq.refl _)]
    have dz : d.depth = 0 := by
      cases d with
      | list _ => exact nomatch (show (true : Bool) = false from hk2)
      | tuple _ => exact nomatch (show (true : Bool) = false from hk2)
      | dict _ => exact absurd hl (by simp [PyData.canLay0])
      | _ => rfl
    have nd := PyData.hasDict_of_canLay _ hl
    have sh := shp (by omega)
    refine iteT ⟨v, rfl, u, rfl, d, d, hv1.dp nd, hu1.dp nd, sh, sh, ?_⟩
    rw [SeqAt.eqv_refl _ hl]
    exact q H1 kp1
theorem ok_law_exact (T : Tx K mg a) : ∀ n, FnOk P w K mg base CX0 (n + 1) a.a_law_exact a.f_law_exact ["found", "due"] (spExact n) := by
  intro n
  induction n with
  | zero => exact ok_law_exactN T 0 (j := 0) (sp := fun _ _ _ _ => False) ⟨fun _ _ _ _ h => h.elim, fun _ _ _ _ _ _ _ _ _ _ _ _ _ h => h.elim⟩ (Nat.le_refl _) fun h => absurd h (Nat.lt_irrefl 0)
  | succ n ih => exact ok_law_exactN T (n + 1) ih (Nat.le_refl _) fun _ vs H Q E h => h
end

/-! ### the law's lines -/
section
variable {P : Program} {w : World} {K : PySem.W.Frag} {mg : Str → Option Value} {base : Heap} {a : Ad}
theorem natV_erase : ∀ (g : List Nat) (k : Nat), (natV g).eraseIdx k = natV (g.eraseIdx k)
  | [], _ => rfl
  | _ :: _, 0 => rfl
  | x :: r, k + 1 => congrArg (V.int (x : Int) :: ·) (natV_erase r k)
theorem erase_perm : ∀ (l : List Nat) (k : Nat) (h : k < l.length), (l[k] :: l.eraseIdx k).Perm l
  | x :: r, 0, _ => List.Perm.refl _
  | x :: r, k + 1, h => (List.Perm.swap x _ _).trans ((erase_perm r k (by simpa using h)).cons x)
theorem rg_natV (m : Nat) : rgV 0 (m : Int) = natV (List.range m) := by
  unfold rgV natV
  rw [Int.sub_zero, Int.toNat_natCast]
  exact List.map_congr_left fun i _ => by rw [Int.zero_add]
theorem nxV_at {v : V} {o : Option Nat} (h : v = nxV o) : (v = .non ∧ o = none) ∨ ∃ b : Nat, v = .int b ∧ o = some b := by
  cases o with
  | none => exact .inl ⟨h, rfl⟩
  | some b => exact .inr ⟨b, h, rfl⟩
def spLine : Sp := fun vs H Q _ => ∃ (p : Addr), vs = [.ref p] ∧ Jar H p 0 ∧
  ∀ (tq op sp : Addr) (o : List Nat) (s : List Int) (bg : Option Nat) (H' : Hp), Line o s bg → H' tq = some (.tup [.ref op, .ref sp, nxV bg]) → H' op = some (.lst (natV o)) → H' sp = some (.lst (s.map V.int)) → op ≠ p → sp ≠ p → Kp [p] H H' → Jar H' p 50 → Q (.ref tq) H'
theorem ok_law_line (T : Tx K mg a) : FnOk P w K mg base CX0 2 a.a_law_line a.f_law_line ["jar"] spLine := by
  have G_law_pull := ok_law_pull (P := P) (w := w) (base := base) T
  refine T.law_line.F.ok sc_law_line (fun vs H Q E h => ?_) (fun cdv A outer s H vs Q E hr h => ?_)
  · obtain ⟨p, rfl, _⟩ := h
    rfl
  obtain ⟨p, rfl, hj, q⟩ := h
  refine ⟨_, (pss_cons (ps_set (i := 1) sc_law_line.nd rfl (by first | exact .inl rfl | exact .inr rfl) (pe_op op_add pe_int (pe_call G_law_pull (hr.mono (by decide)) (by rfl) T.law_pull.g T.law_pull.F.kp T.law_pull.b .nil pass0 (pa_cons (pv 0) (pa_cons pe_int pa_nil)))))
      (pss_cons (ps_set (i := 2) sc_law_line.nd rfl (by first | exact .inl rfl | exact .inr rfl) (pe_listRg rfl (by rfl) T.n_list (prg_1 (by rfl) T.n_range (pv 1))))
      (pss_cons (ps_setLc (i := 3) (own := [("turn", 4)]) (g := gName 4) (by rfl) sc_law_line.nd rfl rfl (sw_true rfl rfl rfl (by decide +kernel)) (pi_range1 (by rfl) T.n_range (pa_cons (pv 1) pa_nil)) (blkOk_by (own := [("turn", 4)]) (N := s_law_line_N) (sc := defScope s_law_line) (by decide +kernel)) (fun _ _ _ _ _ => (pg_name (i := 4) sc_law_line.nd rfl (by first | exact .inl rfl | exact .inr rfl))) (fun _ _ _ _ _ => pts_nil) (fun _ _ _ _ _ => (pe_bmK (K := K) rfl PySem.F.plainAttrs_list PySem.F.slot_list_pop PySem.F.type_list_pop mt_popAt (pv 2) (pa_cons (pe_call G_law_pull (hr.mono (by decide)) (by rfl) T.law_pull.g T.law_pull.F.kp T.law_pull.b .nil pass0 (pa_cons (pv 0) (pa_cons (pe_callB (call_len_seqK (K := K) rfl) (by rfl) T.n_len (by decide +kernel) (pa_cons (pv 2) pa_nil)) pa_nil))) pa_nil))))
      (pss_cons (ps_set (i := 5) sc_law_line.nd rfl (by first | exact .inl rfl | exact .inr rfl) (pe_ix ix_list (pe_lst (pa_cons pe_int (pa_cons (pe_op op_powW pe_int pe_int) (pa_cons (pe_op op_powW pe_int pe_int) pa_nil)))) (pe_call G_law_pull (hr.mono (by decide)) (by rfl) T.law_pull.g T.law_pull.F.kp T.law_pull.b .nil pass0 (pa_cons (pv 0) (pa_cons pe_int pa_nil))) (fun _ _ => rfl)))
      (pss_cons (ps_setLc (i := 6) (own := [("k", 7)]) (g := gName 7) (by rfl) sc_law_line.nd rfl rfl (sw_true rfl rfl rfl (by decide +kernel)) (pi_list (pv 3)) (blkOk_by (own := [("k", 7)]) (N := s_law_line_N) (sc := defScope s_law_line) (by decide +kernel)) (fun _ _ _ _ _ => (pg_name (i := 7) sc_law_line.nd rfl (by first | exact .inl rfl | exact .inr rfl))) (fun _ _ _ _ _ => pts_nil) (fun _ _ _ _ _ => (pe_op op_add pe_int (pe_call G_law_pull (hr.mono (by decide)) (by rfl) T.law_pull.g T.law_pull.F.kp T.law_pull.b .nil pass0 (pa_cons (pv 0) (pa_cons (pv 5) pa_nil))))))
      (pss_cons (ps_set (i := 8) sc_law_line.nd rfl (by first | exact .inl rfl | exact .inr rfl) (pe_ix ix_list (pe_lst (pa_cons pe_non (pa_cons (pe_call G_law_pull (hr.mono (by decide)) (by rfl) T.law_pull.g T.law_pull.F.kp T.law_pull.b .nil pass0 (pa_cons (pv 0) (pa_cons (pe_callB (call_min2 rfl) (by rfl) T.n_min (by decide +kernel) (pa_cons pe_int (pa_cons (pv 1) pa_nil))) pa_nil))) (pa_cons (pe_call G_law_pull (hr.mono (by decide)) (by rfl) T.law_pull.g T.law_pull.F.kp T.law_pull.b .nil pass0 (pa_cons (pv 0) (pa_cons (pv 1) pa_nil))) pa_nil)))) (pe_call G_law_pull (hr.mono (by decide)) (by rfl) T.law_pull.g T.law_pull.F.kp T.law_pull.b .nil pass0 (pa_cons (pv 0) (pa_cons pe_int pa_nil))) (fun _ _ => rfl)))
      (pss_one (ps_ret (pe_tup (pa_cons (pv 3) (pa_cons (pv 6) (pa_cons (pv 8) pa_nil)))))))))))), ?_⟩
  have c58 : (0 : Int) < (10 : Int) ^ (58 : Int).toNat ∧ (10 : Int) ^ (58 : Int).toNat < 2 ^ 8000 := ⟨by decide, by decide⟩
  have small : ∀ n : Int, n ≤ 12 → n < 2 ^ 8000 := fun n h => by
    have : ((12 : Int)) < 2 ^ 8000 := by decide
    omega
  -- many = 2 + _law_pull(jar, 11)
  refine ⟨.ref p, rfl, p, 11, 0, rfl, by decide, by decide, hj, by decide, fun r1 H1 a1 b1 k1 j1 => ⟨_, _, rfl, rfl, ?_⟩⟩
  obtain ⟨m, em⟩ : ∃ m : Nat, (2 + r1 : Int) = m := ⟨(2 + r1).toNat, by omega⟩
  have hm1 : 2 ≤ m ∧ m ≤ 12 := by omega
  have hmV : some (some (V.int (2 + r1))) = some (some (V.int (m : Int))) := by rw [em]
  -- left = list(range(many))
  refine ⟨.int (2 + r1), rfl, _, rfl, RgOk.of_le (by decide) (by omega) (by decide) (by omega), fun lp nlp => ?_⟩
  rw [em, rg_natV]
  obtain ⟨H2, e2⟩ : ∃ H2, H2 = upd H1 lp (.lst (natV (List.range m))) := ⟨_, rfl⟩
  rw [← e2]
  have k2 : Kp [] H1 H2 := e2 ▸ Kp.new nlp
  have hl2 : H2 lp = some (.lst (natV (List.range m))) := by rw [e2]; exact upd_same
  have j2 := j1.kp k2 (by simp)
  have nlpp : p ≠ lp := fun e => by rw [← e] at nlp; exact j1.tr nlp
  -- order = [..]
  refine ⟨.int m, hmV, m, rfl, by omega, by omega, fun c nc => lc_range (n := m) (fun j H' => ∃ acc left : List Nat, H' c = some (.lst (natV acc)) ∧ H' lp = some (.lst (natV left)) ∧ acc.length = j ∧ (acc ++ left).Perm (List.range m) ∧ Jar H' p (1 + j) ∧ Kp [c, lp, p] H2 H') ⟨[], List.range m, upd_same, ?_, rfl, List.Perm.refl _, j2.new nc, Kp.new nc⟩ (fun j H' hj' hP => ?_) (fun H3 hP => ?_)⟩
  · rw [upd_ne (ne_of_none hl2 nc)]; exact hl2
  · obtain ⟨acc, left, hc, hl, hacc, hperm, jj, kk⟩ := hP
    have hlen : acc.length + left.length = m := by
      have := hperm.length_eq
      rw [List.length_append, List.length_range] at this
      exact this
    have nclp : c ≠ lp := fun e => by rw [e, hl2] at nc; cases nc
    have ncp : c ≠ p := fun e => by rw [e] at nc; exact j2.tr nc
    refine ⟨rfl, .ref lp, rfl, .inl ⟨rfl, _, SqL.of hl⟩, .ref p, rfl, .ref lp, rfl, lp, natV left, rfl, .inl (SqL.of hl), p, _, _, rfl, ?_, ?_, jj, by omega, fun r H4 a4 b4 k4 j4 => ?_⟩
    · rw [natV_len]; omega
    · rw [natV_len]; exact small _ (by omega)
    rw [natV_len] at b4
    have hr4 : r.toNat < left.length := by omega
    have hc4 := k4.lst (by simpa using ncp) hc
    have hl4 := k4.lst (by simpa using nlpp.symm) hl
    refine ⟨lp, natV left, r, r.toNat, .int (left[r.toNat] : Nat), rfl, rfl, hl4, by omega, by omega, seqIndex_at a4 (by rw [natV_len]; omega), natV_get (List.getElem?_eq_getElem hr4), ?_⟩
    rw [natV_erase]
    have hc5 : upd H4 lp (.lst (natV (left.eraseIdx r.toNat))) c = some (.lst (natV acc)) := by rw [upd_ne nclp]; exact hc4
    refine ⟨natV acc, hc5, by rw [natV_len]; exact Nat.lt_of_le_of_lt (m := 12) (by omega) (by decide), acc ++ [left[r.toNat]], left.eraseIdx r.toNat, by rw [← natV_app]; exact upd_same, ?_, by rw [List.length_append, hacc]; rfl, ?_, ?_, ?_⟩
    · rw [upd_ne nclp.symm]; exact upd_same
    · have h1 := erase_perm left r.toNat hr4
      rw [List.append_assoc]
      exact (List.Perm.append_left acc h1).trans hperm
    · exact ((j4.kp (Kp.put (S := [lp]) (by simp) hl4 fun _ z => by cases z) (by simpa using nlpp)).kp (Kp.put (S := [c]) (by simp) hc5 fun _ z => by cases z) (by simpa using ncp.symm)).mono (by omega)
    · exact kk.tr ((k4.wk fun x z => by rw [List.mem_singleton.mp z]; simp).tr ((Kp.put (by simp) hl4 fun _ z => by cases z).tr (Kp.put (by simp) hc5 fun _ z => by cases z)))
  obtain ⟨o, left, hc, hl, hol, hperm, j3, kk⟩ := hP
  have hleft : left = [] := by
    have := hperm.length_eq
    rw [List.length_append, List.length_range] at this
    exact List.eq_nil_of_length_eq_zero (by omega)
  subst hleft
  rw [List.append_nil] at hperm
  have hnd : o.Nodup := hperm.nodup_iff.mpr List.nodup_range
  have hlt : ∀ y ∈ o, y < m := fun y hy => List.mem_range.mp (hperm.mem_iff.mp hy)
  have ncp : c ≠ p := fun e => by rw [e] at nc; exact j2.tr nc
  have k23 : Kp [p] H1 H3 := Kp.drop nlp (Kp.drop (S := [lp, p]) (show H1 c = none by
    cases z : H1 c with
    | none => rfl
    | some u => exact absurd nc (k2.tr_ c (by rw [z]; exact fun q => by cases q))) (k2.of0.tr kk))
  have k03 := k1.tr k23
  -- wide = [..][..]
  refine ⟨_, _, rfl, rfl, ⟨by decide, by decide⟩, _, _, rfl, rfl, ⟨by decide, by decide⟩, by show 3 ≤ sizeLine; decide, fun l nl => ?_⟩
  refine ⟨.ref p, rfl, p, 3, _, rfl, by decide, by decide, j3.new nl, by omega, fun r4 H4 a4 b4 k4 j4 => ?_⟩
  obtain ⟨wv, hwv, hwm⟩ := at_mem (xs := [.int 9, .int ((10 : Int) ^ (9 : Int).toNat), .int ((10 : Int) ^ (58 : Int).toNat)]) a4 (by simpa using b4)
  refine ⟨l, _, r4, wv, rfl, rfl, SqL.of (k4.lst (j3.ni nl) upd_same), hwv, ?_⟩
  obtain ⟨wd, rfl, hw1, hw2⟩ : ∃ wd : Int, wv = .int wd ∧ 0 < wd ∧ wd ≤ 10 ^ 58 := by
    simp only [List.mem_cons, List.not_mem_nil, or_false] at hwm
    rcases hwm with rfl | rfl | rfl
    · exact ⟨_, rfl, by decide, by decide⟩
    · exact ⟨_, rfl, by decide, by decide⟩
    · exact ⟨_, rfl, by decide, by decide⟩
  have hw3 : wd < 2 ^ 8000 := Int.lt_of_le_of_lt hw2 c58.2
  have hc4 : H4 c = some (.lst (natV o)) := k4.lst (by simpa using ncp) (by rw [upd_ne (ne_of_none hc nl)]; exact hc)
  have k34 : Kp [p] H3 H4 := (Kp.new nl).tr k4
  -- sizes = [..]
  refine ⟨.ref c, rfl, c, rfl, ⟨_, SqL.of hc4⟩, fun D nD => lc_list (xs := natV o) (fun i H' => ∃ ss : List Int, H' D = some (.lst (ss.map V.int)) ∧ ss.length = i ∧ (∀ z ∈ ss, 1 ≤ z ∧ z ≤ 10 ^ 58) ∧ Jar H' p (14 + i) ∧ Kp [D, p] H4 H') ⟨[], upd_same, rfl, fun z hz => (by cases hz), (j4.new nD).mono (by omega), Kp.new nD⟩ (fun i H' _ hP => ?_) (fun i zv H' hz hP => ?_) (fun H5 hP => ?_)⟩
  · obtain ⟨_, _, _, _, _, k⟩ := hP
    refine SqL.of (k.lst ?_ hc4)
    intro z
    simp only [List.mem_cons, List.not_mem_nil, or_false] at z
    rcases z with z | z
    · rw [← z, hc4] at nD; cases nD
    · exact ncp z
  · obtain ⟨ss, hD, hsl, hsz, jD, kD⟩ := hP
    have hi : i < m := by
      have := (List.getElem?_eq_some_iff.mp hz).1
      rw [natV_len] at this; omega
    have nDp : D ≠ p := fun e => by rw [e] at nD; exact j4.tr nD
    refine ⟨rfl, .ref p, rfl, .int wd, rfl, p, wd, _, rfl, hw1, hw3, jD, by omega, fun r H6 a6 b6 k6 j6 => ⟨_, _, rfl, rfl, ?_⟩⟩
    have hD6 := k6.lst (by simpa using nDp) hD
    refine ⟨_, hD6, by rw [List.length_map]; exact Nat.lt_of_le_of_lt (m := 12) (by omega) (by decide), ss ++ [1 + r], by rw [List.map_append]; exact upd_same, by rw [List.length_append, hsl]; rfl, fun z hz => ?_, ?_, ?_⟩
    · rcases List.mem_append.mp hz with hz | hz
      · exact hsz z hz
      · rw [List.mem_singleton.mp hz]
        exact ⟨by omega, by omega⟩
    · exact (j6.kp (Kp.put (S := [D]) (by simp) hD6 fun _ z => by cases z) (by simpa using nDp.symm)).mono (by omega)
    · exact kD.tr ((k6.wk fun x z => by rw [List.mem_singleton.mp z]; simp).tr (Kp.put (by simp) hD6 fun _ z => by cases z))
  obtain ⟨ss, hD, hsl, hsz, j5, kD⟩ := hP
  rw [natV_len] at hsl
  have nDp : D ≠ p := fun e => by rw [e] at nD; exact j4.tr nD
  have nDc : c ≠ D := fun e => by rw [← e, hc4] at nD; cases nD
  have hc5 : H5 c = some (.lst (natV o)) := kD.lst (by simp [nDc, ncp]) hc4
  have k35 : Kp [p] H3 H5 := k34.tr (Kp.drop nD kD)
  rw [natV_len, hol] at j5
  -- begin = [..][..]
  obtain ⟨mn, hmn, hmn1, hmn2⟩ : ∃ mn : Int, mn = (if (m : Int) < 6 then (m : Int) else 6) ∧ 1 ≤ mn ∧ mn ≤ m := by
    refine ⟨_, rfl, ?_, ?_⟩ <;> split <;> omega
  refine ⟨.ref p, rfl, .int m, hmV, _, _, rfl, ?_⟩
  rw [← hmn]
  refine ⟨p, mn, _, rfl, by omega, small _ (by omega), j5, by omega, fun r6 H6 a6 b6 k6 j6 => ?_⟩
  refine ⟨.ref p, rfl, .int m, hmV, p, m, _, rfl, by omega, small _ (by omega), j6, by omega, fun r7 H7 a7 b7 k7 j7 => ?_⟩
  refine ⟨by show 3 ≤ sizeLine; decide, fun l2 nl2 => ?_⟩
  refine ⟨.ref p, rfl, p, 3, _, rfl, by decide, by decide, j7.new nl2, by omega, fun r8 H8 a8 b8 k8 j8 => ?_⟩
  obtain ⟨bv, hbv, hbm⟩ := at_mem (xs := [.non, .int r6, .int r7]) a8 (by simpa using b8)
  refine ⟨l2, _, r8, bv, rfl, rfl, SqL.of (k8.lst (j7.ni nl2) upd_same), hbv, ?_⟩
  obtain ⟨bg, rfl, hbg⟩ : ∃ bg : Option Nat, bv = nxV bg ∧ ∀ b, bg = some b → b < m := by
    simp only [List.mem_cons, List.not_mem_nil, or_false] at hbm
    rcases hbm with rfl | rfl | rfl
    · exact ⟨none, rfl, fun b h => by cases h⟩
    · obtain ⟨n, rfl⟩ := Int.eq_ofNat_of_zero_le a6
      exact ⟨some n, rfl, fun b h => by cases h; omega⟩
    · obtain ⟨n, rfl⟩ := Int.eq_ofNat_of_zero_le a7
      exact ⟨some n, rfl, fun b h => by cases h; omega⟩
  have k58 : Kp [p] H5 H8 := k6.tr (k7.tr ((Kp.new nl2).tr k8))
  have hc8 := k58.lst (by simpa using ncp) hc5
  have hD8 := k58.lst (by simpa using nDp) hD
  have hline : Line o ss bg := ⟨hnd, fun y hy => by rw [hol]; exact hlt y hy, by rw [hsl], by omega, by omega, hsz, fun b hb => by rw [hol]; exact hbg b hb⟩
  refine ⟨.ref c, rfl, .ref D, rfl, nxV bg, rfl, by show 3 ≤ sizeLine; decide, fun t nt => ?_⟩
  have kt : Kp [] H8 (upd H8 t (.tup [.ref c, .ref D, nxV bg])) := Kp.new nt
  exact q t c D o ss bg _ hline upd_same (kt.lst (by simp) hc8) (kt.lst (by simp) hD8) ncp nDp (k03.tr (k35.tr (k58.tr kt.of0))) ((j8.kp kt (by simp)).mono (by omega))
end

section
variable {P : Program} {w : World} {K : PySem.W.Frag} {mg : Str → Option Value} {base : Heap} {a : Ad}
def spAt : Sp := fun vs H Q _ => ∃ (u : V) (sp : Addr) (s : List Int) (i k : Nat), vs = [u, .ref sp, .int i, .int k] ∧ H sp = some (.lst (s.map V.int)) ∧ i ≤ k ∧ k ≤ s.length ∧ ∀ H', Kp [] H H' → Q (.int (sumS s i k)) H'
theorem cut_sum {s : List Int} {i k : Nat} (h : i ≤ k) (hk : k ≤ s.length) : cutV (s.map V.int) (some (i : Int)) (some (k : Int)) = ((s.drop i).take (k - i)).map V.int := by
  unfold cutV
  rw [show HT.sIx (s.map V.int).length 0 (some (i : Int)) = min i (s.map V.int).length from HT.sIx_nat _ _ i, show HT.sIx (s.map V.int).length (s.map V.int).length (some (k : Int)) = min k (s.map V.int).length from HT.sIx_nat _ _ k, List.length_map, Nat.min_eq_left (show i ≤ s.length by omega), Nat.min_eq_left (show k ≤ s.length from hk), ← List.map_drop, ← List.map_take]
theorem cut_rest {s : List Int} {i : Nat} (hk : i ≤ s.length) : cutV (s.map V.int) (some (i : Int)) none = (s.drop i).map V.int := by
  unfold cutV
  rw [show HT.sIx (s.map V.int).length 0 (some (i : Int)) = min i (s.map V.int).length from HT.sIx_nat _ _ i, HT.sIx_none, List.length_map, Nat.min_eq_left hk, ← List.map_drop, List.take_of_length_le (by rw [List.length_map, List.length_drop]; exact Nat.le_refl _)]
theorem ok_law_at (T : Tx K mg a) : FnOk P w K mg base CX0 1 a.a_law_at a.f_law_at ["order", "sizes", "start", "k"] spAt := by
  refine T.law_at.F.ok sc_law_at (fun vs H Q E h => ?_) (fun cdv A outer s H vs Q E hr h => ?_)
  · obtain ⟨u, sp, s, i, k, rfl, _⟩ := h
    rfl
  obtain ⟨u, sp, s, i, k, rfl, hs, hi, hk, q⟩ := h
  refine ⟨_, (pss_one (ps_ret (pe_callB (cr_sum rfl) (by rfl) T.n_sum (by decide +kernel) (pa_cons (pe_slice sl_list (pv 1) (po_some (pv 2)) (po_some (pv 3))) pa_nil)))), ?_⟩
  refine ⟨.ref sp, rfl, .int i, rfl, _, rfl, .int k, rfl, _, rfl, sp, _, rfl, SqL.of hs, fun p np => ?_⟩
  rw [cut_sum hi hk]
  exact ⟨p, _, rfl, SqL.of upd_same, q _ (Kp.new np)⟩
def optD : Option (Int × Option Nat) → PyData
  | none => .none
  | some p => lampD p
def spLand : Sp := fun vs H Q _ => ∃ (op sp : Addr) (bv : V) (o : List Nat) (s : List Int) (bg : Option Nat), vs = [.ref op, .ref sp, bv] ∧ bv = nxV bg ∧ H op = some (.lst (natV o)) ∧ H sp = some (.lst (s.map V.int)) ∧ Line o s bg ∧
  ∀ v' H', Tu H' v' (netD (netL o s bg)) → Kp [] H H' → Q v' H'
theorem ok_law_land (T : Tx K mg a) : FnOk P w K mg base CX0 1 a.a_law_land a.f_law_land ["order", "sizes", "begin"] spLand := by
  refine T.law_land.F.ok sc_law_land (fun vs H Q E h => ?_) (fun cdv A outer s H vs Q E hr h => ?_)
  · obtain ⟨op, sp, bv, o, s, bg, rfl, _⟩ := h
    rfl
  obtain ⟨op, sp, bv, o, s, bg, rfl, hbv, ho, hs, hl, q⟩ := h
  refine ⟨_, (pss_cons (ps_set (i := 3) sc_law_land.nd rfl (by first | exact .inl rfl | exact .inr rfl) (pe_op op_rep (pe_lst (pa_cons pe_non pa_nil)) (pe_callB call_len_seq (by rfl) T.n_len (by decide +kernel) (pa_cons (pv 0) pa_nil))))
      (pss_cons (ps_for PassesOwn.never rfl (pi_range1 (by rfl) T.n_range (pa_cons (pe_callB call_len_seq (by rfl) T.n_len (by decide +kernel) (pa_cons (pv 0) pa_nil)) pa_nil)) (pg_name (i := 4) sc_law_land.nd rfl (by first | exact .inl rfl | exact .inr rfl)) (pss_cons (ps_set (i := 5) sc_law_land.nd rfl (by first | exact .inl rfl | exact .inr rfl) (pe_ifExp (pt_cmpR op_isN (pv 2) pe_non (nomark _)) pe_non (pe_ix ix_list (pv 0) (pv 2) (fun _ _ => rfl))))
      (pss_cons (ps_if (pt_cmpR op_lt (pe_op op_add (pv 4) pe_int) (pe_callB call_len_seq (by rfl) T.n_len (by decide +kernel) (pa_cons (pv 0) pa_nil)) (nomark _)) (pss_one (ps_set (i := 5) sc_law_land.nd rfl (by first | exact .inl rfl | exact .inr rfl) (pe_ix ix_list (pv 0) (pe_op op_add (pv 4) pe_int) (fun _ _ => rfl)))) pss_nil)
      (pss_one (ps_asg (pe_tup (pa_cons (pe_ix ix_list (pv 1) (pv 4) (fun _ _ => rfl)) (pa_cons (pv 5) pa_nil))) (pg_sub (pv 3) (pe_ix ix_list (pv 0) (pv 4) (fun _ _ => rfl)) set_list))))))
      (pss_one (ps_ret (pe_callTy call_tuple_of (by rfl) T.n_tuple (by decide +kernel) (pa_cons (pv 3) pa_nil)))))), ?_⟩
  have h12 := hl.hi
  have h02 := hl.lo
  have lo_ : (natV o).length = o.length := natV_len o
  -- found = [None] * len(order)
  refine ⟨by show 1 ≤ sizeLine; decide, fun l0 nl0 => ?_⟩
  have k0 : Kp [] H (upd H l0 (.lst [.non])) := Kp.new nl0
  refine ⟨.ref op, rfl, op, natV o, rfl, .inl (SqL.of (k0.lst (by simp) ho)), l0, _, _, rfl, rfl, upd_same, by omega, by omega, ?_, fun q0 nq0 => ?_⟩
  · rw [lo_]
    exact Nat.le_trans (show [V.non].length * ((o.length : Int)).toNat ≤ 12 by show 1 * _ ≤ 12; omega) (by decide)
  have erep : (List.replicate (((natV o).length : Int)).toNat [V.non]).flatten = List.replicate o.length .non := by
    rw [lo_, Int.toNat_natCast]
    generalize o.length = m
    induction m with
    | zero => rfl
    | succ m ih => rw [List.replicate_succ, List.flatten_cons, ih]; rfl
  rw [erep]
  obtain ⟨H1, e1⟩ : ∃ H1, H1 = upd (upd H l0 (.lst [.non])) q0 (.lst (List.replicate o.length .non)) := ⟨_, rfl⟩
  rw [← e1]
  have k1 : Kp [] H H1 := e1 ▸ k0.tr (Kp.new nq0)
  have hq1 : H1 q0 = some (.lst (List.replicate o.length .non)) := by rw [e1]; exact upd_same
  have nq : H q0 = none := by
    cases z : H q0 with
    | none => rfl
    | some u => exact absurd nq0 (k0.tr_ q0 (by rw [z]; exact fun y => by cases y))
  have neo : op ≠ q0 := fun e => by rw [← e, ho] at nq; cases nq
  have nes : sp ≠ q0 := fun e => by rw [← e, hs] at nq; cases nq
  have ho1 := k1.lst (by simp) ho
  have hs1 := k1.lst (by simp) hs
  -- for k in range(len(order))
  refine ⟨.ref op, rfl, op, natV o, rfl, .inl (SqL.of ho1), o.length, by rw [lo_], by omega, by omega, for_range (n := o.length) (fun i σ H' => ∃ (o4 o5 : Option V) (ws : List V), σ = [some (.ref op), some (.ref sp), some bv, some (.ref q0), o4, o5] ∧ H' q0 = some (.lst ws) ∧ TuA H' ws ((setL o s bg i).map optD) ∧ Kp [q0] H1 H') ⟨none, none, _, rfl, hq1, ?_, .rfl'⟩ (fun k σ H2 hk hP => ?_) (fun σ H2 hP => ?_)⟩
  · show TuA H1 _ ((List.replicate o.length none).map optD)
    rw [List.map_replicate]
    exact TuA.rep .non _
  · obtain ⟨o4, o5, ws, rfl, hq2, hws, k2⟩ := hP
    rw [show (0 + (k : Int)) = (k : Int) by omega]
    have ho2 := k2.lst (by simpa using neo) ho1
    have hs2 := k2.lst (by simpa using nes) hs1
    have hok : o[k]? = some o[k] := List.getElem?_eq_getElem hk
    obtain ⟨hsk, _⟩ := size_at hl hk
    have hsv : (s.map V.int)[k]? = some (.int (s.getD k 1)) := by rw [List.getElem?_map, hsk]; rfl
    have hwl : ws.length = o.length := by rw [hws.len, List.length_map, setL_len]
    -- the last statement, there known
    have put : ∀ tv : V, tv = nxV (thereL o bg k) → ∀ tp, H2 tp = none → ∃ H3, H3 = upd (upd H2 tp (.tup [.int (s.getD k 1), tv])) q0 (.lst (ws.set o[k] (.ref tp))) ∧ upd H2 tp (.tup [.int (s.getD k 1), tv]) q0 = some (.lst ws) ∧
        TuA H3 (ws.set o[k] (.ref tp)) ((setL o s bg (k + 1)).map optD) ∧ Kp [q0] H1 H3 := by
      intro tv htv tp ntp
      have hq3 : upd H2 tp (.tup [.int (s.getD k 1), tv]) q0 = some (.lst ws) := by rw [upd_ne (ne_of_none hq2 ntp)]; exact hq2
      refine ⟨_, rfl, hq3, ?_, k2.tr ((Kp.new ntp).tr (Kp.put (by simp) hq3 fun _ z => by cases z))⟩
      have t23 : Kt H2 (upd (upd H2 tp (.tup [.int (s.getD k 1), tv])) q0 (.lst (ws.set o[k] (.ref tp)))) := (Kt.new ntp).tr (Kt.put hq3 fun _ z => by cases z)
      have htp : upd (upd H2 tp (.tup [.int (s.getD k 1), tv])) q0 (.lst (ws.set o[k] (.ref tp))) tp = some (.tup [.int (s.getD k 1), tv]) := by
        rw [upd_ne (fun e => by rw [e] at ntp; rw [ntp] at hq2; cases hq2)]
        exact upd_same
      have e : (setL o s bg (k + 1)).map optD = ((setL o s bg k).map optD).set o[k] (lampD (s.getD k 1, thereL o bg k)) := by
        show ((setL o s bg k).set (o.getD k 0) _).map optD = _
        rw [getD_of hok, List.map_set]
        rfl
      rw [e]
      refine TuA.set (.tup htp (.cons (.int _) (.cons ?_ .nil))) _ (hws.kt t23)
      rw [htv]
      cases thereL o bg k with
      | none => exact .non
      | some z => exact .int _
    have tail : ∀ tv : V, tv = nxV (thereL o bg k) → ∀ (X : Prop), ((∀ tp, H2 tp = none → ∃ H3, H3 = upd (upd H2 tp (.tup [.int (s.getD k 1), tv])) q0 (.lst (ws.set o[k] (.ref tp))) ∧ upd H2 tp (.tup [.int (s.getD k 1), tv]) q0 = some (.lst ws) ∧
        TuA H3 (ws.set o[k] (.ref tp)) ((setL o s bg (k + 1)).map optD) ∧ Kp [q0] H1 H3) → X) → X := fun tv h X hX => hX (put tv h)
    have oko : (natV o)[k]? = some (.int (o[k] : Nat)) := natV_get hok
    have hix : ixN ws.length (o[k] : Nat) = some o[k] := Evl.ixN_nat (by rw [hwl]; exact hl.lt _ (List.getElem_mem hk))
    -- there = None if begin is None else order[begin]
    rcases nxV_at hbv with ⟨rfl, hb⟩ | ⟨b, rfl, hb⟩
    · refine ⟨.non, rfl, rfl, _, rfl, iteT ?_⟩
      refine ⟨.int k, rfl, _, _, rfl, rfl, .ref op, rfl, op, natV o, rfl, .inl (SqL.of ho2), _, _, rfl, rfl, _, rfl, ?_⟩
      rw [lo_]
      by_cases hk1 : k + 1 < o.length
      · rw [decide_eq_true (show (k : Int) + 1 < (o.length : Int) by omega)]
        have h1 : o[k + 1]? = some o[k + 1] := List.getElem?_eq_getElem hk1
        refine iteT ⟨.ref op, rfl, .int k, rfl, _, _, rfl, rfl, op, natV o, _, .int (o[k + 1] : Nat), rfl, rfl, SqL.of ho2, by rw [show (k : Int) + 1 = ((k + 1 : Nat) : Int) by omega]; exact atI_nat (natV_get h1), ?_⟩
        refine tail (.int (o[k + 1] : Nat)) (by unfold thereL; rw [if_pos hk1, h1]; rfl) _ fun hput => ?_
        refine ⟨.ref sp, rfl, .int k, rfl, sp, _, k, .int (s.getD k 1), rfl, rfl, SqL.of hs2, atI_nat hsv, .int (o[k + 1] : Nat), rfl, by show 2 ≤ sizeLine; decide, fun tp ntp => ?_⟩
        obtain ⟨H3, e3, hq3, ha, hb3⟩ := hput tp ntp
        refine ⟨.ref q0, rfl, .ref op, rfl, .int k, rfl, op, natV o, k, .int (o[k] : Nat), rfl, rfl, SqL.of (by rw [upd_ne (ne_of_none ho2 ntp)]; exact ho2), atI_nat oko, q0, ws, _, o[k], rfl, rfl, hq3, hix, ?_⟩
        rw [← e3]
        exact ⟨_, _, _, rfl, by rw [e3]; exact upd_same, ha, hb3⟩
      · rw [decide_eq_false (show ¬ (k : Int) + 1 < (o.length : Int) by omega)]
        refine iteF ?_
        refine tail .non (by unfold thereL; rw [if_neg hk1, hb]; rfl) _ fun hput => ?_
        refine ⟨.ref sp, rfl, .int k, rfl, sp, _, k, .int (s.getD k 1), rfl, rfl, SqL.of hs2, atI_nat hsv, .non, rfl, by show 2 ≤ sizeLine; decide, fun tp ntp => ?_⟩
        obtain ⟨H3, e3, hq3, ha, hb3⟩ := hput tp ntp
        refine ⟨.ref q0, rfl, .ref op, rfl, .int k, rfl, op, natV o, k, .int (o[k] : Nat), rfl, rfl, SqL.of (by rw [upd_ne (ne_of_none ho2 ntp)]; exact ho2), atI_nat oko, q0, ws, _, o[k], rfl, rfl, hq3, hix, ?_⟩
        rw [← e3]
        exact ⟨_, _, _, rfl, by rw [e3]; exact upd_same, ha, hb3⟩
    · have hbl := hl.bg b hb
      have hob : o[b]? = some o[b] := List.getElem?_eq_getElem hbl
      refine ⟨.int b, rfl, rfl, _, rfl, iteF ?_⟩
      refine ⟨.ref op, rfl, .int b, rfl, op, natV o, b, .int (o[b] : Nat), rfl, rfl, SqL.of ho2, atI_nat (natV_get hob), ?_⟩
      refine ⟨.int k, rfl, _, _, rfl, rfl, .ref op, rfl, op, natV o, rfl, .inl (SqL.of ho2), _, _, rfl, rfl, _, rfl, ?_⟩
      rw [lo_]
      by_cases hk1 : k + 1 < o.length
      · rw [decide_eq_true (show (k : Int) + 1 < (o.length : Int) by omega)]
        have h1 : o[k + 1]? = some o[k + 1] := List.getElem?_eq_getElem hk1
        refine iteT ⟨.ref op, rfl, .int k, rfl, _, _, rfl, rfl, op, natV o, _, .int (o[k + 1] : Nat), rfl, rfl, SqL.of ho2, by rw [show (k : Int) + 1 = ((k + 1 : Nat) : Int) by omega]; exact atI_nat (natV_get h1), ?_⟩
        refine tail (.int (o[k + 1] : Nat)) (by unfold thereL; rw [if_pos hk1, h1]; rfl) _ fun hput => ?_
        refine ⟨.ref sp, rfl, .int k, rfl, sp, _, k, .int (s.getD k 1), rfl, rfl, SqL.of hs2, atI_nat hsv, .int (o[k + 1] : Nat), rfl, by show 2 ≤ sizeLine; decide, fun tp ntp => ?_⟩
        obtain ⟨H3, e3, hq3, ha, hb3⟩ := hput tp ntp
        refine ⟨.ref q0, rfl, .ref op, rfl, .int k, rfl, op, natV o, k, .int (o[k] : Nat), rfl, rfl, SqL.of (by rw [upd_ne (ne_of_none ho2 ntp)]; exact ho2), atI_nat oko, q0, ws, _, o[k], rfl, rfl, hq3, hix, ?_⟩
        rw [← e3]
        exact ⟨_, _, _, rfl, by rw [e3]; exact upd_same, ha, hb3⟩
      · rw [decide_eq_false (show ¬ (k : Int) + 1 < (o.length : Int) by omega)]
        refine iteF ?_
        refine tail (.int (o[b] : Nat)) (by unfold thereL; rw [if_neg hk1, hb]; show _ = nxV (o[b]?); rw [hob]; rfl) _ fun hput => ?_
        refine ⟨.ref sp, rfl, .int k, rfl, sp, _, k, .int (s.getD k 1), rfl, rfl, SqL.of hs2, atI_nat hsv, .int (o[b] : Nat), rfl, by show 2 ≤ sizeLine; decide, fun tp ntp => ?_⟩
        obtain ⟨H3, e3, hq3, ha, hb3⟩ := hput tp ntp
        refine ⟨.ref q0, rfl, .ref op, rfl, .int k, rfl, op, natV o, k, .int (o[k] : Nat), rfl, rfl, SqL.of (by rw [upd_ne (ne_of_none ho2 ntp)]; exact ho2), atI_nat oko, q0, ws, _, o[k], rfl, rfl, hq3, hix, ?_⟩
        rw [← e3]
        exact ⟨_, _, _, rfl, by rw [e3]; exact upd_same, ha, hb3⟩
  · obtain ⟨o4, o5, ws, rfl, hq2, hws, k2⟩ := hP
    rw [netL_some hl, List.map_map] at hws
    refine ⟨.ref q0, rfl, q0, ws, rfl, .inl ⟨SqL.of hq2, fun t nt => ?_⟩⟩
    refine q _ _ (.tup upd_same (hws.kt (Kt.new nt))) ((Kp.drop nq (k1.of0.tr k2)).tr (Kp.new nt))
end

section
variable {P : Program} {w : World} {K : PySem.W.Frag} {mg : Str → Option Value} {base : Heap} {a : Ad}
theorem place_lay (o : Option (Nat × Int)) : (placeD o).canLay0 = true ∧ wdB (placeD o) = true ∧ (placeD o).depth ≤ 7 := by
  rcases o with _ | ⟨f, l⟩
  · exact ⟨rfl, rfl, by decide⟩
  · exact ⟨rfl, rfl, by show 1 ≤ 7; decide⟩
theorem log_ok {m : Int} (h : 0 ≤ m) (h2 : m < 2 ^ 8000) : m.natAbs.log2 < 9000 := by
  by_cases h0 : m = 0
  · rw [h0]; decide
  · exact big_log (by omega) h2
theorem on_gone {N : Net} (o : NetOk N) {b t g : Int} {x y : Nat} (hx : x < N.length) (h : OnWay N b x t y) (h0 : 0 ≤ g) (h1 : g < burnOf N y) : placeL N (t + g) (lightsL N b x) = some (y, g) := by
  have := on_place o hx (r := (t, y)) (a := t + g) h (by show t ≤ t + g; omega) (by show t + g < t + burnOf N y; omega)
  rw [show t + g - ((t, y) : Int × Nat).1 = g by show t + g - t = g; omega] at this
  exact this
def spRight (TB TB2 : Addr) : Sp := fun vs H Q _ => ∃ (p : Addr), vs = [.ref p] ∧ Jar H p 0 ∧ GxR.TabG H TB ∧ GxR.TabG H TB2 ∧ ∀ H', Kp [p] H H' → Q (.bl true) H'
theorem ok_law_right (T : Tx K mg a) (TB : GxR.TabB base mg a.cd_is_net a.tb_is_net) (TB2 : GxR.TabB base mg a.cd_lights_of a.tb_lights_of) : FnOk P w K mg base CX0 13 a.a_law_right a.f_law_right ["jar"] (spRight a.tb_is_net a.tb_lights_of) := by
  have G_law_line := ok_law_line (P := P) (w := w) (base := base) T
  have G_law_land := ok_law_land (P := P) (w := w) (base := base) T
  have G_law_at := ok_law_at (P := P) (w := w) (base := base) T
  have G_law_pull := ok_law_pull (P := P) (w := w) (base := base) T
  have G_law_exact := ok_law_exact (P := P) (w := w) (base := base) T 7
  have G_place_alone := ok_place_alone (P := P) (w := w) (base := base) T TB TB2
  refine T.law_right.F.ok sc_law_right (fun vs H Q E h => ?_) (fun cdv A outer s0 H vs Q E hr h => ?_)
  · obtain ⟨p, rfl, _⟩ := h
    rfl
  obtain ⟨p, rfl, hj, ht, ht2, q⟩ := h
  refine ⟨_, (pss_cons (ps_asg (pe_call G_law_line (hr.mono (by decide)) (by rfl) T.law_line.g T.law_line.F.kp T.law_line.b .nil pass0 (pa_cons (pv 0) pa_nil)) (pg_tup (by rfl) (pgs_cons (pg_name (i := 1) sc_law_right.nd rfl (by first | exact .inl rfl | exact .inr rfl)) (pgs_cons (pg_name (i := 2) sc_law_right.nd rfl (by first | exact .inl rfl | exact .inr rfl)) (pgs_cons (pg_name (i := 3) sc_law_right.nd rfl (by first | exact .inl rfl | exact .inr rfl)) pgs_nil)))))
      (pss_cons (ps_set (i := 4) sc_law_right.nd rfl (by first | exact .inl rfl | exact .inr rfl) (pe_call G_law_land (hr.mono (by decide)) (by rfl) T.law_land.g T.law_land.F.kp T.law_land.b .nil pass0 (pa_cons (pv 1) (pa_cons (pv 2) (pa_cons (pv 3) pa_nil)))))
      (pss_cons (ps_set (i := 5) sc_law_right.nd rfl (by first | exact .inl rfl | exact .inr rfl) (pe_call G_law_pull (hr.mono (by decide)) (by rfl) T.law_pull.g T.law_pull.F.kp T.law_pull.b .nil pass0 (pa_cons (pv 0) (pa_cons (pe_callB call_len_seq (by rfl) T.n_len (by decide +kernel) (pa_cons (pv 1) pa_nil)) pa_nil))))
      (pss_cons (ps_set (i := 6) sc_law_right.nd rfl (by first | exact .inl rfl | exact .inr rfl) (pe_call G_law_pull (hr.mono (by decide)) (by rfl) T.law_pull.g T.law_pull.F.kp T.law_pull.b .nil pass0 (pa_cons (pv 0) (pa_cons (pe_ix ix_list (pe_lst (pa_cons pe_int (pa_cons (pe_op op_powW pe_int pe_int) pa_nil))) (pe_call G_law_pull (hr.mono (by decide)) (by rfl) T.law_pull.g T.law_pull.F.kp T.law_pull.b .nil pass0 (pa_cons (pv 0) (pa_cons pe_int pa_nil))) (fun _ _ => rfl)) pa_nil))))
      (pss_cons (ps_set (i := 7) sc_law_right.nd rfl (by first | exact .inl rfl | exact .inr rfl) (pe_tup (pa_cons (pv 6) (pa_cons (pe_ix ix_list (pv 1) (pv 5) (fun _ _ => rfl)) pa_nil))))
      (C8.pss_cut (ps_if (PW.pt (pw_and (pt_cmpR op_gt (pv 6) pe_int (nomark _)) (pw_and1 (pt_cmpR op_notN (pe_call G_place_alone (hr.mono (by decide)) (by rfl) T.place_alone.g T.place_alone.F.kp T.place_alone.b .nil pass0 (pa_cons (pv 4) (pa_cons (pv 7) (pa_cons (pe_op op_sub (pv 6) pe_int) pa_nil)))) pe_non (nomark _))))) (pss_one (ps_ret pe_bl)) pss_nil)
      (pss_cons (ps_for PassesOwn.never rfl (pi_range2 (by rfl) T.n_range (pa_cons (pv 5) (pa_cons (pe_callB call_len_seq (by rfl) T.n_len (by decide +kernel) (pa_cons (pv 1) pa_nil)) pa_nil))) (pg_name (i := 8) sc_law_right.nd rfl (by first | exact .inl rfl | exact .inr rfl)) (pss_cons (ps_set (i := 9) sc_law_right.nd rfl (by first | exact .inl rfl | exact .inr rfl) (pe_op op_add (pv 6) (pe_call G_law_at (hr.mono (by decide)) (by rfl) T.law_at.g T.law_at.F.kp T.law_at.b .nil pass0 (pa_cons (pv 1) (pa_cons (pv 2) (pa_cons (pv 5) (pa_cons (pv 8) pa_nil)))))))
      (pss_cons (ps_set (i := 10) sc_law_right.nd rfl (by first | exact .inl rfl | exact .inr rfl) pe_int)
      (C8.pss_cut (ps_if (PW.pt (pw_and (pt_cmpR op_notN (pv 3) pe_non (nomark _)) (pw_and1 (pt_cmpR op_ge (pv 8) (pv 3) (nomark _))))) (pss_cons (ps_set (i := 11) sc_law_right.nd rfl (by first | exact .inl rfl | exact .inr rfl) (pe_callB (cr_sum rfl) (by rfl) T.n_sum (by decide +kernel) (pa_cons (pe_slice sl_list (pv 2) (po_some (pv 3)) po_none) pa_nil)))
      (pss_one (ps_set (i := 10) sc_law_right.nd rfl (by first | exact .inl rfl | exact .inr rfl) (pe_op op_mulW (pe_call G_law_pull (hr.mono (by decide)) (by rfl) T.law_pull.g T.law_pull.F.kp T.law_pull.b .nil pass0 (pa_cons (pv 0) (pa_cons (pe_op op_fdivW (pe_op op_sub (pe_op op_powW pe_int pe_int) (pv 9)) (pv 11)) pa_nil))) (pv 11))))) pss_nil)
      (pss_one (ps_for PassesOwn.never rfl (pi_list (pe_lst (pa_cons pe_int (pa_cons (pe_op op_sub (pe_ix ix_list (pv 2) (pv 8) (fun _ _ => rfl)) pe_int) (pa_cons (pe_call G_law_pull (hr.mono (by decide)) (by rfl) T.law_pull.g T.law_pull.F.kp T.law_pull.b .nil pass0 (pa_cons (pv 0) (pa_cons (pe_ix ix_list (pv 2) (pv 8) (fun _ _ => rfl)) pa_nil))) pa_nil))))) (pg_name (i := 12) sc_law_right.nd rfl (by first | exact .inl rfl | exact .inr rfl)) (pss_cons (ps_if (pt_not (pt_val (pe_call G_law_exact (hr.mono (by decide)) (by rfl) T.law_exact.g T.law_exact.F.kp T.law_exact.b .nil pass0 (pa_cons (pe_call G_place_alone (hr.mono (by decide)) (by rfl) T.place_alone.g T.place_alone.F.kp T.place_alone.b .nil pass0 (pa_cons (pv 4) (pa_cons (pv 7) (pa_cons (pe_op op_add (pv 9) (pv 12)) pa_nil)))) (pa_cons (pe_tup (pa_cons (pe_ix ix_list (pv 1) (pv 8) (fun _ _ => rfl)) (pa_cons (pv 12) pa_nil))) pa_nil))))) (pss_one (ps_ret pe_bl)) pss_nil)
      (pss_one (ps_if (pt_not (pt_val (pe_call G_law_exact (hr.mono (by decide)) (by rfl) T.law_exact.g T.law_exact.F.kp T.law_exact.b .nil pass0 (pa_cons (pe_call G_place_alone (hr.mono (by decide)) (by rfl) T.place_alone.g T.place_alone.F.kp T.place_alone.b .nil pass0 (pa_cons (pv 4) (pa_cons (pv 7) (pa_cons (pe_op op_add (pe_op op_add (pv 9) (pv 10)) (pv 12)) pa_nil)))) (pa_cons (pe_tup (pa_cons (pe_ix ix_list (pv 1) (pv 8) (fun _ _ => rfl)) (pa_cons (pv 12) pa_nil))) pa_nil))))) (pss_one (ps_ret pe_bl)) pss_nil)))))))))
      (pss_cons (ps_set (i := 13) sc_law_right.nd rfl (by first | exact .inl rfl | exact .inr rfl) (pe_op op_add (pv 6) (pe_call G_law_at (hr.mono (by decide)) (by rfl) T.law_at.g T.law_at.F.kp T.law_at.b .nil pass0 (pa_cons (pv 1) (pa_cons (pv 2) (pa_cons (pv 5) (pa_cons (pe_callB call_len_seq (by rfl) T.n_len (by decide +kernel) (pa_cons (pv 1) pa_nil)) pa_nil)))))))
      (pss_cons (ps_if (pt_cmpR op_isN (pv 3) pe_non (nomark _)) (pss_one (ps_ret (pe_and (pe_cmpR op_isN (pe_call G_place_alone (hr.mono (by decide)) (by rfl) T.place_alone.g T.place_alone.F.kp T.place_alone.b .nil pass0 (pa_cons (pv 4) (pa_cons (pv 7) (pa_cons (pv 13) pa_nil)))) pe_non (nomark _)) (pe_one (pe_cmpR op_isN (pe_call G_place_alone (hr.mono (by decide)) (by rfl) T.place_alone.g T.place_alone.F.kp T.place_alone.b .nil pass0 (pa_cons (pv 4) (pa_cons (pv 7) (pa_cons (pe_op op_add (pv 13) pe_int) pa_nil)))) pe_non (nomark _)))))) pss_nil)
      (pss_cons (ps_if (pt_cmpR op_ge (pv 5) (pv 3) (nomark _)) (pss_cons (ps_set (i := 13) sc_law_right.nd rfl (by first | exact .inl rfl | exact .inr rfl) (pe_op op_add (pv 6) (pe_callB (cr_sum rfl) (by rfl) T.n_sum (by decide +kernel) (pa_cons (pe_slice sl_list (pv 2) (po_some (pv 3)) po_none) pa_nil))))
      (pss_one (ps_ret (pe_call G_law_exact (hr.mono (by decide)) (by rfl) T.law_exact.g T.law_exact.F.kp T.law_exact.b .nil pass0 (pa_cons (pe_call G_place_alone (hr.mono (by decide)) (by rfl) T.place_alone.g T.place_alone.F.kp T.place_alone.b .nil pass0 (pa_cons (pv 4) (pa_cons (pv 7) (pa_cons (pv 13) pa_nil)))) (pa_cons (pe_tup (pa_cons (pe_ix ix_list (pv 1) (pv 5) (fun _ _ => rfl)) (pa_cons pe_int pa_nil))) pa_nil)))))) pss_nil)
      (pss_one (ps_ret (pe_call G_law_exact (hr.mono (by decide)) (by rfl) T.law_exact.g T.law_exact.F.kp T.law_exact.b .nil pass0 (pa_cons (pe_call G_place_alone (hr.mono (by decide)) (by rfl) T.place_alone.g T.place_alone.F.kp T.place_alone.b .nil pass0 (pa_cons (pv 4) (pa_cons (pv 7) (pa_cons (pv 13) pa_nil)))) (pa_cons (pe_tup (pa_cons (pe_ix ix_list (pv 1) (pv 3) (fun _ _ => rfl)) (pa_cons pe_int pa_nil))) pa_nil))))))))))))))), ?_⟩
  have p58 : (10 : Int) ^ 58 < 2 ^ 8000 := by decide
  have c59 : (0 : Int) < (10 : Int) ^ (59 : Int).toNat ∧ (10 : Int) ^ (59 : Int).toNat < 2 ^ 8000 ∧ (10 : Int) ^ (59 : Int).toNat = 10 * 10 ^ 58 := ⟨by decide, by decide, by decide⟩
  have c60 : (10 : Int) ^ (60 : Int).toNat < 2 ^ 8000 ∧ (10 : Int) ^ (60 : Int).toNat = 100 * 10 ^ 58 := ⟨by decide, by decide⟩
  have p0 : (0 : Int) < 10 ^ 58 := by decide
  have small : ∀ n : Int, n ≤ 12 → n < 2 ^ 8000 := fun n h => by
    have : ((12 : Int)) < 2 ^ 8000 := by decide
    omega
  -- order, sizes, begin = _law_line(jar)
  refine ⟨.ref p, rfl, p, rfl, hj, fun tq op sp o s bg H1 hl htq hop hsp nop nsp k1 j1 => ?_⟩
  refine ⟨tq, _, rfl, SqT.of htq, rfl, _, _, rfl, _, _, rfl, _, _, rfl, rfl, ?_⟩
  -- land = _law_land(..)
  refine ⟨.ref op, rfl, .ref sp, rfl, nxV bg, rfl, op, sp, nxV bg, o, s, bg, rfl, rfl, hop, hsp, hl, fun vn H2 hd2 k2 => ?_⟩
  have j2 := j1.kp k2 (by simp)
  have ho2 := k2.lst (by simp) hop
  have hs2 := k2.lst (by simp) hsp
  have h12 := hl.hi
  have h02 := hl.lo
  have lo_ : (natV o).length = o.length := natV_len o
  obtain ⟨N, eN⟩ : ∃ N, N = netL o s bg := ⟨_, rfl⟩
  have ok : NetOk N := by rw [eN]; exact netL_ok hl
  have hNl : N.length = o.length := by rw [eN]; exact netL_len
  have hsl := hl.len
  rw [← eN] at hd2
  -- start = _law_pull(jar, len(order))
  refine ⟨.ref p, rfl, .ref op, rfl, op, natV o, rfl, .inl (SqL.of ho2), p, _, _, rfl, by rw [lo_]; omega, by rw [lo_]; exact small _ (by omega), j2, by omega, fun r3 H3 a3 b3 k3 j3 => ?_⟩
  rw [lo_] at b3
  obtain ⟨st, rfl⟩ := Int.eq_ofNat_of_zero_le a3
  have hst : st < o.length := by omega
  -- first = _law_pull(jar, [..][..])
  refine ⟨.ref p, rfl, _, _, rfl, rfl, ⟨by decide, by decide⟩, by show 2 ≤ sizeLine; decide, fun l nl => ?_⟩
  refine ⟨.ref p, rfl, p, 2, _, rfl, by decide, by decide, j3.new nl, by omega, fun r4 H4 a4 b4 k4 j4 => ?_⟩
  obtain ⟨mv, hmv, hmm⟩ := at_mem (xs := [.int 30, .int ((10 : Int) ^ (59 : Int).toNat)]) a4 (by simpa using b4)
  refine ⟨l, _, r4, mv, rfl, rfl, SqL.of (k4.lst (j3.ni nl) upd_same), hmv, ?_⟩
  obtain ⟨mt, rfl, hm1, hm2⟩ : ∃ mt : Int, mv = .int mt ∧ 0 < mt ∧ mt ≤ 10 * 10 ^ 58 := by
    simp only [List.mem_cons, List.not_mem_nil, or_false] at hmm
    rcases hmm with rfl | rfl
    · exact ⟨_, rfl, by decide, by decide⟩
    · exact ⟨_, rfl, c59.1, by rw [c59.2.2]; exact Int.le_refl _⟩
  refine ⟨p, mt, _, rfl, hm1, by have := c59.2.1; rw [c59.2.2] at this; omega, j4, by omega, fun fb H5 a5 b5 k5 j5 => ?_⟩
  have k25 : Kp [p] H2 H5 := k3.tr ((Kp.new nl).tr (k4.tr k5))
  have ho5 := k25.lst (by simpa using nop) ho2
  have hs5 := k25.lst (by simpa using nsp) hs2
  obtain ⟨x, ex⟩ : ∃ x, x = o[st] := ⟨_, rfl⟩
  have hox : o[st]? = some x := by rw [ex]; exact List.getElem?_eq_getElem hst
  have hxl : x < o.length := hl.lt x (List.mem_of_getElem? hox)
  have hxN : x < N.length := by omega
  -- kindling = (first, order[start])
  refine ⟨.int fb, rfl, .ref op, rfl, .int st, rfl, op, natV o, st, .int x, rfl, rfl, SqL.of ho5, atI_nat (natV_get hox), by show 2 ≤ sizeLine; decide, fun kp nkp => ?_⟩
  obtain ⟨H6, e6⟩ : ∃ H6, H6 = upd H5 kp (.tup [.int fb, .int x]) := ⟨_, rfl⟩
  rw [← e6]
  have k56 : Kp [] H5 H6 := e6 ▸ Kp.new nkp
  have hu6 : Tu H6 (.ref kp) (sparkD fb x) := by rw [e6]; exact .tup upd_same (.cons (.int _) (.cons (.int _) .nil))
  have j6 := j5.kp k56 (by simp)
  have k26 := k25.tr k56.of0
  have hd6 : Tu H6 vn (netD N) := hd2.kt (k26.kt j2.nt)
  have ho6 := k56.lst (by simp) ho5
  have hs6 := k56.lst (by simp) hs5
  have k06 : Kp [p] H H6 := k1.tr (k2.of0.tr k26)
  have ht6 := k06.tab _ ht
  have ht26 := k06.tab _ ht2
  have pull0 : ∀ n : Nat, o.length ≤ n → True := fun _ _ => trivial
  -- asking where it is
  have ask : ∀ {Hx : Hp}, Kp [p] H6 Hx → Tu Hx vn (netD N) ∧ Tu Hx (.ref kp) (sparkD fb x) ∧ GxR.TabG Hx a.tb_is_net ∧ GxR.TabG Hx a.tb_lights_of ∧ Hx op = some (.lst (natV o)) ∧ Hx sp = some (.lst (s.map V.int)) := fun {Hx} k =>
    ⟨hd6.kt (k.kt j6.nt), hu6.kt (k.kt j6.nt), k.tab _ ht6, k.tab _ ht26, k.lst (by simpa using nop) ho6, k.lst (by simpa using nsp) hs6⟩
  have onStart : OnWay N fb x fb x := onWay_start fb x
  -- if first > 0 and ..
  refine ⟨fun σ' H' => σ' = [some (.ref p), some (.ref op), some (.ref sp), some (nxV bg), some vn, some (.int st), some (.int fb), some (.ref kp), none, none, none, none, none, none] ∧ Kp [p] H6 H' ∧ Jar H' p 60, ?_, fun σ7 H7 hM => ?_⟩
  · refine ⟨.int fb, rfl, _, _, rfl, rfl, _, rfl, ?_⟩
    by_cases hf0 : 0 < fb
    · rw [decide_eq_true hf0]
      refine iteT ⟨vn, rfl, .ref kp, rfl, .int fb, rfl, _, _, rfl, rfl, vn, .ref kp, fb - 1, N, fb, x, rfl, hd6, ok, hu6, a5, hxN, by omega, ht6, ht26, fun v7 H7 t7 k7 => ?_⟩
      rw [place_before ok hxN (show fb - 1 < fb by omega)] at t7
      cases t7
      exact ⟨rfl, _, rfl, iteF ⟨rfl, k7.of0, (j6.kp k7 (by simp)).mono (by omega)⟩⟩
    · rw [decide_eq_false hf0]
      exact iteF (iteF ⟨rfl, .rfl', j6.mono (by omega)⟩)
  obtain ⟨rfl, k7, j7⟩ := hM
  obtain ⟨_, _, _, _, ho7, hs7⟩ := ask k7
  -- for k in range(start, len(order))
  refine ⟨.int st, rfl, .ref op, rfl, op, natV o, rfl, .inl (SqL.of ho7), _, _, rfl, ⟨by omega, by omega, by omega, by omega⟩, for_range (lo := (st : Int)) (n := (((natV o).length : Int) - (st : Int)).toNat) (fun i σ H' => ∃ (o8 o9 o10 o11 o12 : Option V), σ = [some (.ref p), some (.ref op), some (.ref sp), some (nxV bg), some vn, some (.int st), some (.int fb), some (.ref kp), o8, o9, o10, o11, o12, none] ∧ Kp [p] H6 H' ∧ Jar H' p (60 + 2 * i)) ⟨none, none, none, none, none, rfl, k7, j7⟩ (fun i σ H8 hi hP => ?_) (fun σ H8 hP => ?_)⟩
  · obtain ⟨o8, o9, o10, o11, o12, rfl, k8, j8⟩ := hP
    rw [show (st : Int) + (i : Int) = ((st + i : Nat) : Int) by omega]
    have hk : st + i < o.length := by omega
    obtain ⟨k, ek⟩ : ∃ k, k = st + i := ⟨_, rfl⟩
    rw [← ek] at hk ⊢
    obtain ⟨_, _, _, _, ho8, hs8⟩ := ask k8
    have hok : o[k]? = some o[k] := List.getElem?_eq_getElem hk
    obtain ⟨y, ey⟩ : ∃ y, y = o[k] := ⟨_, rfl⟩
    rw [← ey] at hok
    obtain ⟨hsk, hz1, hz2⟩ := size_at hl hk
    have hsv : (s.map V.int)[k]? = some (.int (s.getD k 1)) := by rw [List.getElem?_map, hsk]; rfl
    have hby : burnOf N y = s.getD k 1 := by rw [eN]; exact line_burn hl hok
    have on0 : OnWay N fb x (fb + sumS s st k) y := by
      have := line_go hl hxl hox (by rw [← eN]; exact onStart) i y (by rw [← ek]; exact hok)
      rw [← ek, ← eN] at this
      exact this
    have bnd : (0 : Int) ≤ sumS s st k ∧ sumS s st k ≤ 11 * 10 ^ 58 := by
      have := sumS_bound hl (i := st) i (by omega)
      rw [← ek] at this
      have hi11 : (i : Int) ≤ 11 := by omega
      have : (i : Int) * 10 ^ 58 ≤ 11 * 10 ^ 58 := Int.mul_le_mul_of_nonneg_right hi11 (by omega)
      omega
    obtain ⟨lit, elit⟩ : ∃ lit, lit = fb + sumS s st k := ⟨_, rfl⟩
    -- lit = first + _law_at(..)
    refine ⟨.int fb, rfl, .ref op, rfl, .ref sp, rfl, .int st, rfl, .int k, rfl, .ref op, sp, s, st, k, rfl, hs8, by omega, by omega, fun H9 k9 => ⟨_, _, rfl, rfl, ?_⟩⟩
    have k69 := k8.tr k9.of0
    have j9 := j8.kp k9 (by simp)
    obtain ⟨hn9, hu9, hta9, htb9, ho9, hs9⟩ := ask k69
    have hlV : some (some (V.int (fb + sumS s st k))) = some (some (V.int lit)) := by rw [elit]
    rw [← elit] at on0
    have hlit : 0 ≤ lit ∧ lit ≤ 21 * 10 ^ 58 := by omega
    -- laps = 0; if begin is not None and k >= begin
    refine ⟨fun σ' H' => ∃ (lp : Int) (o11 : Option V), σ' = [some (.ref p), some (.ref op), some (.ref sp), some (nxV bg), some vn, some (.int st), some (.int fb), some (.ref kp), some (.int k), some (.int lit), some (.int lp), o11, o12, none] ∧ Kp [p] H6 H' ∧ Jar H' p (61 + 2 * i) ∧ 0 ≤ lp ∧ OnWay N fb x (lit + lp) y, ?_, fun σ' HA hM => ?_⟩
    · have noLap : ∀ lp : Int, lp = 0 → OnWay N fb x (lit + lp) y := fun lp h => by rw [h, Int.add_zero]; exact on0
      rcases nxV_at (v := nxV bg) rfl with ⟨hb1, hb2⟩ | ⟨b, hb1, hb2⟩
      · refine ⟨nxV bg, rfl, rfl, _, rfl, ?_⟩
        rw [hb1]
        exact iteF (iteF ⟨0, o11, by rw [elit]; rfl, k69, j9.mono (by omega), Int.le_refl _, noLap 0 rfl⟩)
      · refine ⟨nxV bg, rfl, rfl, _, rfl, ?_⟩
        rw [hb1]
        refine iteT ⟨.int k, rfl, .int b, hb1 ▸ rfl, _, _, rfl, rfl, _, rfl, ?_⟩
        by_cases hbk : b ≤ k
        rotate_left
        · rw [decide_eq_false (show ¬ (b : Int) ≤ (k : Int) by omega)]
          exact iteF ⟨0, o11, by rw [elit]; rfl, k69, j9.mono (by omega), Int.le_refl _, noLap 0 rfl⟩
        rw [decide_eq_true (show (b : Int) ≤ (k : Int) by omega)]
        have hbl := hl.bg b hb2
        -- lap = sum(sizes[begin:])
        refine iteT ⟨.ref sp, rfl, .int b, hb1 ▸ rfl, _, rfl, sp, _, rfl, SqL.of hs9, fun p1 n1 => ?_⟩
        rw [cut_rest (by omega)]
        refine ⟨p1, _, rfl, SqL.of upd_same, ?_⟩
        obtain ⟨HB, eB⟩ : ∃ HB, HB = upd H9 p1 (.lst ((s.drop b).map V.int)) := ⟨_, rfl⟩
        rw [← eB]
        have k9B : Kp [] H9 HB := eB ▸ Kp.new n1
        have jB := j9.kp k9B (by simp)
        obtain ⟨lap, elap⟩ : ∃ lap, lap = (s.drop b).sum := ⟨_, rfl⟩
        rw [← elap]
        have hlapS : lap = sumS s b o.length := by
          rw [elap]
          unfold sumS
          rw [List.take_of_length_le (by rw [List.length_drop]; omega)]
        have lb : 1 ≤ lap ∧ lap ≤ 12 * 10 ^ 58 := by
          have h1 := sumS_bound hl (i := b) (o.length - b) (by omega)
          rw [show b + (o.length - b) = o.length by omega, ← hlapS] at h1
          have h2 : ((o.length - b : Nat) : Int) ≤ 12 := by omega
          have : ((o.length - b : Nat) : Int) * 10 ^ 58 ≤ 12 * 10 ^ 58 := Int.mul_le_mul_of_nonneg_right h2 (by omega)
          omega
        have qb : 1 ≤ ((10 : Int) ^ (60 : Int).toNat - lit) / lap ∧ ((10 : Int) ^ (60 : Int).toNat - lit) / lap < 2 ^ 8000 := by
          have h0 : (0 : Int) < lap := by omega
          constructor
          · refine (Int.le_ediv_iff_mul_le h0).mpr ?_
            rw [Int.one_mul, c60.2]
            omega
          · refine Int.lt_of_le_of_lt (Int.ediv_le_self _ (by rw [c60.2]; omega)) ?_
            have := c60.1
            omega
        -- laps = _law_pull(..) * lap
        refine ⟨.ref p, rfl, _, _, rfl, rfl, ⟨by decide, by decide⟩, .int lit, hlV, _, _, rfl, rfl, .int lap, rfl, _, _, rfl, rfl, ⟨by omega, log_ok (by omega) (by omega)⟩, p, ((10 : Int) ^ (60 : Int).toNat - lit) / lap, _, rfl, by omega, qb.2, jB, by omega, fun r HC aC bC kC jC => ?_⟩
        refine ⟨.int lap, rfl, _, _, rfl, rfl, ?_, ?_⟩
        · show r.natAbs.log2 + lap.natAbs.log2 < 1000000
          have h1 := log_ok aC (by omega)
          have h2 := log_ok (m := lap) (by omega) (by omega)
          omega
        · obtain ⟨rn, rfl⟩ := Int.eq_ofNat_of_zero_le aC
          have hlp := line_lap hl hxl hb2 hbk hok rn lit (by rw [← eN]; exact on0)
          rw [← hlapS, ← eN] at hlp
          exact ⟨(rn : Int) * lap, some (.int lap), by rw [elit]; rfl, k69.tr (k9B.of0.tr kC), jC.mono (by omega), Int.mul_nonneg (by omega) (by omega), hlp⟩
    obtain ⟨lp, o11', rfl, kA, jA, hlp0, onA⟩ := hM
    obtain ⟨_, _, _, _, hoA, hsA⟩ := ask kA
    -- for gone in [0, sizes[k] - 1, ..]
    refine ⟨.ref sp, rfl, .int k, rfl, sp, _, k, .int (s.getD k 1), rfl, rfl, SqL.of hsA, atI_nat hsv, _, _, rfl, rfl, .ref p, rfl, .ref sp, rfl, .int k, rfl, sp, _, k, .int (s.getD k 1), rfl, rfl, SqL.of hsA, atI_nat hsv, p, s.getD k 1, _, rfl, by omega, by omega, jA, by omega, fun rg HB aB bB kB jB => ⟨by show 3 ≤ sizeLine; decide, fun gl ngl => ?_⟩⟩
    have kAB : Kp [p] H6 HB := kA.tr kB
    have kgl : Kp [] HB (upd HB gl (.lst [.int 0, .int (s.getD k 1 - 1), .int rg])) := Kp.new ngl
    refine ⟨gl, rfl, ⟨_, SqL.of upd_same⟩, for_list (xs := [.int 0, .int (s.getD k 1 - 1), .int rg]) (fun _ σ H' => ∃ (o12 : Option V), σ = [some (.ref p), some (.ref op), some (.ref sp), some (nxV bg), some vn, some (.int st), some (.int fb), some (.ref kp), some (.int k), some (.int lit), some (.int lp), o11', o12, none] ∧ Kp [] (upd HB gl (.lst [.int 0, .int (s.getD k 1 - 1), .int rg])) H') ⟨o12, rfl, .rfl'⟩ (fun i' σ H' _ hP => ?_) (fun i' gv σ HD hgv hP => ?_) (fun σ HD hP => ?_)⟩
    · obtain ⟨_, _, kk⟩ := hP
      exact SqL.of (kk.lst (by simp) upd_same)
    · obtain ⟨o12', rfl, kD⟩ := hP
      obtain ⟨g, rfl, hg0, hg1⟩ : ∃ g : Int, gv = .int g ∧ 0 ≤ g ∧ g < s.getD k 1 := by
        have := List.mem_of_getElem? hgv
        simp only [List.mem_cons, List.not_mem_nil, or_false] at this
        rcases this with rfl | rfl | rfl
        · exact ⟨_, rfl, by omega, by omega⟩
        · exact ⟨_, rfl, by omega, by omega⟩
        · exact ⟨_, rfl, aB, bB⟩
      obtain ⟨l1, l2, l3⟩ := place_lay (some (y, g))
      have k6D : Kp [p] H6 HD := kAB.tr (kgl.tr kD).of0
      obtain ⟨hnD, huD, htaD, htbD, _, _⟩ := ask k6D
      -- at lit + gone
      refine ⟨vn, rfl, .ref kp, rfl, .int lit, rfl, .int g, rfl, _, _, rfl, rfl, vn, .ref kp, lit + g, N, fb, x, rfl, hnD, ok, huD, a5, hxN, by omega, htaD, htbD, fun v1 HE t1 kE => ?_⟩
      rw [on_gone ok hxN on0 hg0 (by rw [hby]; exact hg1)] at t1
      have k6E := k6D.tr kE.of0
      obtain ⟨_, _, _, _, hoE, _⟩ := ask k6E
      refine ⟨.ref op, rfl, .int k, rfl, op, natV o, k, .int y, rfl, rfl, SqL.of hoE, atI_nat (natV_get hok), .int g, rfl, by show 2 ≤ sizeLine; decide, fun tp ntp => ?_⟩
      have kT : Kp [] HE (upd HE tp (.tup [.int y, .int g])) := Kp.new ntp
      refine ⟨v1, .ref tp, placeD (some (y, g)), rfl, (t1.kt kT.kt0).dx0, (Tu.tup upd_same (.cons (.int _) (.cons (.int _) .nil))).dx0, l1, l2, l3, fun HF kF => ⟨true, rfl, iteF ?_⟩⟩
      have k6F := k6E.tr (kT.tr kF).of0
      obtain ⟨hnF, huF, htaF, htbF, _, _⟩ := ask k6F
      -- at lit + laps + gone
      refine ⟨vn, rfl, .ref kp, rfl, .int lit, rfl, .int lp, rfl, _, _, rfl, rfl, .int g, rfl, _, _, rfl, rfl, vn, .ref kp, lit + lp + g, N, fb, x, rfl, hnF, ok, huF, a5, hxN, by omega, htaF, htbF, fun v2 HG t2 kG => ?_⟩
      rw [on_gone ok hxN onA hg0 (by rw [hby]; exact hg1)] at t2
      have k6G := k6F.tr kG.of0
      obtain ⟨_, _, _, _, hoG, _⟩ := ask k6G
      refine ⟨.ref op, rfl, .int k, rfl, op, natV o, k, .int y, rfl, rfl, SqL.of hoG, atI_nat (natV_get hok), .int g, rfl, by show 2 ≤ sizeLine; decide, fun tp2 ntp2 => ?_⟩
      have kT2 : Kp [] HG (upd HG tp2 (.tup [.int y, .int g])) := Kp.new ntp2
      refine ⟨v2, .ref tp2, placeD (some (y, g)), rfl, (t2.kt kT2.kt0).dx0, (Tu.tup upd_same (.cons (.int _) (.cons (.int _) .nil))).dx0, l1, l2, l3, fun HI kI => ⟨true, rfl, iteF ?_⟩⟩
      exact ⟨_, rfl, kD.tr (kE.tr (kT.tr (kF.tr (kG.tr (kT2.tr kI)))))⟩
    · obtain ⟨o12', rfl, kD⟩ := hP
      exact ⟨_, _, _, _, _, rfl, kAB.tr (kgl.tr kD).of0, ((jB.kp (kgl.tr kD) (by simp))).mono (by omega)⟩
  · obtain ⟨o8, o9, o10, o11, o12, rfl, k8, j8⟩ := hP
    obtain ⟨_, _, _, _, ho8, hs8⟩ := ask k8
    obtain ⟨he1, he2⟩ := line_end hl hxl hox (by rw [← eN]; exact onStart)
    rw [← eN] at he1 he2
    have sb := sumS_bound hl (i := st) (o.length - st) (by omega)
    rw [show st + (o.length - st) = o.length by omega] at sb
    have sn : 0 ≤ sumS s st o.length := by omega
    -- over = first + _law_at(..)
    refine ⟨.int fb, rfl, .ref op, rfl, .ref sp, rfl, .int st, rfl, .ref op, rfl, op, natV o, rfl, .inl (SqL.of ho8), .ref op, sp, s, st, o.length, by rw [lo_]; rfl, hs8, by omega, by omega, fun H9 k9 => ⟨_, _, rfl, rfl, ?_⟩⟩
    have k69 := k8.tr k9.of0
    obtain ⟨hn9, hu9, hta9, htb9, ho9, hs9⟩ := ask k69
    have fin : ∀ {Hx : Hp}, Kp [p] H6 Hx → Kp [p] H Hx := fun k => k06.tr k
    rcases nxV_at (v := nxV bg) rfl with ⟨hb1, hb2⟩ | ⟨b, hb1, hb2⟩
    · -- it ends
      obtain ⟨hw, hend⟩ := he1 hb2
      refine ⟨nxV bg, rfl, rfl, _, rfl, ?_⟩
      rw [hb1]
      refine iteT ⟨vn, rfl, .ref kp, rfl, .int (fb + sumS s st o.length), rfl, vn, .ref kp, fb + sumS s st o.length, N, fb, x, rfl, hn9, ok, hu9, a5, hxN, by omega, hta9, htb9, fun v1 HA t1 kA => ?_⟩
      rw [place_after ok hxN hw (by omega)] at t1
      cases t1
      refine ⟨rfl, _, rfl, iteT ?_⟩
      have k6A := k69.tr kA.of0
      obtain ⟨hnA, huA, htaA, htbA, _, _⟩ := ask k6A
      refine ⟨vn, rfl, .ref kp, rfl, .int (fb + sumS s st o.length), rfl, _, _, rfl, rfl, vn, .ref kp, fb + sumS s st o.length + 7, N, fb, x, rfl, hnA, ok, huA, a5, hxN, by omega, htaA, htbA, fun v2 HB t2 kB => ?_⟩
      rw [place_after ok hxN hw (by omega)] at t2
      cases t2
      exact ⟨rfl, q HB (fin (k6A.tr kB.of0))⟩
    · have hbl := hl.bg b hb2
      have hob : o[b]? = some o[b] := List.getElem?_eq_getElem hbl
      refine ⟨nxV bg, rfl, rfl, _, rfl, ?_⟩
      rw [hb1]
      refine iteF ?_
      refine ⟨.int st, rfl, .int b, hb1 ▸ rfl, _, _, rfl, rfl, _, rfl, ?_⟩
      by_cases hsb : b ≤ st
      · rw [decide_eq_true (show (b : Int) ≤ (st : Int) by omega)]
        refine iteT ⟨.int fb, rfl, .ref sp, rfl, .int b, hb1 ▸ rfl, _, rfl, sp, _, rfl, SqL.of hs9, fun p1 n1 => ?_⟩
        rw [cut_rest (by omega)]
        refine ⟨p1, _, rfl, SqL.of upd_same, _, _, rfl, rfl, ?_⟩
        obtain ⟨HB, eB⟩ : ∃ HB, HB = upd H9 p1 (.lst ((s.drop b).map V.int)) := ⟨_, rfl⟩
        rw [← eB]
        have k9B : Kp [] H9 HB := eB ▸ Kp.new n1
        have k6B := k69.tr k9B.of0
        obtain ⟨hnB, huB, htaB, htbB, hoB, _⟩ := ask k6B
        have hlapS : (s.drop b).sum = sumS s b o.length := by
          unfold sumS
          rw [List.take_of_length_le (by rw [List.length_drop]; omega)]
        have lpn : 0 ≤ (s.drop b).sum := by
          have h1 := sumS_bound hl (i := b) (o.length - b) (by omega)
          rw [show b + (o.length - b) = o.length by omega, ← hlapS] at h1
          omega
        have hon := line_lap hl hxl hb2 hsb hox 1 fb (by rw [← eN]; exact onStart)
        rw [← hlapS, ← eN, show ((1 : Nat) : Int) = 1 from rfl, Int.one_mul] at hon
        refine ⟨vn, rfl, .ref kp, rfl, .int (fb + (s.drop b).sum), rfl, vn, .ref kp, fb + (s.drop b).sum, N, fb, x, rfl, hnB, ok, huB, a5, hxN, by omega, htaB, htbB, fun v1 HC t1 kC => ?_⟩
        have hpl := on_gone ok hxN hon (g := 0) (by omega) (by have := burn_pos ok hxN; omega)
        rw [Int.add_zero] at hpl
        rw [hpl] at t1
        have k6C := k6B.tr kC.of0
        obtain ⟨_, _, _, _, hoC, _⟩ := ask k6C
        obtain ⟨l1, l2, l3⟩ := place_lay (some (x, 0))
        refine ⟨.ref op, rfl, .int st, rfl, op, natV o, st, .int x, rfl, rfl, SqL.of hoC, atI_nat (natV_get hox), by show 2 ≤ sizeLine; decide, fun tp ntp => ?_⟩
        have kT : Kp [] HC (upd HC tp (.tup [.int x, .int 0])) := Kp.new ntp
        exact ⟨v1, .ref tp, placeD (some (x, 0)), rfl, (t1.kt kT.kt0).dx0, (Tu.tup upd_same (.cons (.int _) (.cons (.int _) .nil))).dx0, l1, l2, l3, fun HF kF => q HF (fin (k6C.tr (kT.tr kF).of0))⟩
      · rw [decide_eq_false (show ¬ (b : Int) ≤ (st : Int) by omega)]
        refine iteF ?_
        obtain ⟨z, ez⟩ : ∃ z, z = o[b] := ⟨_, rfl⟩
        rw [← ez] at hob
        have hon := he2 b z hb2 hob
        have hzl : z < N.length := by rw [hNl]; exact hl.lt z (List.mem_of_getElem? hob)
        refine ⟨vn, rfl, .ref kp, rfl, .int (fb + sumS s st o.length), rfl, vn, .ref kp, fb + sumS s st o.length, N, fb, x, rfl, hn9, ok, hu9, a5, hxN, by omega, hta9, htb9, fun v1 HC t1 kC => ?_⟩
        have hpl := on_gone ok hxN hon (g := 0) (by omega) (by have := burn_pos ok hzl; omega)
        rw [Int.add_zero] at hpl
        rw [hpl] at t1
        have k6C := k69.tr kC.of0
        obtain ⟨_, _, _, _, hoC, _⟩ := ask k6C
        obtain ⟨l1, l2, l3⟩ := place_lay (some (z, 0))
        refine ⟨.ref op, rfl, .int b, hb1 ▸ rfl, op, natV o, b, .int z, rfl, rfl, SqL.of hoC, atI_nat (natV_get hob), by show 2 ≤ sizeLine; decide, fun tp ntp => ?_⟩
        have kT : Kp [] HC (upd HC tp (.tup [.int z, .int 0])) := Kp.new ntp
        exact ⟨v1, .ref tp, placeD (some (z, 0)), rfl, (t1.kt kT.kt0).dx0, (Tu.tup upd_same (.cons (.int _) (.cons (.int _) .nil))).dx0, l1, l2, l3, fun HF kF => q HF (fin (k6C.tr (kT.tr kF).of0))⟩
end

/-! ### the law over its cells -/
section
variable {P : Program} {w : World} {K : PySem.W.Frag} {mg : Str → Option Value} {base : Heap} {a : Ad}
def spLaw (TB TB2 : Addr) : Sp := fun vs H Q _ => ∃ (l : Addr) (ns : List Int), vs = [.ref l] ∧ SqL K H l (ns.map V.int) ∧ ns.length ≤ 63 ∧ GxR.TabG H TB ∧ GxR.TabG H TB2 ∧ ∀ H', Q (.bl true) H'
theorem ok_law (T : Tx K mg a) (TB : GxR.TabB base mg a.cd_is_net a.tb_is_net) (TB2 : GxR.TabB base mg a.cd_lights_of a.tb_lights_of) : FnOk P w K mg base CX0 14 a.a_law a.f_law ["script"] (spLaw (K := K) a.tb_is_net a.tb_lights_of) := by
  have G_law_cells := ok_law_cells (P := P) (w := w) (base := base) T
  have G_law_jar := ok_law_jar (P := P) (w := w) (base := base) T
  have G_law_right := ok_law_right (P := P) (w := w) (base := base) T TB TB2
  refine T.law.F.ok sc_law (fun vs H Q E h => ?_) (fun cdv A outer s H vs Q E hr h => ?_)
  · obtain ⟨l, ns, rfl, _⟩ := h
    rfl
  obtain ⟨l, ns, rfl, hl, hn, ht, ht2, q⟩ := h
  refine ⟨_, (pss_cons (ps_set (i := 1) sc_law.nd rfl (by first | exact .inl rfl | exact .inr rfl) (pe_call G_law_cells (hr.mono (by decide)) (by rfl) T.law_cells.g T.law_cells.F.kp T.law_cells.b .nil pass0 (pa_cons (pv 0) (pa_cons pe_int pa_nil))))
      (pss_cons (ps_for PassesOwn.never rfl (pi_range1 (by rfl) T.n_range (pa_cons (pe_callB call_len_seq (by rfl) T.n_len (by decide +kernel) (pa_cons (pv 1) pa_nil)) pa_nil)) (pg_name (i := 2) sc_law.nd rfl (by first | exact .inl rfl | exact .inr rfl)) (pss_one (ps_if (pt_not (pt_val (pe_call G_law_right (hr.mono (by decide)) (by rfl) T.law_right.g T.law_right.F.kp T.law_right.b .nil pass0 (pa_cons (pe_call G_law_jar (hr.mono (by decide)) (by rfl) T.law_jar.g T.law_jar.F.kp T.law_jar.b .nil pass0 (pa_cons (pe_ix ix_list (pv 1) (pv 2) (fun _ _ => rfl)) (pa_cons (pv 2) pa_nil))) pa_nil)))) (pss_one (ps_ret pe_bl)) pss_nil)))
      (pss_one (ps_ret pe_bl)))), ?_⟩
  -- cells = _law_cells(script, ..)
  refine ⟨.ref l, rfl, l, ns, 6, rfl, hl, hn, by decide, fun u cs H1 hu hcs k1 => ?_⟩
  have ht1 := k1.tab _ ht
  have ht21 := k1.tab _ ht2
  have lcs : (cs.map V.int).length = cs.length := List.length_map _
  -- for k in range(len(cells))
  refine ⟨.ref u, rfl, u, _, rfl, .inl (SqL.of hu), cs.length, by rw [lcs], by omega, by omega, for_range (n := cs.length) (fun i σ H' => ∃ (o2 : Option V), σ = [some (.ref l), some (.ref u), o2] ∧ Kp [] H1 H') ⟨none, rfl, .rfl'⟩ (fun i σ H2 hi hP => ?_) (fun σ H2 hP => ?_)⟩
  · obtain ⟨o2, rfl, k2⟩ := hP
    rw [show (0 + (i : Int)) = (i : Int) by omega]
    have hu2 := k2.lst (by simp) hu
    obtain ⟨cell, hc⟩ : ∃ cell, cs[i]? = some cell := ⟨cs[i], List.getElem?_eq_getElem hi⟩
    have hcv : (cs.map V.int)[i]? = some (.int cell) := by rw [List.getElem?_map, hc]; rfl
    refine ⟨.ref u, rfl, .int i, rfl, u, _, i, .int cell, rfl, rfl, SqL.of hu2, atI_nat hcv, .int i, rfl, cell, i, rfl, by omega, fun p np H3 k3 j3 => ?_⟩
    refine ⟨p, rfl, j3, k3.tab _ (k2.tab _ ht1), k3.tab _ (k2.tab _ ht21), fun H4 k4 => ⟨true, rfl, iteF ?_⟩⟩
    exact ⟨_, rfl, k2.tr (Kp.drop np (k3.of0.tr k4))⟩
  · obtain ⟨o2, rfl, k2⟩ := hP
    exact q H2
end

/-! ### the head -/
def hex (_ : PySem.W.Frag) : Bool := true
def hd_is_whole : He.DefD := ⟨("is_whole", none), "is_whole", "is_whole", defArgs s_is_whole, defBody s_is_whole, defScope s_is_whole, [], []⟩
def hd_is_pair : He.DefD := ⟨("is_pair", none), "is_pair", "is_pair", defArgs s_is_pair, defBody s_is_pair, defScope s_is_pair, [], []⟩
def hd_is_number_of_many : He.DefD := ⟨("is_number_of_many", none), "is_number_of_many", "is_number_of_many", defArgs s_is_number_of_many, defBody s_is_number_of_many, defScope s_is_number_of_many, [], []⟩
def hd_is_lamp_of_many : He.DefD := ⟨("is_lamp_of_many", none), "is_lamp_of_many", "is_lamp_of_many", defArgs s_is_lamp_of_many, defBody s_is_lamp_of_many, defScope s_is_lamp_of_many, [], []⟩
def hd_is_net : He.DefD := ⟨("is_net", none), "is_net", "is_net", defArgs s_is_net, defBody s_is_net, defScope s_is_net, [], []⟩
def hd_need_net : He.DefD := ⟨("need_net", none), "need_net", "need_net", defArgs s_need_net, defBody s_need_net, defScope s_need_net, [], []⟩
def hd_need_lamp : He.DefD := ⟨("need_lamp", none), "need_lamp", "need_lamp", defArgs s_need_lamp, defBody s_need_lamp, defScope s_need_lamp, [], []⟩
def hd_is_kindling_of_many : He.DefD := ⟨("is_kindling_of_many", none), "is_kindling_of_many", "is_kindling_of_many", defArgs s_is_kindling_of_many, defBody s_is_kindling_of_many, defScope s_is_kindling_of_many, [], []⟩
def hd_way_of : He.DefD := ⟨("way_of", none), "way_of", "way_of", defArgs s_way_of, defBody s_way_of, defScope s_way_of, [], []⟩
def hd_need_kindling : He.DefD := ⟨("need_kindling", none), "need_kindling", "need_kindling", defArgs s_need_kindling, defBody s_need_kindling, defScope s_need_kindling, [], []⟩
def hd_need_beat : He.DefD := ⟨("need_beat", none), "need_beat", "need_beat", defArgs s_need_beat, defBody s_need_beat, defScope s_need_beat, [], []⟩
def hd_lights_of : He.DefD := ⟨("lights_of", none), "lights_of", "lights_of", defArgs s_lights_of, defBody s_lights_of, defScope s_lights_of, [], []⟩
def hd_place_by_lights : He.DefD := ⟨("place_by_lights", none), "place_by_lights", "place_by_lights", defArgs s_place_by_lights, defBody s_place_by_lights, defScope s_place_by_lights, [], []⟩
def hd_place_alone : He.DefD := ⟨("place_alone", none), "place_alone", "place_alone", defArgs s_place_alone, defBody s_place_alone, defScope s_place_alone, [], []⟩
def hd_law_jar : He.DefD := ⟨("_law_jar", none), "_law_jar", "_law_jar", defArgs s_law_jar, defBody s_law_jar, defScope s_law_jar, [], []⟩
def hd_law_pull : He.DefD := ⟨("_law_pull", none), "_law_pull", "_law_pull", defArgs s_law_pull, defBody s_law_pull, defScope s_law_pull, [], []⟩
def hd_law_cells : He.DefD := ⟨("_law_cells", none), "_law_cells", "_law_cells", defArgs s_law_cells, defBody s_law_cells, defScope s_law_cells, [], []⟩
def hd_law_exact : He.DefD := ⟨("_law_exact", none), "_law_exact", "_law_exact", defArgs s_law_exact, defBody s_law_exact, defScope s_law_exact, [], []⟩
def hd_law_line : He.DefD := ⟨("_law_line", none), "_law_line", "_law_line", defArgs s_law_line, defBody s_law_line, defScope s_law_line, [], []⟩
def hd_law_land : He.DefD := ⟨("_law_land", none), "_law_land", "_law_land", defArgs s_law_land, defBody s_law_land, defScope s_law_land, [], []⟩
def hd_law_at : He.DefD := ⟨("_law_at", none), "_law_at", "_law_at", defArgs s_law_at, defBody s_law_at, defScope s_law_at, [], []⟩
def hd_law_right : He.DefD := ⟨("_law_right", none), "_law_right", "_law_right", defArgs s_law_right, defBody s_law_right, defScope s_law_right, [], []⟩
def hd_law : He.DefD := ⟨("law", none), "law", "law", defArgs s_law, defBody s_law, defScope s_law, [], []⟩
def hfn : List He.DefD := [hd_is_whole, hd_is_pair, hd_is_number_of_many, hd_is_lamp_of_many, hd_is_net, hd_need_net, hd_need_lamp, hd_is_kindling_of_many, hd_way_of, hd_need_kindling, hd_need_beat, hd_lights_of, hd_place_by_lights, hd_place_alone, hd_law_jar, hd_law_pull, hd_law_cells, hd_law_exact, hd_law_line, hd_law_land, hd_law_at, hd_law_right, hd_law]
def hfa : List He.Fa := [.glo "is_whole", .glo "is_pair", .glo "is_number_of_many", .glo "is_lamp_of_many", .glo "is_net", .glo "need_net", .glo "need_lamp", .glo "is_kindling_of_many", .glo "way_of", .glo "need_kindling", .glo "need_beat", .glo "lights_of", .glo "place_by_lights", .glo "place_alone", .glo "_law_jar", .glo "_law_pull", .glo "_law_cells", .glo "_law_exact", .glo "_law_line", .glo "_law_land", .glo "_law_at", .glo "_law_right", .glo "law", .free "all", .free "bool", .free "int", .free "isinstance", .free "len", .free "list", .free "max", .free "min", .free "range", .free "sum", .free "tuple", .free "zip", .int "MOST_LAMPS" 12, .glo "EmberError", .glo "NoNet", .glo "NoKindlings", .glo "NoLamp", .glo "NoBeat"]
def htf : List (Str × Option Str) := [("is_net", none), ("lights_of", none)]
abbrev hR : PySem.W.OpenRow := PySem.W.OpenLaw.row PySem.Challenge.rw_emberlane_k20_where_one_is_far_on
abbrev hk : PySem.W.Hook := He.hookX 5 hfa hfn [] htf hex
def hob (s : PySem.W.SharedT) : He.AlX := He.obsX 5 hfa hfn [] htf hex (HandSHeadRun.getT s)
theorem hob_eq (s : PySem.W.SharedT) : hob s = hk.obs s.abs := He.obsX_eq (HandSHeadRun.getT_eq s)
def hloose : List PySem.Str := ["EmberError", "MOST_LAMPS", "NoBeat", "NoKindlings", "NoLamp", "NoNet", "_law_at", "_law_cells", "_law_exact", "_law_jar", "_law_land", "_law_line", "_law_pull", "_law_right", "is_kindling_of_many", "is_lamp_of_many", "is_net", "is_number_of_many", "is_pair", "is_whole", "lights_of", "need_beat", "need_kindling", "need_lamp", "need_net", "place_alone", "place_by_lights", "way_of"]
theorem hrun (w : World) : HandSHeadRun.RunEq hR (PySem.W.view hR.prog [33]) hk hob 40000 hloose w := by
  intro os
  kernel_rfl
theorem hfacts {w : World} {K : PySem.W.Frag} {h : Heap} {mg : Str → Option Value} {f : Addr} (X : K.In h) (G : h.Ns mainGlobals mg) (hfa_ : mg ("law" : Str) = some (.ref f)) (c : He.SaysX hfa hfn [] htf hex w h K) :
    ∃ a : Ad, Tx K mg a ∧ a.a_law = f ∧ (a.cd_is_net, a.tb_is_net) = He.cT K ("is_net", none) ∧ (a.cd_lights_of, a.tb_lights_of) = He.cT K ("lights_of", none) := by
  have cd : He.SaysD hfa hfn K := c.t.d
  obtain ⟨d0, F0⟩ := cd.def_ 0 (d := hd_is_whole) rfl
  obtain ⟨d1, F1⟩ := cd.def_ 1 (d := hd_is_pair) rfl
  obtain ⟨d2, F2⟩ := cd.def_ 2 (d := hd_is_number_of_many) rfl
  obtain ⟨d3, F3⟩ := cd.def_ 3 (d := hd_is_lamp_of_many) rfl
  obtain ⟨d4, F4⟩ := cd.def_ 4 (d := hd_is_net) rfl
  obtain ⟨d5, F5⟩ := cd.def_ 5 (d := hd_need_net) rfl
  obtain ⟨d6, F6⟩ := cd.def_ 6 (d := hd_need_lamp) rfl
  obtain ⟨d7, F7⟩ := cd.def_ 7 (d := hd_is_kindling_of_many) rfl
  obtain ⟨d8, F8⟩ := cd.def_ 8 (d := hd_way_of) rfl
  obtain ⟨d9, F9⟩ := cd.def_ 9 (d := hd_need_kindling) rfl
  obtain ⟨d10, F10⟩ := cd.def_ 10 (d := hd_need_beat) rfl
  obtain ⟨d11, F11⟩ := cd.def_ 11 (d := hd_lights_of) rfl
  obtain ⟨d12, F12⟩ := cd.def_ 12 (d := hd_place_by_lights) rfl
  obtain ⟨d13, F13⟩ := cd.def_ 13 (d := hd_place_alone) rfl
  obtain ⟨d14, F14⟩ := cd.def_ 14 (d := hd_law_jar) rfl
  obtain ⟨d15, F15⟩ := cd.def_ 15 (d := hd_law_pull) rfl
  obtain ⟨d16, F16⟩ := cd.def_ 16 (d := hd_law_cells) rfl
  obtain ⟨d17, F17⟩ := cd.def_ 17 (d := hd_law_exact) rfl
  obtain ⟨d18, F18⟩ := cd.def_ 18 (d := hd_law_line) rfl
  obtain ⟨d19, F19⟩ := cd.def_ 19 (d := hd_law_land) rfl
  obtain ⟨d20, F20⟩ := cd.def_ 20 (d := hd_law_at) rfl
  obtain ⟨d21, F21⟩ := cd.def_ 21 (d := hd_law_right) rfl
  obtain ⟨d22, F22⟩ := cd.def_ 22 (d := hd_law) rfl
  have e0 : f = He.ga K "law" := by
    have e := hfa_.symm.trans (He.glo_ok X G (cd.fact 22 (f := .glo "law") rfl))
    cases e
    rfl
  refine ⟨{ a_is_whole := He.fAd K hd_is_whole.at_, f_is_whole := d0, a_is_pair := He.fAd K hd_is_pair.at_, f_is_pair := d1, a_is_number_of_many := He.fAd K hd_is_number_of_many.at_, f_is_number_of_many := d2, a_is_lamp_of_many := He.fAd K hd_is_lamp_of_many.at_, f_is_lamp_of_many := d3, a_is_net := He.fAd K hd_is_net.at_, f_is_net := d4, a_need_net := He.fAd K hd_need_net.at_, f_need_net := d5, a_need_lamp := He.fAd K hd_need_lamp.at_, f_need_lamp := d6, a_is_kindling_of_many := He.fAd K hd_is_kindling_of_many.at_, f_is_kindling_of_many := d7, a_way_of := He.fAd K hd_way_of.at_, f_way_of := d8, a_need_kindling := He.fAd K hd_need_kindling.at_, f_need_kindling := d9, a_need_beat := He.fAd K hd_need_beat.at_, f_need_beat := d10, a_lights_of := He.fAd K hd_lights_of.at_, f_lights_of := d11, a_place_by_lights := He.fAd K hd_place_by_lights.at_, f_place_by_lights := d12, a_place_alone := He.fAd K hd_place_alone.at_, f_place_alone := d13, a_law_jar := He.fAd K hd_law_jar.at_, f_law_jar := d14, a_law_pull := He.fAd K hd_law_pull.at_, f_law_pull := d15, a_law_cells := He.fAd K hd_law_cells.at_, f_law_cells := d16, a_law_exact := He.fAd K hd_law_exact.at_, f_law_exact := d17, a_law_line := He.fAd K hd_law_line.at_, f_law_line := d18, a_law_land := He.fAd K hd_law_land.at_, f_law_land := d19, a_law_at := He.fAd K hd_law_at.at_, f_law_at := d20, a_law_right := He.fAd K hd_law_right.at_, f_law_right := d21, a_law := He.fAd K hd_law.at_, f_law := d22, c_EmberError := He.ga K "EmberError", c_NoNet := He.ga K "NoNet", c_NoKindlings := He.ga K "NoKindlings", c_NoLamp := He.ga K "NoLamp", c_NoBeat := He.ga K "NoBeat", cd_is_net := He.codeOf K ("is_net", none), tb_is_net := (He.cT K ("is_net", none)).2, cd_lights_of := He.codeOf K ("lights_of", none), tb_lights_of := (He.cT K ("lights_of", none)).2 }, ?_, e0.symm, rfl, rfl⟩
  exact ⟨Df.mk' F0 (He.glo_ok X G (cd.fact 0 (f := .glo "is_whole") rfl)) (fun _ _ _ _ _ _ us hl => match us, hl with | [_], _ => rfl),
    Df.mk' F1 (He.glo_ok X G (cd.fact 1 (f := .glo "is_pair") rfl)) (fun _ _ _ _ _ _ us hl => match us, hl with | [_], _ => rfl),
    Df.mk' F2 (He.glo_ok X G (cd.fact 2 (f := .glo "is_number_of_many") rfl)) (fun _ _ _ _ _ _ us hl => match us, hl with | [_, _], _ => rfl),
    Df.mk' F3 (He.glo_ok X G (cd.fact 3 (f := .glo "is_lamp_of_many") rfl)) (fun _ _ _ _ _ _ us hl => match us, hl with | [_, _], _ => rfl),
    Df.mk' F4 (He.glo_ok X G (cd.fact 4 (f := .glo "is_net") rfl)) (fun _ _ _ _ _ _ us hl => match us, hl with | [_], _ => rfl),
    Df.mk' F5 (He.glo_ok X G (cd.fact 5 (f := .glo "need_net") rfl)) (fun _ _ _ _ _ _ us hl => match us, hl with | [_], _ => rfl),
    Df.mk' F6 (He.glo_ok X G (cd.fact 6 (f := .glo "need_lamp") rfl)) (fun _ _ _ _ _ _ us hl => match us, hl with | [_, _], _ => rfl),
    Df.mk' F7 (He.glo_ok X G (cd.fact 7 (f := .glo "is_kindling_of_many") rfl)) (fun _ _ _ _ _ _ us hl => match us, hl with | [_, _], _ => rfl),
    Df.mk' F8 (He.glo_ok X G (cd.fact 8 (f := .glo "way_of") rfl)) (fun _ _ _ _ _ _ us hl => match us, hl with | [_, _], _ => rfl),
    Df.mk' F9 (He.glo_ok X G (cd.fact 9 (f := .glo "need_kindling") rfl)) (fun _ _ _ _ _ _ us hl => match us, hl with | [_, _], _ => rfl),
    Df.mk' F10 (He.glo_ok X G (cd.fact 10 (f := .glo "need_beat") rfl)) (fun _ _ _ _ _ _ us hl => match us, hl with | [_], _ => rfl),
    Df.mk' F11 (He.glo_ok X G (cd.fact 11 (f := .glo "lights_of") rfl)) (fun _ _ _ _ _ _ us hl => match us, hl with | [_, _], _ => rfl),
    Df.mk' F12 (He.glo_ok X G (cd.fact 12 (f := .glo "place_by_lights") rfl)) (fun _ _ _ _ _ _ us hl => match us, hl with | [_, _, _], _ => rfl),
    Df.mk' F13 (He.glo_ok X G (cd.fact 13 (f := .glo "place_alone") rfl)) (fun _ _ _ _ _ _ us hl => match us, hl with | [_, _, _], _ => rfl),
    Df.mk' F14 (He.glo_ok X G (cd.fact 14 (f := .glo "_law_jar") rfl)) (fun _ _ _ _ _ _ us hl => match us, hl with | [_, _], _ => rfl),
    Df.mk' F15 (He.glo_ok X G (cd.fact 15 (f := .glo "_law_pull") rfl)) (fun _ _ _ _ _ _ us hl => match us, hl with | [_, _], _ => rfl),
    Df.mk' F16 (He.glo_ok X G (cd.fact 16 (f := .glo "_law_cells") rfl)) (fun _ _ _ _ _ _ us hl => match us, hl with | [_, _], _ => rfl),
    Df.mk' F17 (He.glo_ok X G (cd.fact 17 (f := .glo "_law_exact") rfl)) (fun _ _ _ _ _ _ us hl => match us, hl with | [_, _], _ => rfl),
    Df.mk' F18 (He.glo_ok X G (cd.fact 18 (f := .glo "_law_line") rfl)) (fun _ _ _ _ _ _ us hl => match us, hl with | [_], _ => rfl),
    Df.mk' F19 (He.glo_ok X G (cd.fact 19 (f := .glo "_law_land") rfl)) (fun _ _ _ _ _ _ us hl => match us, hl with | [_, _, _], _ => rfl),
    Df.mk' F20 (He.glo_ok X G (cd.fact 20 (f := .glo "_law_at") rfl)) (fun _ _ _ _ _ _ us hl => match us, hl with | [_, _, _, _], _ => rfl),
    Df.mk' F21 (He.glo_ok X G (cd.fact 21 (f := .glo "_law_right") rfl)) (fun _ _ _ _ _ _ us hl => match us, hl with | [_], _ => rfl),
    Df.mk' F22 (He.glo_ok X G (cd.fact 22 (f := .glo "law") rfl)) (fun _ _ _ _ _ _ us hl => match us, hl with | [_], _ => rfl),
    He.free_ok X G (cd.fact 23 (f := .free "all") rfl),
    He.free_ok X G (cd.fact 24 (f := .free "bool") rfl),
    He.free_ok X G (cd.fact 25 (f := .free "int") rfl),
    He.free_ok X G (cd.fact 26 (f := .free "isinstance") rfl),
    He.free_ok X G (cd.fact 27 (f := .free "len") rfl),
    He.free_ok X G (cd.fact 28 (f := .free "list") rfl),
    He.free_ok X G (cd.fact 29 (f := .free "max") rfl),
    He.free_ok X G (cd.fact 30 (f := .free "min") rfl),
    He.free_ok X G (cd.fact 31 (f := .free "range") rfl),
    He.free_ok X G (cd.fact 32 (f := .free "sum") rfl),
    He.free_ok X G (cd.fact 33 (f := .free "tuple") rfl),
    He.free_ok X G (cd.fact 34 (f := .free "zip") rfl),
    He.int_ok X G (cd.fact 35 (f := .int "MOST_LAMPS" 12) rfl),
    codeIs_of (p := hd_is_net.at_) (x := "is_net") (qual := "is_net") (st := s_is_net) (funOf F4),
    codeIs_of (p := hd_lights_of.at_) (x := "lights_of") (qual := "lights_of") (st := s_lights_of) (funOf F11),
    He.glo_ok X G (cd.fact 36 (f := .glo "EmberError") rfl),
    He.glo_ok X G (cd.fact 37 (f := .glo "NoNet") rfl),
    He.glo_ok X G (cd.fact 38 (f := .glo "NoKindlings") rfl),
    He.glo_ok X G (cd.fact 39 (f := .glo "NoLamp") rfl),
    He.glo_ok X G (cd.fact 40 (f := .glo "NoBeat") rfl)⟩
theorem law_all {w : World} {K : PySem.W.Frag} {h : Heap} {mg : Str → Option Value} {f : Addr} (X : K.In h) (G : h.Ns mainGlobals mg) (hm : mg ("law" : Str) = some (.ref f)) (c : He.SaysX hfa hfn [] htf hex w h K) : LawG PySem.Challenge.rw_emberlane_k20_where_one_is_far_on w K 14 63 "script" mg f h := by
  obtain ⟨a, T, rfl, ec, ec2⟩ := hfacts X G hm c
  have m : (("is_net", none) : Str × Option Str) ∈ htf := by simp [htf]
  have m2 : (("lights_of", none) : Str × Option Str) ∈ htf := by simp [htf]
  refine ⟨a.f_law, [(a.cd_is_net, a.tb_is_net), (a.cd_lights_of, a.tb_lights_of)], spLaw (K := K) a.tb_is_net a.tb_lights_of, fun p hp => ?_, fun s u => ?_, fun H b ns hn _ hT hS => ?_, fun base XB GB TB => FnG.of (ok_law T (TB (a.cd_is_net, a.tb_is_net) (by simp)) (TB (a.cd_lights_of, a.tb_lights_of) (by simp)))⟩
  · simp only [List.mem_cons, List.not_mem_nil, or_false] at hp
    rcases hp with rfl | rfl
    · rw [ec]
      exact ⟨c.empty _ m, c.out _ m, PySem.W.codeHd_of_K X (c.hd _ m)⟩
    · rw [ec2]
      exact ⟨c.empty _ m2, c.out _ m2, PySem.W.codeHd_of_K X (c.hd _ m2)⟩
  · obtain ⟨oc, od, kV, doc, pm, an, cdv, ct, osl, e, lk, hcd⟩ := T.law.F.ex
    rw [e]
    exact BindsTo.of_eq rfl
  · exact ⟨b, ns, rfl, hS, hn, ⟨#[], hT (a.cd_is_net, a.tb_is_net) (by simp), by simp [TriplesOk]⟩, ⟨#[], hT (a.cd_lights_of, a.tb_lights_of) (by simp), by simp [TriplesOk]⟩, fun H' => rfl⟩
end K20
open PySem PySem.W PySem.Calls PyProof.Rows
set_option maxRecDepth 100000 in
set_option maxHeartbeats 0 in
theorem PySem.Challenge.cw_emberlane_k20_where_one_is_far_on_holds : PySem.Challenge.rw_emberlane_k20_where_one_is_far_on.Holds := by
  w_on; o_law
  refine HandSHeadRun.head_any (r := OpenLaw.row PySem.Challenge.rw_emberlane_k20_where_one_is_far_on) (q := view (OpenLaw.row PySem.Challenge.rw_emberlane_k20_where_one_is_far_on).prog [33]) (H := K20.hk) (ob := K20.hob) (M := 40000) (loose := K20.hloose) (d := HandSHeadRun.topDef (OpenLaw.row PySem.Challenge.rw_emberlane_k20_where_one_is_far_on).prog 33) (kwd := []) K20.hob_eq
    (by kernel_rfl) (fun s => by kernel_rfl) K20.hrun (by kernel_rfl) (by kernel_rfl) (by kernel_rfl) (by rfl) (by first | assumption | decide +kernel) (by decide +kernel) ⟨rfl, rfl, rfl, rfl, rfl, by decide +kernel⟩ ?hw ?hc
  case hw => w_witness2
  case hc =>
    refine Em.walkG (l := PySem.Challenge.rw_emberlane_k20_where_one_is_far_on) (n := 63) (k := 14) (x := "script") rfl (by decide) (by kernel_rfl) ⟨rfl, by decide, by decide⟩ ?F
    intro w mg fa h Y G hmg0
    obtain ⟨K, KX, c⟩ := Y
    have hmg : mg ("law" : PySem.Str) = some (.ref fa) := by
      have e : (HandSHeadRun.topDef (OpenLaw.row PySem.Challenge.rw_emberlane_k20_where_one_is_far_on).prog 33).name = ("law" : PySem.Str) := by kernel_rfl
      rw [← e]
      exact hmg0
    exact ⟨K, KX, K20.law_all KX G hmg c⟩


