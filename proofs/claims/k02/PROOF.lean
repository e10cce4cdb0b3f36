import PyProof.Rows.All
import Wide.All
import OpenK.AllK
import Wide.FinOn
import HandS.ForMost
import HandS.ForExc
import HandS.IsInst
import HandS.AnyAll
import HandS.Nested
import HandS.Wide
import HandS.TupAny
import HandS.Flow
import HandS.Conv
import HandS.HeadHook4
import HandS.HeadWalk
import HandS.EndTab
import HandS.Walk
import HandS.TupMul
import HandS.Dict
import HandS.Style
import HandS.Head0
import HandS.Head1
import HandS.Head2
import PySem.Challenge.RW_emberlane_k02_which_are_kindlings
set_option Elab.async false
set_option linter.all false
set_option maxRecDepth 100000
set_option maxHeartbeats 4000000
/-! Quiet code: small defs that only read, so that a generator expression may call them. -/
namespace Qt
open PySem PySem.Spec PyProof.Rows L2

abbrev Up (h g : Heap) : Prop := ∀ b o, h.get? b = some o → g.get? b = some o
theorem Up.rfl' {h : Heap} : Up h h := fun _ _ e => e
theorem Up.tr {h g k : Heap} (a : Up h g) (b : Up g k) : Up h k := fun c o e => b c o (a c o e)
theorem up_lt {h g : Heap} (a : Up h g) {L : Addr} (hL : g.objs.size ≤ L) : h.get? L = none := by
  cases q : h.get? L with
  | none => rfl
  | some o => exact absurd (Nat.lt_of_lt_of_le (Heap.lt_size (a _ _ q)) hL) (Nat.lt_irrefl _)

/-- where quiet code stands: the program, the written part, the things that are read, a heap that stays -/
structure Qc where
  prog : Program
  w : World
  K : PySem.W.Frag
  mg : Str → Option Value
  H : Hp
  hd : Heap

structure Qc.Ok (c : Qc) : Prop where
  kin : c.K.In c.hd
  glo : c.hd.Ns mainGlobals c.mg
  bui : ∃ mb, c.hd.Ns builtinsNs mb ∧ ∀ x : Str, x ≠ "__name__" → mb x = bootBuiltins x
  lim : c.hd.NoLimit
  hok : HOk c.prog c.w c.H c.hd

/-- the names of a frame -/
abbrev Nm := List (Str × V)
structure At (c : Qc) (env : Env) (N : Nm) (h : Heap) : Prop where
  up : Up c.hd h
  kd : env.scope.kind = .function
  gl : env.globals = mainGlobals
  bl : env.builtins = builtinsNs
  nm : ∃ m, h.Ns env.locals m ∧ ∀ x v, N.lookup x = some v → ∃ u, RelV v u ∧ Look env h m x u
theorem look_up {env : Env} {h g : Heap} {m : Str → Option Value} {x : Str} {u : Value} (k : Up h g) (l : Look env h m x u) : Look env g m x u := by
  rcases l with l | ⟨l, a, e, i⟩
  · exact .inl l
  · exact .inr ⟨l, a, e, i.keeps k⟩
theorem At.more {c : Qc} {env : Env} {N : Nm} {h g : Heap} (a : At c env N h) (k : Up h g) : At c env N g :=
  ⟨a.up.tr k, a.kd, a.gl, a.bl, let ⟨m, n, q⟩ := a.nm; ⟨m, n.keeps k, fun x v e => let ⟨u, r, l⟩ := q x v e; ⟨u, r, look_up k l⟩⟩⟩

structure Rm (k : Nat) (A : Around) : Prop where
  hd : A.handled = none
  dp : A.depth + k < recursionLimit
theorem Rm.mono {j k : Nat} {A : Around} (r : Rm k A) (h : j ≤ k) : Rm j A := ⟨r.hd, by have := r.dp; omega⟩
theorem Rm.deeper {k : Nat} {A : Around} (r : Rm (k + 1) A) (env : Env) : Rm k (A.deeper env) := ⟨r.hd, by have := r.dp; show A.depth + 1 + k < _; omega⟩

section
variable (c : Qc) (k : Nat) (env : Env) (N : Nm)
/-- an expression that gives v and leaves all as it was -/
def QE (e : Expr) (v : V) : Prop := ∀ (A : Around) (E : Value → Shared → Prop) (Q : Value → Shared → Prop) (s : Shared), Rm k A → At c env N s.heap →
  (∀ u g tk, RelV v u → Up s.heap g → Q u { s with heap := g, toks := tk }) → wpAny (model c.prog c.w) A (eval e env) Q E s
/-- a test -/
def QT (e : Expr) (b : Bool) : Prop := ∀ (A : Around) (E : Value → Shared → Prop) (Q : Bool → Shared → Prop) (s : Shared), Rm k A → At c env N s.heap →
  (∀ g tk, Up s.heap g → Q b { s with heap := g, toks := tk }) → wpAny (model c.prog c.w) A (isTrue e env (eval e env)) Q E s
/-- arguments -/
def QA (es : List Expr) (vs : List V) : Prop := ∀ (pos : Pos) (A : Around) (E : Value → Shared → Prop) (Q : List Value → Shared → Prop) (s : Shared), Rm k A → At c env N s.heap →
  (∀ us g tk, Vals vs us → Up s.heap g → Q us { s with heap := g, toks := tk }) → wpAny (model c.prog c.w) A (spliced (backTo pos (starEach es env))) Q E s
/-- a block that returns v -/
def QB (st : List Stmt) (v : V) : Prop := ∀ (A : Around) (E : Value → Shared → Prop) (Q : Flow → Shared → Prop) (s : Shared), Rm k A → At c env N s.heap → c.hd.get? env.locals = none →
  (∀ u g tk, RelV v u → (∀ b o, b ≠ env.locals → s.heap.get? b = some o → g.get? b = some o) → Q (.ret u) { s with heap := g, toks := tk }) → wpAny (model c.prog c.w) A (execs st env) Q E s
end
/-- a def called -/
def QF (c : Qc) (k : Nat) (f : Addr) (fd : FuncData) (ps : List Str) (vs : List V) (v : V) : Prop := ∀ (A : Around) (R : Result → Shared → Prop) (args : Args) (us : List Value) (s : Shared), Rm k A → Up c.hd s.heap → BindsTo s fd args (ps.zip us) → Vals vs us →
  (∀ u g tk, RelV v u → Up s.heap g → R (.ok (.ret u)) { s with heap := g, toks := tk }) → codeAny (model c.prog c.w) A (.call (.ref f) args) R s

section
variable {c : Qc} {k : Nat} {env : Env} {N : Nm} {x : Str} {v : V} {e a b : Expr} {es : List Expr} {pos p : Pos}

theorem q_name (hN : N.lookup x = some v) (hd : (x == ("__debug__" : Str)) = false := by decide) (hcd : (x == ("__classdict__" : Str)) = false := by decide) : QE c k env N (.Name x pos) v := by
  intro A E Q s r i h
  obtain ⟨m, n, q⟩ := i.nm
  obtain ⟨u, ru, l⟩ := q x v hN
  have fin : Q u s := h u s.heap s.toks ru Up.rfl'
  rcases l with ⟨l1, l2⟩ | ⟨l1 | l1, ad, l2, l3⟩
  · exact wpAny_Name (wpAny_loadName_local i.kd l1 n l2 fin) hd
  · exact wpAny_Name (wpAny_loadName_cell i.kd l1 l2 l3 fin) hd
  · exact wpAny_Name (wpAny_loadName_free i.kd l1 l2 l3 fin hcd) hd
theorem q_int {i : Int} {j : Nat} : QE c k env N (.Constant (.int i) j pos) (.int i) := fun A E Q s r _ h =>
  wpAny_Constant_int (h _ s.heap _ ⟨_, rfl⟩ Up.rfl')
theorem q_bool {t : Bool} {j : Nat} : QE c k env N (.Constant (.bool t) j pos) (.bl t) := fun A E Q s r _ h =>
  Constant_bool (h _ s.heap s.toks rfl Up.rfl')
theorem q_none {j : Nat} : QE c k env N (.Constant .none j pos) .non := fun A E Q s r _ h =>
  Constant_none (h _ s.heap s.toks rfl Up.rfl')
/-- a module's own name, a built-in's name -/
theorem q_glob {u : Value} (O : c.Ok) (hg : env.kindOf x = some .globalImplicit) (hm : c.mg x = some u) (r : RelV v u) (hd : (x == ("__debug__" : Str)) = false := by decide) : QE c k env N (.Name x pos) v := fun A E Q s _ i h =>
  Calls.Name_function_global i.kd hg (Calls.loadGlobal_global (by rw [i.gl]; exact O.glo.keeps i.up) hm (h u s.heap s.toks r Up.rfl')) hd
theorem ld_b {A : Around} {E : Value → Shared → Prop} {Q : Value → Shared → Prop} {s : Shared} {u : Value} (O : c.Ok) (i : At c env N s.heap) (hg : env.kindOf x = some .globalImplicit) (hm : c.mg x = none) (hv : bootBuiltins x = some u) (h : Q u s)
    (hn : x ≠ "__name__") (hd : (x == ("__debug__" : Str)) = false) : wpAny (model c.prog c.w) A (eval (.Name x pos) env) Q E s := by
  obtain ⟨mb, n1, n2⟩ := O.bui
  exact Calls.Name_function_global i.kd hg (Calls.loadGlobal_builtin (by rw [i.gl]; exact O.glo.keeps i.up) hm (by rw [i.bl]; exact n1.keeps i.up) ((n2 x hn).trans hv) h) hd
theorem q_blt {u : Value} (O : c.Ok) (hg : env.kindOf x = some .globalImplicit) (hm : c.mg x = none) (hv : bootBuiltins x = some u) (r : RelV v u) (hn : x ≠ "__name__" := by decide) (hd : (x == ("__debug__" : Str)) = false := by decide) :
    QE c k env N (.Name x pos) v := fun A E Q s _ i h => ld_b O i hg hm hv (h u s.heap s.toks r Up.rfl') hn hd

/-! ### arguments, calls -/
theorem qa_nil : QA c k env N [] [] := fun _ _ _ _ s _ _ h => Calls.spliced_nil (h _ s.heap s.toks .nil Up.rfl')
theorem qa_cons {vs : List V} (he : QE c k env N e v) (hs : QA c k env N es vs) (st : starEach (e :: es) env = (false, eval e env) :: starEach es env := by rfl) : QA c k env N (e :: es) (v :: vs) := by
  intro pos A E Q s r i h
  rw [st]
  show wpAny _ A (spliced ((false, eval e env) :: backTo pos (starEach es env))) Q E s
  refine Calls.spliced_cons (he A E _ s r i fun u g tk ru up => ?_)
  exact hs pos A E _ _ r (i.more up) fun us g2 tk2 rus up2 => h (u :: us) g2 tk2 (.cons ru rus) (up.tr up2)

/-- a built-in function that reads -/
def QC (c : Qc) (id : String) (vs : List V) (v : V) : Prop := ∀ (A : Around) (E : Value → Shared → Prop) (Q : Value → Shared → Prop) (us : List Value) (s : Shared), Up c.hd s.heap → Vals vs us →
  (∀ u g tk, RelV v u → Up s.heap g → Q u { s with heap := g, toks := tk }) → wpAny (model c.prog c.w) A (call (.builtin id) us) Q E s
theorem q_callB {id : String} {vs : List V} (O : c.Ok) (hc : QC c id vs v) (hg : env.kindOf x = some .globalImplicit) (hm : c.mg x = none) (hv : bootBuiltins x = some (.builtin id)) (ha : QA c k env N (e :: es) vs)
    (hn : x ≠ "__name__" := by decide) (hd : (x == ("__debug__" : Str)) = false := by decide) (st : starEach (e :: es) env = (false, eval e env) :: starEach es env := by rfl) (hpl : (backTo pos (starEach es env)).any (·.1) = false := by rfl) :
    QE c k env N (.Call (.Name x p) (e :: es) [] pos) v := by
  intro A E Q s r i h
  refine wpAny_Call_Name_kw (ld_b O i hg hm hv ?_ hn hd)
  refine PyProof.Rows.callWith_builtin1 (ha pos A E _ s r i fun us g tk rus up => ?_) st hpl
  exact hc A E Q us _ (i.up.tr up) rus fun u g2 tk2 ru up2 => h u g2 tk2 ru (up.tr up2)
theorem q_call {f : Addr} {fd : FuncData} {ps : List Str} {vs : List V} (O : c.Ok) (F : QF c k f fd ps vs v) (hbd : Binds c.K fd ps []) (hl : vs.length = ps.length) (hg : env.kindOf x = some .globalImplicit) (hm : c.mg x = some (.ref f)) (hk : PySem.W.keepIn c.K (.ref f) = true) (ha : QA c k env N (e :: es) vs)
    (hd : (x == ("__debug__" : Str)) = false := by decide) (st : starEach (e :: es) env = (false, eval e env) :: starEach es env := by rfl) (hpl : (backTo pos (starEach es env)).any (·.1) = false := by rfl) :
    QE c k env N (.Call (.Name x p) (e :: es) [] pos) v := by
  intro A E Q s r i h
  refine wpAny_Call_Name_kw (Calls.Name_function_global i.kd hg (Calls.loadGlobal_global (by rw [i.gl]; exact O.glo.keeps i.up) hm ?_) hd)
  refine PySem.W.callWith_K (h₀ := c.hd) O.kin hk (ha pos A E _ s r i fun us g tk rus up => ⟨O.kin.keeps (i.up.tr up), ?_⟩) st hpl
  refine wpAny_call (F A _ ⟨us, []⟩ us _ r (i.up.tr up) (by simpa using hbd _ us (O.kin.keeps (i.up.tr up)) (by simpa [rus.length] using hl)) rus fun u g2 tk2 ru up2 => ?_)
  exact h u g2 tk2 ru (up.tr up2)

/-! ### and, or, not, comparisons -/
theorem q_andF {rest : List Expr} (ha : QE c k env N a (.bl false)) : QE c k env N (.BoolOp .And (a :: b :: rest) pos) (.bl false) := by
  intro A E Q s r i h
  refine BoolOp_and (ha A E _ s r i fun u g tk ru up => ?_)
  cases ru
  exact wpAny_truthy_bool (h _ g tk rfl up)
theorem q_andT {rest : List Expr} (ha : QE c k env N a (.bl true)) (hb : QE c k env N (.BoolOp .And (b :: rest) p) v) : QE c k env N (.BoolOp .And (a :: b :: rest) p) v := by
  intro A E Q s r i h
  refine BoolOp_and (ha A E _ s r i fun u g tk ru up => ?_)
  cases ru
  exact wpAny_truthy_bool (hb A E Q _ r (i.more up) fun u2 g2 tk2 r2 up2 => h u2 g2 tk2 r2 (up.tr up2))
theorem q_orT {rest : List Expr} (ha : QE c k env N a (.bl true)) : QE c k env N (.BoolOp .Or (a :: b :: rest) pos) (.bl true) := by
  intro A E Q s r i h
  refine BoolOp_or (ha A E _ s r i fun u g tk ru up => ?_)
  cases ru
  exact wpAny_truthy_bool (h _ g tk rfl up)
theorem q_orF {rest : List Expr} (ha : QE c k env N a (.bl false)) (hb : QE c k env N (.BoolOp .Or (b :: rest) p) v) : QE c k env N (.BoolOp .Or (a :: b :: rest) p) v := by
  intro A E Q s r i h
  refine BoolOp_or (ha A E _ s r i fun u g tk ru up => ?_)
  cases ru
  exact wpAny_truthy_bool (hb A E Q _ r (i.more up) fun u2 g2 tk2 r2 up2 => h u2 g2 tk2 r2 (up.tr up2))
theorem q_one {op : BoolOp} (ha : QE c k env N a v) : QE c k env N (.BoolOp op [a] pos) v := fun A E Q s r i h => BoolOp_one (ha A E Q s r i h)
theorem q_and2 {p1 p2 : Bool} (ha : QE c k env N a (.bl p1)) (hb : p1 = true → QE c k env N b (.bl p2)) : QE c k env N (.BoolOp .And [a, b] pos) (.bl (p1 && p2)) := by
  cases p1 with
  | false => exact q_andF ha
  | true => exact q_andT ha (q_one (hb rfl))
theorem q_or2 {p1 p2 : Bool} (ha : QE c k env N a (.bl p1)) (hb : p1 = false → QE c k env N b (.bl p2)) : QE c k env N (.BoolOp .Or [a, b] pos) (.bl (p1 || p2)) := by
  cases p1 with
  | true => exact q_orT ha
  | false => exact q_orF ha (q_one (hb rfl))
theorem q_not {t : Bool} (ha : QE c k env N a (.bl t)) : QE c k env N (.UnaryOp .Not a pos) (.bl (!t)) := by
  intro A E Q s r i h
  refine UnaryOp_ (ha A E _ s r i fun u g tk ru up => ?_)
  cases ru
  exact PyProof.Rows.not_of (wpAny_truthy_bool (h _ g tk rfl up))
/-- an operator on two ints -/
def QO (c : Qc) (op : CmpOp) (p : Int → Int → Bool) : Prop := ∀ (A : Around) (E : Value → Shared → Prop) (Q : Value → Shared → Prop) (i j : Int) (t u : Tok) (s : Shared), Q (.bool (p i j)) s → wpAny (model c.prog c.w) A (compareOp op (.int i t) (.int j u)) Q E s
theorem qo_lt : QO c .Lt fun i j => decide (i < j) := fun A E Q i j t u s h => PyProof.Rows.lt_int h
theorem qo_le : QO c .LtE fun i j => decide (i ≤ j) := fun A E Q i j t u s h => PyProof.Rows.le_int h
theorem qo_gt : QO c .Gt fun i j => decide (j < i) := fun A E Q i j t u s h => PyProof.Rows.gt_int h
theorem qo_ge : QO c .GtE fun i j => decide (j ≤ i) := fun A E Q i j t u s h => PyProof.Rows.ge_int h
theorem qo_eq : QO c .Eq fun i j => i == j := fun A E Q i j t u s h => PyProof.Rows.eq_int h
theorem q_cmp {op : CmpOp} {pr : Int → Int → Bool} {i j : Int} (ho : QO c op pr) (ha : QE c k env N a (.int i)) (hb : QE c k env N b (.int j)) (hm : behindInMarks op b = false) : QE c k env N (.Compare a [op] [b] pos) (.bl (pr i j)) := by
  intro A E Q s r i0 h
  refine wpAny_Compare1 (ha A E _ s r i0 fun u g tk ru up => hb A E _ _ r (i0.more up) fun u2 g2 tk2 r2 up2 => ?_) hm
  obtain ⟨t1, rfl⟩ := ru
  obtain ⟨t2, rfl⟩ := r2
  exact ho A E Q i j t1 t2 _ (h _ g2 tk2 rfl (up.tr up2))
theorem q_isN (ha : QE c k env N a v) {j : Nat} {p2 : Pos} : QE c k env N (.Compare a [.Is] [.Constant .none j p2] pos) (.bl (decide (v = .non))) := by
  intro A E Q s r i0 h
  refine wpAny_Compare1 (ha A E _ s r i0 fun u g tk ru up => Constant_none (PyProof.Rows.is_none_gen ?_)) rfl
  refine h _ g tk ?_ up
  show Value.bool (u == .none) = Value.bool (decide (v = .non))
  cases v <;> first
    | (cases ru; rfl)
    | (obtain ⟨t, rfl⟩ := ru; rfl)
/-- a < b < c on ints -/
theorem q_chain {op op' : CmpOp} {pr pr' : Int → Int → Bool} {i j m : Int} {d : Expr} (ho : QO c op pr) (ho' : QO c op' pr') (ha : QE c k env N a (.int i)) (hb : QE c k env N b (.int j)) (hd : QE c k env N d (.int m))
    (hm : lastMarks [op, op'] [b, d] = false := by with_unfolding_all rfl) : QE c k env N (.Compare a [op, op'] [b, d] pos) (.bl (pr i j && pr' j m)) := by
  intro A E Q s r i0 h
  refine Compare_chain (ha A E _ s r i0 fun u g tk ru up => chain_link (hb A E _ _ r (i0.more up) fun u2 g2 tk2 r2 up2 => ?_)) hm
  obtain ⟨t1, rfl⟩ := ru
  obtain ⟨t2, rfl⟩ := r2
  refine ho A E _ i j t1 t2 _ (wpAny_truthy_bool ?_)
  cases q : pr i j with
  | false =>
    rw [q] at h
    exact ite_ff (h _ g2 tk2 rfl (up.tr up2))
  | true =>
    rw [q] at h
    refine ite_tt (chain_last (hd A E _ _ r (i0.more (up.tr up2)) fun u3 g3 tk3 r3 up3 => ?_))
    obtain ⟨t3, rfl⟩ := r3
    refine ho' A E Q j m t2 t3 _ ?_
    have := h (.bool (pr' j m)) g3 tk3 rfl ((up.tr up2).tr up3)
    exact this

/-! ### tests -/
theorem qt_val {t : Bool} (ha : QE c k env N a (.bl t)) (he : ∀ whole, isTrue a env whole = (do let v ← whole; standAt a.pos; holding [v] (truthy v)) := by intro _; rfl) : QT c k env N a t := by
  intro A E Q s r i h
  refine isTrue_plain (ha A E _ s r i fun u g tk ru up => ?_) (he _)
  cases ru
  exact wpAny_truthy_bool (h g tk up)
theorem qt_cmp {op : CmpOp} {pr : Int → Int → Bool} {i j : Int} (ho : QO c op pr) (ha : QE c k env N a (.int i)) (hb : QE c k env N b (.int j)) (hm : behindInMarks op b = false) : QT c k env N (.Compare a [op] [b] pos) (pr i j) := by
  intro A E Q s r i0 h
  refine wpAny_isTrue_Compare1 (ha A E _ s r i0 fun u g tk ru up => hb A E _ _ r (i0.more up) fun u2 g2 tk2 r2 up2 => ?_) hm
  obtain ⟨t1, rfl⟩ := ru
  obtain ⟨t2, rfl⟩ := r2
  exact ho A E _ i j t1 t2 _ (wpAny_truthy_bool (h g2 tk2 (up.tr up2)))
theorem qt_not {t : Bool} (ha : QT c k env N a t) : QT c k env N (.UnaryOp .Not a pos) (!t) := fun A E Q s r i h =>
  isTrue_not (ha A E _ s r i fun g tk up => h g tk up)
theorem qt_orT {rest : List Expr} (ha : QT c k env N a true) : QT c k env N (.BoolOp .Or (a :: rest) pos) true := fun A E Q s r i h =>
  isTrue_or (ha A E _ s r i fun g tk up => ite_tt (h g tk up))
theorem qt_or2 {t : Bool} (ha : QT c k env N a false) (hb : QT c k env N b t) : QT c k env N (.BoolOp .Or [a, b] pos) t := fun A E Q s r i h => by
  refine isTrue_or (ha A E _ s r i fun g tk up => ite_ff ?_)
  refine isTrue_or (hb A E _ _ r (i.more up) fun g2 tk2 up2 => ?_)
  cases t with
  | true => exact ite_tt (h g2 tk2 (up.tr up2))
  | false => exact ite_ff (isTrue_or_nil (h g2 tk2 (up.tr up2)))
theorem qt_andF {rest : List Expr} (ha : QT c k env N a false) : QT c k env N (.BoolOp .And (a :: rest) pos) false := fun A E Q s r i h =>
  isTrue_and (ha A E _ s r i fun g tk up => ite_ff (h g tk up))
theorem qt_and2 {t : Bool} (ha : QT c k env N a true) (hb : QT c k env N b t) : QT c k env N (.BoolOp .And [a, b] pos) t := fun A E Q s r i h => by
  refine isTrue_and (ha A E _ s r i fun g tk up => ite_tt ?_)
  refine isTrue_and (hb A E _ _ r (i.more up) fun g2 tk2 up2 => ?_)
  cases t with
  | true => exact ite_tt (isTrue_and_nil (h g2 tk2 (up.tr up2)))
  | false => exact ite_ff (h g2 tk2 (up.tr up2))

/-! ### blocks -/
theorem qb_ret {rest : List Stmt} (he : QE c k env N e v) : QB c k env N (.Return (some e) pos :: rest) v := by
  intro A E Q s r i _ h
  refine wpAny_execs_cons (wpAny_Return_some (he A E _ s r i fun u g tk ru up => ?_))
  exact h u g tk ru fun b o _ q => up b o q
theorem qb_ifT {body orelse rest : List Stmt} (ht : QT c k env N e true) (hb : QB c k env N body v) : QB c k env N (.If e body orelse pos :: rest) v := by
  intro A E Q s r i hL h
  refine wpAny_execs_cons (wpAny_If (ht A E _ s r i fun g tk up => ite_tt ?_))
  refine hb A E _ _ r (i.more up) hL fun u g2 tk2 ru k2 => ?_
  exact h u g2 tk2 ru fun b o nb q => k2 b o nb (up b o q)
theorem qb_ifF {body rest : List Stmt} (ht : QT c k env N e false) (hb : QB c k env N rest v) : QB c k env N (.If e body [] pos :: rest) v := by
  intro A E Q s r i hL h
  refine wpAny_execs_cons (wpAny_If (ht A E _ s r i fun g tk up => ite_ff (wpAny_execs_nil ?_)))
  refine hb A E _ _ r (i.more up) hL fun u g2 tk2 ru k2 => ?_
  exact h u g2 tk2 ru fun b o nb q => k2 b o nb (up b o q)
end
end Qt

namespace Qt
open PySem PySem.Spec PyProof.Rows L2

/-! ### kinds, sizes -/
/-- the class of a thing that is read -/
inductive Knd (c : Qc) : V → String → Prop where
  | non : Knd c .non "NoneType"
  | bl (b : Bool) : Knd c (.bl b) "bool"
  | int (i : Int) : Knd c (.int i) "int"
  | str (z : Str) : Knd c (.str z) "str"
  | lst {a : Addr} (h : PySem.W.KitAt a "list" c.hd) : Knd c (.ref a) "list"
  | tup {a : Addr} (h : PySem.W.KitAt a "tuple" c.hd) : Knd c (.ref a) "tuple"
  | dic {a : Addr} (h : PySem.W.KitAt a "dict" c.hd) : Knd c (.ref a) "dict"
theorem kitAt_up {a : Addr} {T : String} {h g : Heap} (k : Up h g) (x : PySem.W.KitAt a T h) : PySem.W.KitAt a T g :=
  let ⟨o, e, q⟩ := x; ⟨o, k _ _ e, q⟩
theorem qc_isi {c : Qc} {x : V} {T C : String} {b : Bool} (O : c.Ok) (ky : Knd c x T) (e : PySem.W.kitOne c.K (.type T) (.type C) = some b) : QC c "isinstance" [x, .ty C] (.bl b) := by
  intro A E Q us s up r h
  cases r with
  | @cons _ u1 _ _ r1 r' =>
    cases r' with
    | @cons _ u2 _ _ r2 r'' =>
      cases r''
      obtain rfl : u2 = Value.type C := r2
      have fin : ∀ tk, Q (.bool b) { s with toks := tk } := fun tk => h _ s.heap tk rfl Up.rfl'
      have kin := O.kin.keeps up
      cases ky with
      | non => cases r1; exact PySem.W.kia_one PySem.W.kitx_none kin trivial e (fun z => by cases z) fin
      | bl y => cases r1; exact PySem.W.kia_one PySem.W.kitx_bool kin trivial e (fun z => by cases z) fin
      | int i => obtain ⟨t, rfl⟩ := r1; exact PySem.W.kia_one PySem.W.kitx_int kin trivial e (fun z => by cases z) fin
      | str z => obtain ⟨t, rfl⟩ := r1; exact PySem.W.kia_one PySem.W.kitx_str kin trivial e (fun z => by cases z) fin
      | lst p => cases r1; exact PySem.W.kia_one PySem.W.kitx_list kin (kitAt_up up p) e (fun z => by cases z) fin
      | tup p => cases r1; exact PySem.W.kia_one PySem.W.kitx_tuple kin (kitAt_up up p) e (fun z => by cases z) fin
      | dic p => cases r1; exact PySem.W.kia_one PySem.W.kitx_dict kin (kitAt_up up p) e (fun z => by cases z) fin
/-- a tuple that is read -/
def TupQ (c : Qc) (a : Addr) (xs : List V) : Prop := ∃ its : List Value, Vals xs its ∧ IsTup c.hd a its.toArray ∧ xs.length ≤ sizeLine
theorem TupQ.kit {c : Qc} {a : Addr} {xs : List V} (t : TupQ c a xs) : Knd c (.ref a) "tuple" := by
  obtain ⟨its, _, ⟨o, e, q, _⟩, _⟩ := t
  exact .tup ⟨o, e, q⟩
theorem isTup_up {h g : Heap} {a : Addr} {vs : Array Value} (k : Up h g) (t : IsTup h a vs) : IsTup g a vs :=
  let ⟨o, e, q⟩ := t; ⟨o, k _ _ e, q⟩
theorem qc_lenT {c : Qc} {a : Addr} {xs : List V} (t : TupQ c a xs) : QC c "len" [.ref a] (.int xs.length) := by
  intro A E Q us s up r h
  obtain ⟨its, rv, ht, hz⟩ := t
  cases r with
  | @cons _ u1 _ _ r1 r' =>
    cases r'
    obtain rfl : u1 = Value.ref a := r1
    have hl := rv.length
    have h63 := line63
    refine PyProof.Rows.len_tuple (isTup_up up ht) (by simp only [List.size_toArray]; omega) ?_
    exact h _ s.heap _ ⟨_, by rw [List.size_toArray, hl]⟩ Up.rfl'
/-! ### a, b = t -/
theorem qb_two {c : Qc} {k : Nat} {env : Env} {N : Nm} {x y : Str} {a : Addr} {v1 v2 v : V} {e : Expr} {rest : List Stmt} {pos p1 p2 p3 : Pos} {kt : Nat} (he : QE c k env N e (.ref a)) (ht : TupQ c a [v1, v2]) (hx : env.kindOf x = some .local) (hy : env.kindOf y = some .local)
    (hN : ∀ z, N.lookup z ≠ none → env.kindOf z = some .local) (hb : QB c k env ((y, v2) :: (x, v1) :: N) rest v)
    (hs : swapsWithSole [.Tuple [.Name x p1, .Name y p2] kt p3] e pos.line env = pure false := by rfl) (hw : swappedStores [.Tuple [.Name x p1, .Name y p2] kt p3] e env = pure none := by rfl)
    (h1 : (assignEach [.Tuple [.Name x p1, .Name y p2] kt p3] env).map (·.2) = [assign (.Tuple [.Name x p1, .Name y p2] kt p3) env] := by rfl)
    (h2 : (assignEach [.Name x p1, .Name y p2] env).map (·.2) = [assign (.Name x p1) env, assign (.Name y p2) env] := by rfl)
    (hn : (assignEach [.Name x p1, .Name y p2] env).length = 2 := by rfl) (hst : (assignEach [.Name x p1, .Name y p2] env).findIdx? (·.1) = none := by rfl) :
    QB c k env N (.Assign [.Tuple [.Name x p1, .Name y p2] kt p3] e pos :: rest) v := by
  intro A E Q s r i hL h
  obtain ⟨its, rv, ht, hz⟩ := ht
  obtain ⟨w1, w2, rfl, r1, r2⟩ := vals2 rv
  have hpl : (env.scope.kind == .class || (env.scope.kind == .module && env.locals != env.globals)) = false := by rw [i.kd]; rfl
  refine wpAny_execs_cons (wpAny_Assign_stores (he A E _ s r i fun u g tk ru up => ?_) hs hw)
  obtain rfl : u = Value.ref a := ru
  have i1 := i.more up
  rw [h1]
  show wpAny _ A (assign (.Tuple [.Name x p1, .Name y p2] kt p3) env (.ref a)) _ _ _
  refine assign_Tuple_tuple r.hd (isTup_up i1.up ht) (by rw [hn]; rfl) hst fun g1 hx1 => ?_
  rw [h2]
  have up1 : Up g g1 := fun b o q => hx1 b o (Nat.ne_of_lt (Heap.lt_size q)) q
  have i2 := i1.more up1
  obtain ⟨m, n, q⟩ := i2.nm
  refine assignInOrder_cons (wpAny_assign_Name (wpAny_storeName_local hx n (fun g2 n2 sb2 => ?_) hpl))
  refine assignInOrder_cons (wpAny_assign_Name (wpAny_storeName_local hy n2 (fun g3 n3 sb3 => assignInOrder_nil ?_) hpl))
  have k13 : ∀ b o, b ≠ env.locals → g1.get? b = some o → g3.get? b = some o := fun b o nb q => sb3.extBut b o nb (sb2.extBut b o nb q)
  have nL : ∀ b o, c.hd.get? b = some o → b ≠ env.locals := fun b o q z => by
    rw [z, hL] at q
    cases q
  have i3 : At c env ((y, v2) :: (x, v1) :: N) g3 := by
    refine ⟨fun b o q => k13 b o (nL b o q) (i2.up b o q), i.kd, i.gl, i.bl, _, n3, fun z vz hz2 => ?_⟩
    by_cases ez : z = y
    · subst ez
      have e2 : v2 = vz := by simpa [List.lookup] using hz2
      exact ⟨w2, e2 ▸ r2, .inl ⟨hy, if_pos rfl⟩⟩
    · have ez' : (z == y) = false := by simpa using ez
      by_cases ex : z = x
      · subst ex
        have e2 : v1 = vz := by simpa [List.lookup, ez'] using hz2
        exact ⟨w1, e2 ▸ r1, .inl ⟨hx, by show (if z = y then _ else (if z = z then _ else _)) = _; rw [if_neg ez, if_pos rfl]⟩⟩
      · have ex' : (z == x) = false := by simpa using ex
        have e2 : N.lookup z = some vz := by simpa [List.lookup, ez', ex'] using hz2
        obtain ⟨u, ru, l⟩ := q z vz e2
        refine ⟨u, ru, .inl ?_⟩
        rcases l with ⟨l1, l2⟩ | ⟨l1, _⟩
        · exact ⟨l1, by show (if z = y then _ else (if z = x then _ else m z)) = _; rw [if_neg ez, if_neg ex]; exact l2⟩
        · have l3 := hN z (by rw [e2]; simp)
          rw [l3] at l1
          rcases l1 with l1 | l1 <;> cases l1
  refine hb A E Q _ r i3 hL fun u g4 tk4 ru k4 => ?_
  exact h u g4 tk4 ru fun b o nb q => k4 b o nb (k13 b o nb (up1 b o (up b o q)))

/-! ### a def entered -/
theorem zip_look {α : Type} {x : Str} {v : α} : ∀ {ps : List Str} {vs : List α}, (ps.zip vs).lookup x = some v → ∃ i : Nat, ps[i]? = some x ∧ vs[i]? = some v
  | [], _, h => by simp [List.lookup] at h
  | _ :: _, [], h => by simp [List.lookup] at h
  | p :: ps, w :: vs, h => by
    by_cases e : x = p
    · subst e
      refine ⟨0, rfl, ?_⟩
      simpa [List.lookup] using h
    · have e' : (x == p) = false := by simpa using e
      have h2 : (ps.zip vs).lookup x = some v := by simpa [List.lookup, e'] using h
      obtain ⟨i, h3, h4⟩ := zip_look h2
      exact ⟨i + 1, h3, h4⟩
theorem q_fun {c : Qc} {k : Nat} {x qual : Str} {st : Stmt} {f : Addr} {fd : FuncData} {N0 ps : List Str} {vs : List V} {v : V} (O : c.Ok) (F : Fun c.K x qual st f fd) (S : FnScope N0 ps (defScope st))
    (loc : ∀ p ∈ ps, (defScope st).names.lookup p = some .local) (hl : vs.length = ps.length) (body : ∀ (L : Addr) (cdv : Value), QB c k (envOfC qual (defScope st) L f cdv) (ps.zip vs) (defBody st) v) : QF c (k + 1) f fd ps vs v := by
  intro A R args us s r up bt rv h
  obtain ⟨oc, od, kV, doc, pm, an, cdv, ct, osl, e, lk, hcd⟩ := F.ex
  have kin := O.kin.keeps up
  have ndP : ps.Nodup := by rw [← S.pre]; exact S.nd.sublist (List.take_sublist _ _)
  rw [e] at bt lk
  refine Att.call_fn (binds := ps.zip us) kin (O.lim.keeps up) lk hcd (by have := r.dp; omega) bt ?_ (fun s1 IC => ?_) S.co S.gen S.kind
  · rw [List.all_eq_true]
    intro y hy
    have q := loc y.1 (List.of_mem_zip hy).1
    rw [q]
    rfl
  · obtain ⟨g, tk, rfl, hk⟩ := IC.done
    have hL : c.hd.get? s.heap.objs.size = none := up_lt up (Nat.le_refl _)
    have i : At c (envOfC qual (defScope st) s.heap.objs.size f cdv) (ps.zip vs) g := by
      refine ⟨up.tr hk, S.kind, rfl, rfl, _, IC.toInCall.ns, fun z vz hz => ?_⟩
      obtain ⟨j, h3, h4⟩ := zip_look hz
      obtain ⟨u, h5, h6⟩ := rv.get h4
      have kz := loc z (List.mem_of_getElem? h3)
      exact ⟨u, h6, .inl ⟨kz, bindL_get ndP h3 h5 kz⟩⟩
    refine body s.heap.objs.size cdv _ _ _ _ (r.deeper _) i hL fun u g2 tk2 ru k2 => ?_
    refine h u g2 tk2 ru fun b o q => k2 b o (Nat.ne_of_lt (Heap.lt_size q)) (hk b o q)
/-- a quiet def, called as any other -/
theorem fn_ofQ {P : Program} {w : World} {K : PySem.W.Frag} {mg : Str → Option Value} {base : Heap} {CX : CXT} {k : Nat} {f : Addr} {fd : FuncData} {ps : List Str} {sp : Sp} (len : ∀ vs H Q E, sp vs H Q E → vs.length = ps.length)
    (h : ∀ vs H Q E, sp vs H Q E → ∃ v, Q v H ∧ ∀ hd, (Qc.mk P w K mg H hd).Ok → QF ⟨P, w, K, mg, H, hd⟩ (3 * k) f fd ps vs v) : FnOk P w K mg base CX k f fd ps sp := by
  refine ⟨len, fun A outer s H args us vs Q E rm e0 bt rv hs => ?_⟩
  obtain ⟨v, q, hQ⟩ := h vs H Q E hs
  have up0 : ∀ b o, base.get? b = some o → s.heap.get? b = some o := fun b o e => (e0.bs b o e).1
  have OK : (Qc.mk P w K mg H s.heap).Ok := ⟨e0.mod.kin.keeps up0, e0.mod.glob.keeps up0, let ⟨mb, q1, q2⟩ := e0.mod.blt; ⟨mb, q1.keeps up0, q2⟩, e0.mod.nolimit.keeps up0, e0.hok⟩
  have hd := rm.dp
  refine hQ s.heap OK A _ args us s ⟨rm.hd, by omega⟩ Up.rfl' bt rv fun u g tk ru up => ?_
  exact ⟨v, H, rfl, e0.bare, Un.kept up, e0.hok.kept up, ru, q⟩
end Qt

namespace Qt
open PySem PySem.Spec PyProof.Rows L2

/-- what is held, the tables of code left out -/
def wipe (H : Hp) (P : Addr) : Hp := fun a => if a = P then none else H a
theorem wipe_of {H : Hp} {P a : Addr} {o : HO} (h : wipe H P a = some o) : a ≠ P ∧ H a = some o := by
  unfold wipe at h
  by_cases e : a = P
  · rw [if_pos e] at h
    cases h
  · rw [if_neg e] at h
    exact ⟨e, h⟩
theorem wipe_at {H : Hp} {P a : Addr} {o : HO} (e : a ≠ P) (h : H a = some o) : wipe H P a = some o := by
  unfold wipe
  rw [if_neg e]
  exact h
/-- a thing that a generator goes over: a tuple or a list, of the values its -/
structure Src (pr : Program) (w : World) (h1 : Heap) (ad : Addr) (its : Array Value) (o : Obj) (St : Addr → Nat → Heap → Prop) : Prop where
  lt : ad < h1.objs.size
  iter : ∀ (A : Around) (E Q : Value → Shared → Prop) (s : Shared), s.heap = h1 → Q (.ref h1.objs.size) { s with heap := h1.push o } → wpAny (model pr w) A (pyIter (.ref ad)) Q E s
  walks : ∀ (A : Around) (I : Addr), A.handled = none → ad ≠ I → Walks pr w A I [I, ad] [I] its.size (fun i v => its[i]? = some v) (St I)
  st0 : ∀ g : Heap, (∀ b u, (b = ad ∨ b = h1.objs.size) → (h1.push o).get? b = some u → g.get? b = some u) → St h1.objs.size 0 g
theorem src_list {pr : Program} {w : World} {h1 : Heap} {ad : Addr} {its : Array Value} (hl : h1.IsList ad its) :
    Src pr w h1 ad its { cls := .type "list_iterator", data := .fields #[.ref ad, .int 0 0] } (fun I i h => h.IsListIter I ad i ∧ h.IsList ad its) where
  lt := by
    obtain ⟨_, e, _⟩ := id hl
    exact Heap.lt_size e
  iter := fun A E Q s es h => by
    subst es
    exact wpAny_pyIter_list hl h
  walks := fun A I hh ne => Walks.list hh I ad ne its
  st0 := fun g k => ⟨⟨_, k _ _ (.inr rfl) (Heap.get?_push_size _ rfl), rfl, rfl⟩, by
    obtain ⟨ob, e, r⟩ := id hl
    exact ⟨ob, k _ _ (.inl rfl) (Heap.get?_push_of_some _ e), r⟩⟩
theorem src_tup {pr : Program} {w : World} {h1 : Heap} {ad : Addr} {its : Array Value} (hl : IsTup h1 ad its) :
    Src pr w h1 ad its { cls := .type "tuple_iterator", data := .fields #[.ref ad, .int 0 0] } (fun I i h => h.IsTupleIter I ad i ∧ h.IsTuple ad its) where
  lt := by
    obtain ⟨_, e, _⟩ := id hl
    exact Heap.lt_size e
  iter := fun A E Q s es h => by
    subst es
    exact wpAny_pyIter_tuple hl h
  walks := fun A I hh ne => Walks.tuple hh I ad ne its
  st0 := fun g k => ⟨⟨_, k _ _ (.inr rfl) (Heap.get?_push_size _ rfl), rfl, rfl⟩, by
    obtain ⟨ob, e, r⟩ := id hl
    exact ⟨ob, k _ _ (.inl rfl) (Heap.get?_push_of_some _ e), r⟩⟩

section
variable {X : Cx} {pins : List (Addr × Obj)} {σ : L2.St} {H : Hp} {s : Shared}
theorem seq_src (I : Inv X pins σ H s) {ad : Addr} {xs : List V} (h : SqT X.K H ad xs ∨ SqL X.K H ad xs) :
    ∃ (its : List Value) (o : Obj) (St : Addr → Nat → Heap → Prop), Vals xs its ∧ Src X.prog X.w s.heap ad its.toArray o St ∧ (∀ ps, o.data ≠ .fields ps ∨ o.cls ≠ .none) := by
  rcases h with h | h
  · obtain ⟨its, rv, ht, _⟩ := I.tuple h
    exact ⟨its, _, _, rv, src_tup ht, fun ps => .inr fun z => by cases z⟩
  · obtain ⟨its, rv, hl, _⟩ := I.list h
    exact ⟨its, _, _, rv, src_list hl.isList, fun ps => .inr fun z => by cases z⟩

/-- what the element of a generator expression is, for the item xv: a truth -/
def Elt (X : Cx) (kk : Nat) (scope : Scope) (x : Str) (elt : Expr) (caps : Nm) (Hw : Hp) (xs : List V) (bs : List Bool) : Prop :=
  bs.length = xs.length ∧ ∀ (hd : Heap) (env : Env), (Qc.mk X.prog X.w X.K X.mg Hw hd).Ok → env.scope = scope → ∀ (j : Nat) (xv : V) (b : Bool), xs[j]? = some xv → bs[j]? = some b → QE ⟨X.prog, X.w, X.K, X.mg, Hw, hd⟩ kk env ((x, xv) :: caps) elt (.bl b)
/-- the captured names' values -/
def Caps (X : Cx) (scope : Scope) (x : Str) (σ : L2.St) (caps : Nm) : Prop := ∀ y v, caps.lookup y = some v → y ≠ x ∧ (y, NameKind.free) ∈ scope.names ∧ scope.names.lookup y = some .free ∧ ∃ i : Nat, X.N[i]? = some y ∧ σ[i]? = some (some v) ∧ X.env.scope.names.lookup y = some .cell

/-- the truth at place j -/
def trB (bs : List Bool) (j : Nat) : Bool := bs.getD j false
theorem trB_some {bs : List Bool} {j : Nat} {b : Bool} (h : bs[j]? = some b) : trB bs j = b := by
  unfold trB
  rw [List.getD_eq_getElem?_getD, h]
  rfl
theorem trB_all (bs : List Bool) : (List.range bs.length).all (trB bs) = bs.all id := by
  rw [Bool.eq_iff_iff, List.all_eq_true, List.all_eq_true]
  refine ⟨fun h b hb => ?_, fun h j hj => ?_⟩
  · obtain ⟨j, hj, e⟩ := List.getElem_of_mem hb
    have q := h j (List.mem_range.mpr hj)
    rwa [trB_some (List.getElem?_eq_getElem hj), e] at q
  · have hj' := List.mem_range.mp hj
    rw [trB_some (List.getElem?_eq_getElem hj')]
    exact h _ (List.getElem_mem hj')
theorem trB_any (bs : List Bool) : (List.range bs.length).any (trB bs) = bs.any id := by
  rw [Bool.eq_iff_iff, List.any_eq_true, List.any_eq_true]
  refine ⟨fun ⟨j, hj, h⟩ => ?_, fun ⟨b, hb, h⟩ => ?_⟩
  · have hj' := List.mem_range.mp hj
    rw [trB_some (List.getElem?_eq_getElem hj')] at h
    exact ⟨_, List.getElem_mem hj', h⟩
  · obtain ⟨j, hj, e⟩ := List.getElem_of_mem hb
    exact ⟨j, List.mem_range.mpr hj, by rw [trB_some (List.getElem?_eq_getElem hj), e]; exact h⟩

/-- the generator g is made, to be gone through -/
def Made (X : Cx) (pins : List (Addr × Obj)) (σ : L2.St) (H1 : Hp) (P : Addr) (xs : List V) (bs : List Bool) (g : Addr) (s5 : Shared) : Prop :=
  ∃ (fp wr : List Addr) (G : Array GenState → Array GenState → Prop) (F : Nat → Value → Prop) (St : Nat → Shared → Prop),
    WalksS X.prog X.w X.A.in1 g fp wr G bs.length F St ∧ St 0 s5 ∧ TruthOf X.prog X.w X.A.in1 F (trB bs) ∧ ∀ s', Moved wr G s5 s' → ∃ H2, GxR.Tabbed P H1 H2 ∧ Inv X pins σ H2 s'

theorem gen_made {c P : Addr} {elt iter : Expr} {x : Str} {px gpos : Pos} {scope : Scope} {te : TE} {k : Nat} {Z : Value → Shared → Prop} {R : List V → List Bool → Hp → Prop}
    (rm : Room (k + 2) X.A) (TB : GxR.TabB X.base X.mg c P) (hcode : X.env.code = .ref c) (GS : GxR.GenS X.env scope x) (hi : PE X iter te)
    (hs : ∀ v, genFold iter X.env v = pure v) (I : Inv X pins σ H s)
    (h : te σ H fun v H1 => ∃ (ad : Addr) (xs : List V) (bs : List Bool) (caps : Nm), v = .ref ad ∧ (SqT X.K H1 ad xs ∨ SqL X.K H1 ad xs) ∧ GxR.TabG H1 P ∧ Caps X scope x σ caps ∧ Elt X (3 * k) scope x elt caps (wipe H1 P) xs bs ∧ R xs bs H1)
    (hZ : ∀ xs bs H1 g s5, R xs bs H1 → Made X pins σ H1 P xs bs g s5 → Z (.ref g) s5) :
    wpAny (model X.prog X.w) X.A (eval (.GeneratorExp elt [⟨.Name x px, iter, [], 0⟩] scope gpos) X.env) Z X.xe s := by
  have hdp := rm.dp
  refine wpAny_GeneratorExp_walksQD rm.hd GS.co (closure_ok GS.free) GS.cell GS.dot GS.loc GS.kind rm.depth ?_ hs
  refine thn (hi.run pins s σ H _ I h) fun xv s1 hx => ?_
  obtain ⟨v, H1, I1, r1, ad, xs, bs, caps, ev, hsq, ⟨ps, hP, htr⟩, hcap, hel, hR⟩ := hx
  subst ev
  obtain rfl : xv = Value.ref ad := r1
  obtain ⟨its, o, St, rv, S, hno⟩ := seq_src I1 hsq
  have hlen : its.length = xs.length := rv.length.symm
  have hPs : s1.heap.get? P = some { cls := .none, data := .fields ps } := I1.hok P _ hP
  have hPlt : P < s1.heap.objs.size := Heap.lt_size hPs
  have adP : ad ≠ P := by
    rintro rfl
    rcases hsq with hq | hq
    · obtain ⟨_, _, ⟨ob, e, ec, _⟩, _⟩ := I1.tuple hq
      rw [hPs] at e
      cases e
      cases ec
    · obtain ⟨_, _, hl, _⟩ := I1.list hq
      obtain ⟨ob, _, e, ec, _⟩ := id hl
      rw [hPs] at e
      cases e
      cases ec
  refine S.iter _ _ _ _ rfl ?_
  have push_ok : ∀ b u, s1.heap.get? b = some u → (s1.heap.push o).get? b = some u := fun b u e => Heap.get?_push_of_some _ e
  have hPo := push_ok P _ hPs
  have lim2 : (s1.heap.push o).NoLimit := I1.nolimit.push o
  have cd : PySem.W.CodeHd (s1.heap.push o) c P := TB.code.keeps fun b u e => push_ok b u (I1.bk b u e)
  have go : ∀ (code : Value) (h3 : Heap) (tk : Nat) (ps' : Array Value), Heap.ExtBut P (s1.heap.push o) h3 → (s1.heap.push o).objs.size ≤ h3.objs.size → h3.get? P = some { cls := .none, data := .fields ps' } → (∃ more, ps' = ps ++ more) → TriplesOk ps'.toList →
      wpAny (model X.prog X.w) X.A (builtinsFor X.env.globals X.env.builtins) (fun bi s₄ =>
        ∃ Ia fp wr n₀ Pf St₀ pz F, Value.ref s1.heap.objs.size = .ref Ia ∧ (∀ A' : Around, A'.handled = none → Walks X.prog X.w A' Ia fp wr n₀ Pf St₀) ∧ St₀ 0 s₄.heap ∧ (∀ b ∈ fp, b < s₄.heap.objs.size) ∧ s₄.heap.NoLimit ∧ cStatics ∉ wr ∧
          (∀ hr : Heap, (∀ b u, s₄.heap.get? b = some u → hr.get? b = some u) →
            QuietGenD X.prog X.w (genEnv scope (cloFrom X.env.cells scope.names []) s₄.heap.objs.size code bi X.env) x [] elt (List.range s₄.heap.objs.size) wr Pf pz F hr (X.A.depth + 1) (X.A.units + 8)) ∧
          (∀ a h₅ tk gs, gs.bare = true → s₄.heap.objs.size < a → h₅.objs.size = a + 1 → (∀ b u, s₄.heap.get? b = some u → h₅.get? b = some u) →
            WalksS X.prog X.w X.A.in4 a (a :: s₄.heap.objs.size :: List.range s₄.heap.objs.size) (s₄.heap.objs.size :: wr) (GenOnlyQ s₄.gens.size) (passing pz n₀ 0).length
              (fun j y => ∃ i, (passing pz n₀ 0)[j]? = some i ∧ F i y) (GenAt X.prog X.w X.A.in4 a s₄.gens.size s₄.heap.objs.size (List.range s₄.heap.objs.size) wr pz n₀ F) →
            GenAt X.prog X.w X.A.in4 a s₄.gens.size s₄.heap.objs.size (List.range s₄.heap.objs.size) wr pz n₀ F 0 { s₄ with gens := s₄.gens.push gs, toks := tk, heap := h₅ } →
            Z (.ref a) { s₄ with gens := s₄.gens.push gs, toks := tk, heap := h₅ })) X.xe { s1 with heap := h3, toks := tk } := by
    intro code h3 tk ps' hx hsz hP3 hmore ht3
    obtain ⟨bm, ob, e1, e2, e3, e4, e5, e6, e7, e8⟩ := TB.bm
    have szo : (s1.heap.push o).objs.size = s1.heap.objs.size + 1 := Heap.size_push ..
    have k3 : ∀ b u, b ≠ P → s1.heap.get? b = some u → h3.get? b = some u := fun b u hb e => hx b u hb (push_ok b u e)
    have hcP : cStatics ≠ P := by
      rintro rfl
      obtain ⟨_, hns, _⟩ := I1.nolimit
      obtain ⟨o', es, ep, ho, hd, _⟩ := hns
      rw [hPs] at ho
      cases ho
      cases hd
    have hcl : cStatics < s1.heap.objs.size := let ⟨_, hns, _⟩ := I1.nolimit; hns.lt
    refine wpAny_builtinsFor (m := X.mg) (by rw [I1.ok.glob]; exact ((I1.mod.glob.keeps I1.bk).push o).extBut hx TB.gP) e1 e2 (k3 _ _ e4 (I1.bk _ _ e5)) e6 e7 e8 ?_
    have hi3 : s1.heap.objs.size < h3.objs.size := by omega
    refine ⟨s1.heap.objs.size, [s1.heap.objs.size, ad], [s1.heap.objs.size], its.toArray.size, (fun i v => its.toArray[i]? = some v), St s1.heap.objs.size, (fun _ => true), (fun i y => ∃ b, bs[i]? = some b ∧ y = .bool b), rfl,
      fun A' hA => S.walks A' _ hA (Nat.ne_of_lt S.lt), ?_, ?_, lim2.extBut hx hcP, ?_, ?_, ?_⟩
    · refine S.st0 h3 fun b u hb e => hx b u (fun z => ?_) e
      rcases hb with hb | hb
      · exact adP (hb.symm.trans z)
      · exact Nat.ne_of_gt hPlt (hb.symm.trans z)
    · intro b hb
      simp only [List.mem_cons, List.not_mem_nil, or_false] at hb
      rcases hb with hb | hb
      · rw [hb]; exact hi3
      · rw [hb]; exact Nat.lt_trans S.lt hi3
    · intro z
      simp only [List.mem_cons, List.not_mem_nil, or_false] at z
      exact Nat.ne_of_lt hcl z
    · intro hr hhr
      obtain ⟨hd, g1, g2⟩ := restrict h3 fun b => decide (b ≠ s1.heap.objs.size)
      have old : ∀ b u, b ≠ P → s1.heap.get? b = some u → hd.get? b = some u := fun b u nb e => by
        rw [g1 b (decide_eq_true (Nat.ne_of_lt (Heap.lt_size e)))]
        exact k3 b u nb e
      have up3 : Up hd h3 := fun b u e => by
        by_cases hb : b = s1.heap.objs.size
        · rw [g2 b (by simp [hb])] at e
          cases e
        · rw [g1 b (decide_eq_true hb)] at e
          exact e
      have bP : ∀ b u, X.base.get? b = some u → b ≠ P := fun b u e z => by
        have q := (I1.bs b u e).2
        rw [z, hP] at q
        cases q
      have bup : ∀ b u, X.base.get? b = some u → hd.get? b = some u := fun b u e => old b u (bP b u e) (I1.bk b u e)
      have OK : (Qc.mk X.prog X.w X.K X.mg (wipe H1 P) hd).Ok := by
        obtain ⟨mb, q1, q2⟩ := I1.mod.blt
        refine ⟨I1.mod.kin.keeps bup, I1.mod.glob.keeps bup, ⟨mb, q1.keeps bup, q2⟩, I1.mod.nolimit.keeps bup, fun a u e => ?_⟩
        obtain ⟨na, e⟩ := wipe_of e
        have noP : ∀ b, H1 b = some (.own a) → b ≠ P := fun b q z => by
          rw [z, hP] at q
          cases q
        refine (I1.hok a u e).stay (fun b u' hb q => old b u' ?_ q) (fun b q => wipe_at (noP b q) q) (fun b ys q => wipe_at (fun z => ?_) q)
        · rcases hb with hb | hb
          · rw [hb]; exact na
          · exact noP b hb
        · rw [z, hP] at q
          cases q
      have seen : ∀ s₂ : Shared, (∀ b ∈ List.range h3.objs.size, b ∉ [s1.heap.objs.size] → ∀ u, hr.get? b = some u → s₂.heap.get? b = some u) → Up hd s₂.heap := fun s₂ hk b u e => by
        have h3e := up3 b u e
        refine hk b (List.mem_range.mpr (Heap.lt_size h3e)) (fun z => ?_) u (hhr b u h3e)
        have hb : b = s1.heap.objs.size := by simpa using z
        rw [g2 b (by simp [hb])] at e
        cases e
      refine ⟨fun A' E' i v s₂ m₂ hA _ _ hPv hn hm hk => ?_, fun A' E' i v s₂ m₂ hA hAd _ hPv hp hn hm hk => ?_⟩
      · simp only [List.forIn_nil]
        exact wpAny_pure ⟨rfl, GxR.keeps_refl _⟩
      · have hv2 : its[i]? = some v := by simpa using hPv
        have hix : i < xs.length := by rw [← hlen]; exact (List.getElem?_eq_some_iff.mp hv2).1
        obtain ⟨xv, hxv⟩ : ∃ xv, xs[i]? = some xv := ⟨xs[i], List.getElem?_eq_getElem hix⟩
        obtain ⟨u, hu, ru⟩ := rv.get hxv
        rw [hv2] at hu
        cases hu
        have at2 : At ⟨X.prog, X.w, X.K, X.mg, wipe H1 P, hd⟩ (genEnv scope (cloFrom X.env.cells scope.names []) h3.objs.size code builtinsNs X.env) ((x, xv) :: caps) s₂.heap := by
          have upS := seen s₂ hk
          refine ⟨upS, GS.kind, I1.ok.glob, rfl, m₂, hn, fun y vy hy => ?_⟩
          by_cases ey : y = x
          · subst ey
            have e9 : xv = vy := by simpa [List.lookup] using hy
            exact ⟨v, e9 ▸ ru, .inl ⟨GS.loc, hm⟩⟩
          · have ey' : (y == x) = false := by simpa using ey
            have hy2 : caps.lookup y = some vy := by simpa [List.lookup, ey'] using hy
            obtain ⟨_, hmem, hfr, j, hj, hσ, hcl2⟩ := hcap y vy hy2
            obtain ⟨m1, hn1, hloc⟩ := I1.loc
            obtain ⟨u9, r9, l9⟩ := hloc j y vy hj hσ (.inr (.inl hcl2))
            refine ⟨u9, r9, .inr ⟨.inr hfr, ?_⟩⟩
            rcases l9 with ⟨l9, _⟩ | ⟨_, ca, hca, hic⟩
            · have l8 : X.env.scope.names.lookup y = some .local := l9
              rw [hcl2] at l8
              cases l8
            · refine ⟨ca, NdefX.clo_has GS.free hmem hca, ?_⟩
              obtain ⟨oc, ec, rc⟩ := hic
              have nP : ca ≠ P := fun z => by
                have q := I1.freeC y ca hca
                rw [z, hP] at q
                cases q
              exact ⟨oc, upS _ _ (old _ _ nP ec), rc⟩
        obtain ⟨b, hb⟩ : ∃ b, bs[i]? = some b := ⟨bs[i]'(by rw [hel.1]; exact hix), List.getElem?_eq_getElem _⟩
        refine hel.2 hd _ OK rfl i xv b hxv hb A' E' _ s₂ ⟨hA, by omega⟩ at2 fun u9 g9 tk9 r9 up9 => ?_
        exact ⟨⟨b, hb, r9⟩, g9, tk9, rfl, up9⟩
    · intro g h5 tk5 gs hgb hag hsz5 hk5 W5 hgat
      simp only [GxR.passing_true, List.length_range] at W5
      have hn5 : its.toArray.size = bs.length := by rw [List.size_toArray, hlen, hel.1]
      rw [hn5] at W5 hgat
      refine hZ xs bs H1 g _ hR ⟨_, _, _, _, _, W5.in4_1, hgat, ?_, fun s' hm => ?_⟩
      · intro j y sj Qj Ej hy hQj
        obtain ⟨i, hij, b, hxv, rfl⟩ := hy
        obtain ⟨hj, ej⟩ := List.getElem?_eq_some_iff.mp hij
        rw [List.getElem_range] at ej
        subst ej
        have hQ2 : Qj (trB bs j) sj := hQj
        rw [trB_some hxv] at hQ2
        exact wpAny_truthy_bool hQ2
      · obtain ⟨more, em⟩ := hmore
        have nwr : ∀ b u, s1.heap.get? b = some u → b ∉ h3.objs.size :: [s1.heap.objs.size] := fun b u e hb => by
          have hl := Heap.lt_size e
          simp only [List.mem_cons, List.not_mem_nil, or_false] at hb
          rcases hb with hb | hb
          · rw [hb] at hl
            exact absurd (Nat.lt_trans hl hi3) (Nat.lt_irrefl _)
          · rw [hb] at hl
            exact Nat.lt_irrefl _ hl
        have J := GxR.inv_tab (more := more) (h' := s'.heap) (g' := s'.gens) (d' := s'.drawn) (t' := s'.toks) I1 hP (fun b u hb e => hm.heap b u (nwr b u e) (hk5 b u (k3 b u hb e)))
          (by rw [← em]; exact hm.heap P _ (nwr P _ hPs) (hk5 P _ hP3)) (AllBare.movedS (I1.bare.push hgb) hm)
        rw [GxR.sh_eta s1 s' hm.os] at J
        exact ⟨upd H1 P (.tbl (ps ++ more)), ⟨⟨ps ++ more, upd_same, by rw [← em]; exact ht3⟩, fun b hb => upd_ne hb⟩, J⟩
  refine ⟨lim2, ?_⟩
  cases hf : codeAmong gpos ps.toList with
  | none =>
    refine wpAny_genexprCodeX hcode (cd.code hPo htr) (cd.tab hPo) hf fun c' h' tk hx hge hlt hco' _ htab' _ => ?_
    obtain ⟨_, _, _, _, _, _, _, _, _, _, _, _, _, _, _, _, _, _, _, htr', _⟩ := hco'
    exact go _ h' tk _ hx (Nat.le_trans hge (Nat.le_of_lt hlt)) htab'.2 ⟨_, rfl⟩ htr'
  | some cv =>
    refine wpAny_genexprCode_hit hcode (cd.code hPo htr) hf ?_
    exact go cv (s1.heap.push o) s1.toks ps (Heap.ExtBut.refl _ _) (Nat.le_refl _) hPo ⟨#[], by simp⟩ htr

/-- all(.. for x in e), e a tuple or a list, the element a quiet truth -/
def tAllQ (X : Cx) (P : Addr) (k : Nat) (scope : Scope) (x : Str) (elt : Expr) (te : TE) : TE := fun σ H Q => te σ H fun v H1 => ∃ (ad : Addr) (xs : List V) (bs : List Bool) (caps : Nm), v = .ref ad ∧ (SqT X.K H1 ad xs ∨ SqL X.K H1 ad xs) ∧
  GxR.TabG H1 P ∧ Caps X scope x σ caps ∧ Elt X (3 * k) scope x elt caps (wipe H1 P) xs bs ∧ ∀ H2, GxR.Tabbed P H1 H2 → Q (.bl (bs.all id)) H2
theorem pe_allQ {c P : Addr} {elt iter : Expr} {x : Str} {px p pos gpos : Pos} {scope : Scope} {te : TE} {k : Nat}
    (rm : Room (k + 2) X.A) (hg : Gl X "all") (hm : X.mg "all" = none) (TB : GxR.TabB X.base X.mg c P) (hcode : X.env.code = .ref c) (GS : GxR.GenS X.env scope x) (hi : PE X iter te)
    (hs : ∀ v, genFold iter X.env v = pure v) (hb : bootBuiltins "all" = some (.builtin "all") := by decide +kernel)
    (he : starEach [.GeneratorExp elt [⟨.Name x px, iter, [], 0⟩] scope gpos] X.env = (false, eval (.GeneratorExp elt [⟨.Name x px, iter, [], 0⟩] scope gpos) X.env) :: starEach [] X.env := by rfl) :
    PE X (.Call (.Name "all" p) [.GeneratorExp elt [⟨.Name x px, iter, [], 0⟩] scope gpos] [] pos) (tAllQ X P k scope x elt te) := by
  refine ⟨fun pins s σ H Q I h => ?_⟩
  refine wpAny_Call_Name_kw (ld_blt I hg hm hb (PyProof.Rows.callWith_builtin1 ?_ he (by rfl)))
  rw [he]
  show wpAny _ X.A (spliced ((false, eval (.GeneratorExp elt [⟨.Name x px, iter, [], 0⟩] scope gpos) X.env) :: backTo pos (starEach [] X.env))) _ X.xe s
  refine Calls.spliced_cons (gen_made (R := fun xs bs H1 => ∀ H2, GxR.Tabbed P H1 H2 → Q (.bl (bs.all id)) H2) rm TB hcode GS hi hs I h fun xs bs H1 g s5 hR hG => Calls.spliced_nil ?_)
  obtain ⟨fp, wr, G, F, St, W, hst, htr, hI⟩ := hG
  refine call_all_walkS (W.self 0 _ _ _ hst ⟨g, fp, wr, G, _, F, St, _, rfl, W, hst, htr, fun s' hmv => ?_⟩)
  obtain ⟨H2, hT, J⟩ := hI s' hmv
  exact ⟨.bl _, H2, J, rfl, by rw [trB_all bs]; exact hR H2 hT⟩
end
end Qt

namespace Em
open PySem PySem.Spec PyProof.Rows L2 Qt

/-! ### defs that may show things: nothing is being shown around them -/
structure FnG (P : Program) (w : World) (K : PySem.W.Frag) (mg : Str → Option Value) (base : Heap) (CX : CXT) (k : Nat) (f : Addr) (fd : FuncData) (ps : List Str) (sp : Sp) : Prop where
  len : ∀ vs H Q E, sp vs H Q E → vs.length = ps.length
  go : ∀ (A : Around) (outer : List Env) (s : Shared) (H : Hp) (args : Args) (us : List Value) (vs : List V) (Q : VK) (E : XK), A.guards = some [] → Room k A → Env0 P w K mg base A outer s H → BindsTo s fd args (ps.zip us) → Vals vs us → sp vs H Q E →
    codeAny (model P w) A (.call (.ref f) args) (CR CX outer P w H s Q E) s
section
variable {P : Program} {w : World} {K : PySem.W.Frag} {mg : Str → Option Value} {base : Heap} {CX : CXT} {k : Nat} {f : Addr} {fd : FuncData} {ps : List Str} {sp : Sp}
theorem FnG.of (F : FnOk P w K mg base CX k f fd ps sp) : FnG P w K mg base CX k f fd ps sp := ⟨F.len, fun A o s H a us vs Q E _ => F.run A o s H a us vs Q E⟩
theorem FnG.mono {j : Nat} (F : FnG P w K mg base CX j f fd ps sp) (h : j ≤ k) : FnG P w K mg base CX k f fd ps sp := ⟨F.len, fun A o s H a us vs Q E hg hr => F.go A o s H a us vs Q E hg (hr.mono h)⟩
/-- a def's body, nothing being shown around it -/
theorem okG {x qual : Str} {st : Stmt} {N : List Str} (F : Fun K x qual st f fd) (S : FnScope N ps (defScope st)) (len : ∀ vs H Q E, sp vs H Q E → vs.length = ps.length)
    (hbody : ∀ (cdv : Value) (A : Around) (outer : List Env) (s : Shared) (H : Hp) (vs : List V) (Q : VK) (E : XK), (A.deeper (envOfC qual (defScope st) s.heap.objs.size f cdv)).guards = some [] → Room k (A.deeper (envOfC qual (defScope st) s.heap.objs.size f cdv)) → sp vs H Q E →
      ∃ t, PSs (cxOf CX P w K mg base N qual (defScope st) f cdv A outer s H E) (defBody st) t ∧ t { nx := fun _ H' => Q .non H', rt := Q } (start N vs) H) : FnG P w K mg base CX (k + 1) f fd ps sp := by
  refine ⟨len, fun A outer s H args us vs Q E hg hr e0 hb rv hs => ?_⟩
  -- the same def, told of a promise that holds of this call alone
  obtain ⟨oc, od, kV, doc, pm, an, cdv, ct, osl, rfl, lk, hcd⟩ := F.ex
  have KX : K.In s.heap := e0.mod.kin.keeps fun b o e => (e0.bs b o e).1
  have LX : s.heap.NoLimit := e0.mod.nolimit.keeps fun b o e => (e0.bs b o e).1
  have hkind : ∀ y ∈ ps.zip us, (defScope st).names.lookup y.1 = some .local ∨ ((defScope st).names.lookup y.1 = some .cell ∧ ((cellsFrom (s.heap.objs.size + 1) (defScope st).names []).lookup y.1).isSome = true) := fun y hy => by
    rcases S.par y.1 (List.of_mem_zip hy).1 with q | q
    · exact .inl q
    · exact .inr ⟨q, PySem.W.cellsFrom_some _ _ _ (.inl q)⟩
  refine codeAny_call_function hr.depth (KX _ _ lk) rfl S.co S.gen rfl (PySem.W.codeRec_of KX hcd) (hb _ _ _ _ (wpAny_newFunctionEnv_cells S.kind hkind fun env he s1 x => ?_))
  subst he
  refine ⟨LX.keeps x.toInCall.keep, codeAny_func ?_⟩
  obtain ⟨t, ht, hq⟩ := hbody cdv A outer s H vs Q E hg (hr.deeper _) hs
  have I := inv_start (CX := CX) (E := E) S hr.hd e0 (len _ _ _ _ hs) rv x
  refine wpAny_mono (ht.run [] s1 (start N vs) H _ I hq) (fun fl s' z => ?_) fun e s' z => z
  cases fl with
  | ret u =>
    obtain ⟨v, σ', H', J, r1, q⟩ := z
    exact ⟨v, H', J.os, J.bare, J.base, J.hok, r1, q⟩
  | next =>
    obtain ⟨σ', H', J, q⟩ := z
    exact ⟨V.non, H', J.os, J.bare, J.base, J.hok, rfl, q⟩
  | brk =>
    obtain ⟨_, _, _, q⟩ := z
    exact q.elim
  | cont =>
    obtain ⟨_, _, _, q⟩ := z
    exact q.elim
theorem okG0 {x qual : Str} {st : Stmt} {N : List Str} (F : Fun K x qual st f fd) (S : FnScope N ps (defScope st)) (len : ∀ vs H Q E, sp vs H Q E → vs.length = ps.length)
    (hbody : ∀ (cdv : Value) (A : Around) (outer : List Env) (s : Shared) (H : Hp) (vs : List V) (Q : VK) (E : XK), (A.deeper (envOfC qual (defScope st) s.heap.objs.size f cdv)).guards = some [] → Room k (A.deeper (envOfC qual (defScope st) s.heap.objs.size f cdv)) → sp vs H Q E →
      ∃ t, PSs (cxOf CX0 P w K mg base N qual (defScope st) f cdv A outer s H E).nox (defBody st) t ∧ t { nx := fun _ H' => Q .non H', rt := Q } (start N vs) H) : FnG P w K mg base CX0 (k + 1) f fd ps sp :=
  okG F S len fun cdv A outer s H vs Q E hg hr hs => let ⟨t, h, q⟩ := hbody cdv A outer s H vs Q E hg hr hs; ⟨t, h.nox, q⟩
end
section
variable {X : Cx} {CX : CXT} {k : Nat} {f : Addr} {fd : FuncData} {ps ks : List Str} {sp : Sp} {dvs : List V} {ds : List Value} {E : XK} {x : Str} {p pos : Pos} {e : Expr} {es : List Expr} {kws : List Keyword} {t tk : TA}
  {g : List Value → List Value → List Value} {gV : List V → List V → List V}
theorem endG {pins : List (Addr × Obj)} {σ : L2.St} {H : Hp} {s : Shared} {Q : VK} {args : Args} (hx : Passes CX X E) (I : Inv X pins σ H s) (h : codeAny (model X.prog X.w) X.A (.call (.ref f) args) (CR CX X.stack X.prog X.w H s Q E) s) :
    codeAny (model X.prog X.w) X.A (.call (.ref f) args) (fun r s' => match r with
      | .ok (.ret u) => EP X pins σ Q u s'
      | .ok _ => False
      | .error e => X.xe e s') s :=
  codeAny_mono h fun r s' hq => by
    cases r with
    | error e => exact hx pins σ H s e s' I hq
    | ok fl => cases fl with
      | ret u => exact I.after hq
      | next => exact hq
      | brk => exact hq
      | cont => exact hq
theorem runG {pins : List (Addr × Obj)} {σ : L2.St} {H : Hp} {s : Shared} {Q : VK} {us : List Value} {vs : List V} (F : FnG X.prog X.w X.K X.mg X.base CX k f fd ps sp) (hG : X.A.guards = some []) (hr : Room k X.A) (hb : Binds X.K fd ps ds) (hd : Vals dvs ds) (hx : Passes CX X E)
    (I : Inv X pins σ H s) (r : Vals vs us) (h : sp (vs ++ dvs) H Q E) : wpAny (model X.prog X.w) X.A (call (.ref f) us) (EP X pins σ Q) X.xe s := by
  have r2 := r.append hd
  have hl : (us ++ ds).length = ps.length := r2.length.symm.trans (F.len _ _ _ _ h)
  refine wpAny_call (codeAny_mono (endG (Q := Q) hx I (F.go X.A X.stack s H ⟨us, []⟩ (us ++ ds) (vs ++ dvs) Q E hG hr I.env0 (hb s us I.kIn hl) r2 h)) fun r s' hq => ?_)
  cases r with
  | error e => exact hq
  | ok fl => cases fl with
    | ret u => exact hq
    | next => exact hq.elim
    | brk => exact hq.elim
    | cont => exact hq.elim
theorem pe_callG (F : FnG X.prog X.w X.K X.mg X.base CX k f fd ps sp) (hG : X.A.guards = some []) (hr : Room k X.A) (hg : Gl X x) (hm : X.mg x = some (.ref f)) (hk : PySem.W.keepIn X.K (.ref f) = true) (hb : Binds X.K fd ps ds) (hd : Vals dvs ds) (hx : Passes CX X E)
    (ha : PA X (e :: es) t) (hdb : (x == ("__debug__" : Str)) = false := by decide) (st : starEach (e :: es) X.env = (false, eval e X.env) :: starEach es X.env := by rfl) (pl : (backTo pos (starEach es X.env)).any (·.1) = false := by rfl) :
    PE X (.Call (.Name x p) (e :: es) [] pos) (tCall sp dvs E t) :=
  ⟨fun pins s σ H Q I h => wpAny_Call_Name_kw (ld_glob I hg hm (PySem.W.callWith_K (h₀ := X.base) I.ok.mod.kin hk (thn (ha.run pos pins s σ H _ I h) fun us s1 ⟨vs, H1, I1, r, q⟩ => ⟨I1.kIn, runG F hG hr hb hd hx I1 r q⟩) st pl) hdb)⟩
/-- f(k = v, ..), keywords alone; the promise is of the parameters in the def's order -/
theorem pe_kwG (F : FnG X.prog X.w X.K X.mg X.base CX k f fd ps sp) (hG : X.A.guards = some []) (hr : Room k X.A) (hg : Gl X x) (hm : X.mg x = some (.ref f)) (hk : PySem.W.keepIn X.K (.ref f) = true) (hb : KBinds X.K fd ps ks g gV) (hx : Passes CX X E)
    (hkw : PK X kws tk) (hall : (backToKw pos (keywordEach kws X.env)).all (·.1.isSome) = true := by rfl) (hks : (backToKw pos (keywordEach kws X.env)).filterMap (·.1) = ks := by rfl)
    (hdb : (x == ("__debug__" : Str)) = false := by decide) (pl : ((backTo pos (starEach [] X.env)).any (·.1) || (backToKw pos (keywordEach kws X.env)).any (·.1.isNone)) = false := by rfl) :
    PE X (.Call (.Name x p) [] kws pos) (tCallK sp gV E tNil tk) := by
  refine ⟨fun pins s σ H Q I h => wpAny_Call_Name_kw (ld_glob I hg hm ?_ hdb)⟩
  refine PySem.W.callWith_KW0 (h₀ := X.base) I.ok.mod.kin hk hall (thn (hkw.run pos pins s σ H _ I h) fun ws s1 ⟨zs, H1, I1, rz, q⟩ => ⟨I1.kIn, ?_⟩) pl
  rw [hks]
  have r2 := hb.rel .nil rz
  have hl : (g [] ws).length = ps.length := r2.length.symm.trans (F.len _ _ _ _ q)
  refine wpAny_call (codeAny_mono (endG (Q := Q) hx I1 (F.go X.A X.stack _ H1 ⟨[], ks.zip ws⟩ (g [] ws) (gV [] zs) Q E hG hr I1.env0 (hb.to _ [] ws I1.kIn hl) r2 q)) fun r s' hq => ?_)
  cases r with
  | error e => exact hq
  | ok fl => cases fl with
    | ret u => exact hq
    | next => exact hq.elim
    | brk => exact hq.elim
    | cont => exact hq.elim
end

/-! ### what a piece of code leaves as it was: all but the things in S; tables of code grow -/
structure Kp (S : List Addr) (H H' : Hp) : Prop where
  at_ : ∀ b o, b ∉ S → H b = some o → (∀ ps, o ≠ .tbl ps) → H' b = some o
  tab : ∀ b, GxR.TabG H b → GxR.TabG H' b
  tr_ : ∀ b, H b ≠ none → H' b ≠ none
theorem Kp.rfl' {S : List Addr} {H : Hp} : Kp S H H := ⟨fun _ _ _ h _ => h, fun _ h => h, fun _ h => h⟩
theorem Kp.tr {S : List Addr} {H H1 H2 : Hp} (a : Kp S H H1) (b : Kp S H1 H2) : Kp S H H2 := ⟨fun c o n h t => b.at_ c o n (a.at_ c o n h t) t, fun c h => b.tab c (a.tab c h), fun c h => b.tr_ c (a.tr_ c h)⟩
theorem Kp.wk {S S' : List Addr} {H H1 : Hp} (a : Kp S H H1) (h : ∀ x ∈ S, x ∈ S') : Kp S' H H1 := ⟨fun c o n q t => a.at_ c o (fun z => n (h c z)) q t, a.tab, a.tr_⟩
theorem Kp.of0 {S : List Addr} {H H1 : Hp} (a : Kp [] H H1) : Kp S H H1 := a.wk fun _ h => by cases h
theorem upd_tr {H : Hp} {p b : Addr} {o : HO} (h : H b ≠ none) : upd H p o b ≠ none := by
  by_cases e : b = p
  · rw [e, upd_same]; exact fun z => by cases z
  · rw [upd_ne e]; exact h
/-- a new thing -/
theorem Kp.new {S : List Addr} {H : Hp} {p : Addr} {o : HO} (n : H p = none) : Kp S H (upd H p o) :=
  ⟨fun b u _ h _ => by rw [upd_ne (ne_of_none h n)]; exact h, fun b ⟨ps, h, t⟩ => ⟨ps, by rw [upd_ne (ne_of_none h n)]; exact h, t⟩, fun b h => upd_tr h⟩
/-- a list (or another thing that is no table) of S is written -/
theorem Kp.put {S : List Addr} {H : Hp} {p : Addr} {o u : HO} (hp : p ∈ S) (h : H p = some u) (nt : ∀ ps, u ≠ .tbl ps) : Kp S H (upd H p o) :=
  ⟨fun b v n q _ => by rw [upd_ne (fun z => n (by rw [z]; exact hp))]; exact q, fun b ⟨ps, q, t⟩ => ⟨ps, by rw [upd_ne (fun z => by rw [z, h] at q; exact nt ps (Option.some.inj q))]; exact q, t⟩, fun b h => upd_tr h⟩
/-- a new thing that was written again is still new to what stood before -/
theorem Kp.drop {S : List Addr} {H H1 : Hp} {p : Addr} (n : H p = none) (k : Kp (p :: S) H H1) : Kp S H H1 :=
  ⟨fun b o nb h t => k.at_ b o (fun z => by
    rcases List.mem_cons.mp z with z | z
    · rw [z, n] at h; cases h
    · exact nb z) h t, k.tab, k.tr_⟩
theorem Kp.tabbed {S : List Addr} {H H1 : Hp} {P : Addr} (h0 : GxR.TabG H P) (h : GxR.Tabbed P H H1) : Kp S H H1 :=
  ⟨fun b o _ q t => by
    have nb : b ≠ P := fun z => by
      obtain ⟨ps, e, _⟩ := h0
      rw [z, e] at q
      exact t ps (Option.some.inj q).symm
    rw [h.2 b nb]
    exact q, fun b ⟨ps, q, t⟩ => by
    by_cases nb : b = P
    · rw [nb]; exact h.1
    · exact ⟨ps, by rw [h.2 b nb]; exact q, t⟩, fun b q => by
    by_cases nb : b = P
    · obtain ⟨ps, e, _⟩ := h.1
      rw [nb, e]; exact fun z => by cases z
    · rw [h.2 b nb]; exact q⟩
theorem Kp.lst {S : List Addr} {H H1 : Hp} (k : Kp S H H1) {b : Addr} {xs : List V} (nb : b ∉ S) (h : H b = some (.lst xs)) : H1 b = some (.lst xs) := k.at_ b _ nb h fun ps z => by cases z
theorem Kp.tup {S : List Addr} {H H1 : Hp} (k : Kp S H H1) {b : Addr} {xs : List V} (nb : b ∉ S) (h : H b = some (.tup xs)) : H1 b = some (.tup xs) := k.at_ b _ nb h fun ps z => by cases z
theorem Kp.ins {S : List Addr} {H H1 : Hp} (k : Kp S H H1) {b C dx : Addr} {fs : List (Str × V)} (nb : b ∉ S) (h : H b = some (.ins C dx fs)) : H1 b = some (.ins C dx fs) := k.at_ b _ nb h fun ps z => by cases z
theorem Kp.seq {S : List Addr} {K : PySem.W.Frag} {H H1 : Hp} (k : Kp S H H1) {b : Addr} {xs : List V} (nb : b ∉ S) (h : SqL K H b xs) : SqL K H1 b xs := by
  rcases h with (h | ⟨o, h⟩) | h
  · exact .inl (.inl (k.lst nb h))
  · exact .inl (.inr ⟨o, k.at_ b _ nb h fun ps z => by cases z⟩)
  · exact .inr h
theorem Kp.free {S : List Addr} {H H1 : Hp} (k : Kp S H H1) {b : Addr} (nb : b ∉ S) (h : H1 b = none) (ht : ¬ GxR.TabG H b) (hn : ∀ ps, H b ≠ some (.tbl ps)) : H b = none := by
  cases q : H b with
  | none => rfl
  | some o =>
    rw [k.at_ b o nb q (fun ps z => hn ps (by rw [q, z]))] at h
    cases h

/-! ### data in the heap, none of it in S -/
mutual
inductive Dx (S : List Addr) (H : Hp) : V → PyData → Prop
  | non : Dx S H .non .none
  | bl (b : Bool) : Dx S H (.bl b) (.bool b)
  | int (i : Int) : Dx S H (.int i) (.int i)
  | str (z : Str) : Dx S H (.str z) (.str z)
  | lst {a : Addr} {xs : List V} {ds : List PyData} (n : a ∉ S) (h : H a = some (.lst xs)) (r : DxA S H xs ds) : Dx S H (.ref a) (.list ds)
  | tup {a : Addr} {xs : List V} {ds : List PyData} (n : a ∉ S) (h : H a = some (.tup xs)) (r : DxA S H xs ds) : Dx S H (.ref a) (.tuple ds)
  | dic {a : Addr} (n : a ∉ S) (h : H a = some (.dK [])) : Dx S H (.ref a) (.dict [])
inductive DxA (S : List Addr) (H : Hp) : List V → List PyData → Prop
  | nil : DxA S H [] []
  | cons {v : V} {vs : List V} {d : PyData} {ds : List PyData} (h : Dx S H v d) (t : DxA S H vs ds) : DxA S H (v :: vs) (d :: ds)
end
mutual
theorem Dx.kp {S S' : List Addr} {H H1 : Hp} (k : Kp S H H1) (hs : ∀ x ∈ S, x ∈ S') : ∀ {v : V} {d : PyData}, Dx S' H v d → Dx S' H1 v d
  | _, _, .non => .non
  | _, _, .bl b => .bl b
  | _, _, .int i => .int i
  | _, _, .str z => .str z
  | _, _, .lst n h r => .lst n (k.lst (fun z => n (hs _ z)) h) (DxA.kp k hs r)
  | _, _, .tup n h r => .tup n (k.tup (fun z => n (hs _ z)) h) (DxA.kp k hs r)
  | _, _, .dic n h => .dic n (k.at_ _ _ (fun z => n (hs _ z)) h fun ps z => by cases z)
theorem DxA.kp {S S' : List Addr} {H H1 : Hp} (k : Kp S H H1) (hs : ∀ x ∈ S, x ∈ S') : ∀ {v : List V} {d : List PyData}, DxA S' H v d → DxA S' H1 v d
  | _, _, .nil => .nil
  | _, _, .cons h t => .cons (Dx.kp k hs h) (DxA.kp k hs t)
end
mutual
/-- what is there is none of what is new -/
theorem Dx.ap {S : List Addr} {H : Hp} {p : Addr} (n : H p = none) : ∀ {v : V} {d : PyData}, Dx S H v d → Dx (p :: S) H v d
  | _, _, .non => .non
  | _, _, .bl b => .bl b
  | _, _, .int i => .int i
  | _, _, .str z => .str z
  | _, _, .lst m h r => .lst (by simpa using ⟨ne_of_none h n, m⟩) h (DxA.ap n r)
  | _, _, .tup m h r => .tup (by simpa using ⟨ne_of_none h n, m⟩) h (DxA.ap n r)
  | _, _, .dic m h => .dic (by simpa using ⟨ne_of_none h n, m⟩) h
theorem DxA.ap {S : List Addr} {H : Hp} {p : Addr} (n : H p = none) : ∀ {v : List V} {d : List PyData}, DxA S H v d → DxA (p :: S) H v d
  | _, _, .nil => .nil
  | _, _, .cons h t => .cons (Dx.ap n h) (DxA.ap n t)
end
mutual
theorem Dx.wk {S S' : List Addr} {H : Hp} (hs : ∀ x ∈ S', x ∈ S) : ∀ {v : V} {d : PyData}, Dx S H v d → Dx S' H v d
  | _, _, .non => .non
  | _, _, .bl b => .bl b
  | _, _, .int i => .int i
  | _, _, .str z => .str z
  | _, _, .lst m h r => .lst (fun z => m (hs _ z)) h (DxA.wk hs r)
  | _, _, .tup m h r => .tup (fun z => m (hs _ z)) h (DxA.wk hs r)
  | _, _, .dic m h => .dic (fun z => m (hs _ z)) h
theorem DxA.wk {S S' : List Addr} {H : Hp} (hs : ∀ x ∈ S', x ∈ S) : ∀ {v : List V} {d : List PyData}, DxA S H v d → DxA S' H v d
  | _, _, .nil => .nil
  | _, _, .cons h t => .cons (Dx.wk hs h) (DxA.wk hs t)
end
theorem DxA.len {S : List Addr} {H : Hp} : ∀ {vs : List V} {ds : List PyData}, DxA S H vs ds → vs.length = ds.length
  | _, _, .nil => rfl
  | _, _, .cons _ t => by rw [List.length_cons, List.length_cons, DxA.len t]
theorem DxA.get {S : List Addr} {H : Hp} : ∀ {vs : List V} {ds : List PyData} {i : Nat} {v : V}, DxA S H vs ds → vs[i]? = some v → ∃ d, ds[i]? = some d ∧ Dx S H v d
  | _, _, _, _, .nil, h => by cases h
  | _, _, 0, _, .cons a _, h => by cases h; exact ⟨_, rfl, a⟩
  | _, _, i + 1, _, .cons _ t, h => DxA.get (i := i) t (by simpa using h)
theorem DxA.get' {S : List Addr} {H : Hp} : ∀ {vs : List V} {ds : List PyData} {i : Nat} {d : PyData}, DxA S H vs ds → ds[i]? = some d → ∃ v, vs[i]? = some v ∧ Dx S H v d
  | _, _, _, _, .nil, h => by cases h
  | _, _, 0, _, .cons a _, h => by cases h; exact ⟨_, rfl, a⟩
  | _, _, i + 1, _, .cons _ t, h => DxA.get' (i := i) t (by simpa using h)
theorem DxA.app {S : List Addr} {H : Hp} : ∀ {vs ws : List V} {ds es : List PyData}, DxA S H vs ds → DxA S H ws es → DxA S H (vs ++ ws) (ds ++ es)
  | _, _, _, _, .nil, h => h
  | _, _, _, _, .cons a t, h => .cons a (DxA.app t h)
mutual
/-- what the layer calls data: no dict in it -/
theorem Dx.dp {S : List Addr} {K : PySem.W.Frag} {H : Hp} : ∀ {v : V} {d : PyData}, Dx S H v d → d.hasDict = false → Dp K H v d
  | _, _, .non, _ => .non
  | _, _, .bl b, _ => .bl b
  | _, _, .int i, _ => .int i
  | _, _, .str z, _ => .str z
  | _, _, .lst n h r, e => .lst (SqL.of h) (DxA.dp r (by simpa [PyData.hasDict] using e))
  | _, _, .tup n h r, e => .tup (SqT.of h) (DxA.dp r (by simpa [PyData.hasDict] using e))
  | _, _, .dic n h, e => by simp [PyData.hasDict] at e
theorem DxA.dp {S : List Addr} {K : PySem.W.Frag} {H : Hp} : ∀ {v : List V} {d : List PyData}, DxA S H v d → PyData.hasDictAll d = false → DpAll K H v d
  | _, _, .nil, _ => .nil
  | _, _, @DxA.cons _ _ v vs d ds h t, e => by
    have e2 : PyData.hasDict d = false ∧ PyData.hasDictAll ds = false := by simpa [PyData.hasDictAll] using e
    exact .cons (Dx.dp h e2.1) (DxA.dp t e2.2)
end

/-- new data: none of it stood in H -/
def Nw (H H' : Hp) (v : V) (d : PyData) : Prop := ∀ S : List Addr, (∀ s ∈ S, H s ≠ none) → Dx S H' v d
def NwA (H H' : Hp) (vs : List V) (ds : List PyData) : Prop := ∀ S : List Addr, (∀ s ∈ S, H s ≠ none) → DxA S H' vs ds
theorem Nw.tup {H H1 : Hp} {p : Addr} {xs : List V} {ds : List PyData} (k : ∀ b, H b ≠ none → H1 b ≠ none) (n : H1 p = none) (h : NwA H H1 xs ds) : Nw H (upd H1 p (.tup xs)) (.ref p) (.tuple ds) := fun S t =>
  .tup (fun z => k p (t p z) n) upd_same ((h S t).kp (Kp.new (S := []) n) fun _ z => by cases z)
theorem Nw.lst {H H1 : Hp} {p : Addr} {xs : List V} {ds : List PyData} (k : ∀ b, H b ≠ none → H1 b ≠ none) (n : H1 p = none) (h : NwA H H1 xs ds) : Nw H (upd H1 p (.lst xs)) (.ref p) (.list ds) := fun S t =>
  .lst (fun z => k p (t p z) n) upd_same ((h S t).kp (Kp.new (S := []) n) fun _ z => by cases z)
theorem NwA.nil {H H1 : Hp} : NwA H H1 [] [] := fun _ _ => .nil
theorem NwA.cons {H H1 : Hp} {v : V} {vs : List V} {d : PyData} {ds : List PyData} (h : Nw H H1 v d) (t : NwA H H1 vs ds) : NwA H H1 (v :: vs) (d :: ds) := fun S z => .cons (h S z) (t S z)
theorem Nw.int {H H1 : Hp} (i : Int) : Nw H H1 (.int i) (.int i) := fun _ _ => .int i
theorem Nw.non {H H1 : Hp} : Nw H H1 .non .none := fun _ _ => .non
theorem Nw.bl {H H1 : Hp} (b : Bool) : Nw H H1 (.bl b) (.bool b) := fun _ _ => .bl b
theorem Nw.str {H H1 : Hp} (z : Str) : Nw H H1 (.str z) (.str z) := fun _ _ => .str z
theorem Nw.kp {H H1 H2 : Hp} {v : V} {d : PyData} (h : Nw H H1 v d) (k : Kp [] H1 H2) : Nw H H2 v d := fun S t => (h S t).kp k fun _ z => by cases z
theorem NwA.kp {H H1 H2 : Hp} {v : List V} {d : List PyData} (h : NwA H H1 v d) (k : Kp [] H1 H2) : NwA H H2 v d := fun S t => (h S t).kp k fun _ z => by cases z
/-- what was written stood before -/
theorem Nw.kpS {H H1 H2 : Hp} {S0 : List Addr} {v : V} {d : PyData} (h : Nw H H1 v d) (k : Kp S0 H1 H2) (hs : ∀ s ∈ S0, H s ≠ none) : Nw H H2 v d := fun S t =>
  ((h (S0 ++ S) fun s z => by rcases List.mem_append.mp z with z | z <;> first | exact hs s z | exact t s z).kp k fun x z => List.mem_append_left _ z).wk fun x z => List.mem_append_right _ z
theorem NwA.kpS {H H1 H2 : Hp} {S0 : List Addr} {v : List V} {d : List PyData} (h : NwA H H1 v d) (k : Kp S0 H1 H2) (hs : ∀ s ∈ S0, H s ≠ none) : NwA H H2 v d := fun S t =>
  ((h (S0 ++ S) fun s z => by rcases List.mem_append.mp z with z | z <;> first | exact hs s z | exact t s z).kp k fun x z => List.mem_append_left _ z).wk fun x z => List.mem_append_right _ z
theorem Nw.old {H0 H H1 : Hp} {v : V} {d : PyData} (k : ∀ b, H0 b ≠ none → H b ≠ none) (h : Nw H H1 v d) : Nw H0 H1 v d := fun S t => h S fun s z => k s (t s z)
theorem NwA.old {H0 H H1 : Hp} {v : List V} {d : List PyData} (k : ∀ b, H0 b ≠ none → H b ≠ none) (h : NwA H H1 v d) : NwA H0 H1 v d := fun S t => h S fun s z => k s (t s z)
theorem NwA.app {H H1 : Hp} {v w : List V} {d e : List PyData} (h : NwA H H1 v d) (h2 : NwA H H1 w e) : NwA H H1 (v ++ w) (d ++ e) := fun S t => (h S t).app (h2 S t)
theorem NwA.ints {H H1 : Hp} : ∀ ns : List Int, NwA H H1 (ns.map V.int) (ns.map PyData.int)
  | [] => .nil
  | n :: r => .cons (.int n) (NwA.ints r)

/-! ### repr of data -/
section
variable {X : Cx}
theorem call_repr {j : Nat} (hG : X.A.guards = some []) (rm : Room j X.A) : CallR X (.builtin "repr") (fun xs H Q => ∃ (x : V) (d : PyData), xs = [x] ∧ Dp X.K H x d ∧ d.showable = true ∧ d.hasDict = false ∧ d.depth < 150 ∧ d.shown.length ≤ sizeLine ∧ (∃ a, x = .ref a) ∧ Q (.str d.shown) H) := by
  intro pins s σ H xs us Q I r h
  obtain ⟨x, d, rfl, hd, h1, h2, h3, h4, ⟨a, rfl⟩, q⟩ := h
  obtain ⟨u, rfl, ru⟩ := vals1 r
  obtain ⟨as, hr⟩ := hd.reads I d _ u ru
  obtain rfl : u = Value.ref a := ru
  have hu := rm.un
  refine repr_of_reads' hr h1 (fun e => by rw [h2] at e; cases e) hG (by omega) (fun _ _ e => e) (fun h' u tk hk => ?_) h4
  exact ⟨.str d.shown, H, I.kept (t' := tk) hk, ⟨u, rfl⟩, q⟩
/-- as call_isi, the written part told (in a comprehension's block it can't be read off) -/
theorem call_isiK {K : PySem.W.Frag} (h : X.K = K) : CallR X (.builtin "isinstance") (rIsi K) := h ▸ call_isi
theorem ix_tupK {K : PySem.W.Frag} (h : X.K = K) : IxR X (rIxT K) := h ▸ ix_tup
theorem ix_listK {K : PySem.W.Frag} (h : X.K = K) : IxR X (rIxL K) := h ▸ ix_list
/-! ### powers of great numbers; xs[i] op= e -/
def CPowW (i j : Int) : Prop := 0 ≤ j ∧ (Builtin.Int.intBits i : Int) * j ≤ 2 ^ 27
theorem op_powW : OpR X (binaryOp .Pow) (rI CPowW fun i j => .int (i ^ j.toNat)) := opI fun i j _ _ _ _ _ hc q => PyProof.Rows.pow_int hc.1 hc.2 q
def rCatL (K : PySem.W.Frag) : R2 := fun x y H Q => ∃ l b xs zs, x = .ref l ∧ y = .ref b ∧ SqL K H l xs ∧ SqL K H b zs ∧ xs.length + zs.length ≤ sizeLine ∧ ∀ p, H p = none → Q (.ref p) (upd H p (.lst (xs ++ zs)))
/-- list + list, also of a list that no one may write -/
theorem op_catL : OpR X (binaryOp .Add) (rCatL X.K) := by
  intro pins s σ H x y v u Q I rx ry h
  obtain ⟨l, b, xs, zs, rfl, rfl, hH, hB, hz, q⟩ := h
  cases rx
  cases ry
  obtain ⟨its, r, pl, _⟩ := I.list hH
  obtain ⟨its2, r2, pl2, _⟩ := I.list hB
  have hl := r.length
  have hl2 := r2.length
  obtain ⟨⟨cls, dd, data, sl⟩, ho, hc, n, hd⟩ := id pl.isList
  obtain ⟨⟨cls2, dd2, data2, sl2⟩, ho2, hc2, n2, hd2⟩ := id pl2.isList
  simp only at hc hd hc2 hd2
  subst hc hd hc2 hd2
  have e : its.toArray ++ its2.toArray = (its ++ its2).toArray := by simp
  refine concat_meets ⟨_, ho, rfl⟩ ⟨_, ho2, rfl⟩ noFill_list_add seq_list_add PySem.F.slot_list_add PySem.F.entry_list_add (PySem.F.args_list_add_2 _ _) (list_addW l b its.toArray its2.toArray n n2 dd dd2 sl sl2 (by rw [List.size_toArray, List.size_toArray]; omega)) ⟨ho, ho2, ?_⟩
  rw [e]
  exact ⟨.ref _, _, I.lnew (t' := s.toks) (r.append r2) (by rw [List.length_append]; omega), rfl, q _ I.fresh⟩
def rGetL (K : PySem.W.Frag) : V → V → Hp → VK → Prop := fun x y H Q => ∃ (p : Addr) (xs : List V) (j : Nat) (v : V), x = .ref p ∧ y = .int j ∧ SqL K H p xs ∧ xs[j]? = some v ∧ Q v H
theorem pget_list : PGet X (rGetL X.K) := by
  intro pins s σ H o i ov iv Q I r1 r2 h
  obtain ⟨p, xs, j, v, rfl, rfl, hq, hv, q⟩ := h
  obtain rfl : ov = Value.ref p := r1
  obtain ⟨t, rfl⟩ := r2
  obtain ⟨its, r, pl, hz⟩ := I.list hq
  obtain ⟨u, hu, ru⟩ := r.get hv
  have hj := (List.getElem?_eq_some_iff.mp hu).1
  have hl := r.length
  have h63 := line63
  exact getItem_listL pl.isList (by omega) (by omega) (by simpa using hu) ⟨v, H, I, ru, q⟩
end
theorem pow_ok {i : Int} {n e : Nat} (h : i.natAbs < 2 ^ n) (hn : 0 < n) (hz : n * e ≤ 2 ^ 27) : CPowW i (e : Int) := by
  refine ⟨by omega, ?_⟩
  have h1 : Builtin.Int.intBits i ≤ n := by
    have q := PySem.Flt.log2_lt_of hn h
    unfold Builtin.Int.intBits
    split <;> omega
  have h2 : Builtin.Int.intBits i * e ≤ n * e := Nat.mul_le_mul_right e h1
  have h3 : ((Builtin.Int.intBits i * e : Nat) : Int) ≤ ((2 ^ 27 : Nat) : Int) := Int.ofNat_le.mpr (Nat.le_trans h2 hz)
  rw [Int.natCast_mul] at h3
  exact h3
end Em

namespace Em
open PySem PySem.Spec PyProof.Rows L2 Qt

/-! ### a law's end: nothing is being shown around the law's call -/
def LawG (l : PySem.W.OpenLaw) (w : World) (K : PySem.W.Frag) (k n : Nat) (x : Str) (mg : Str → Option Value) (fa : Addr) (h : Heap) : Prop :=
  ∃ (fd : FuncData) (cs : List (Addr × Addr)) (sp : Sp), (∀ p ∈ cs, h.get? p.2 = some { cls := .none, data := .fields #[] } ∧ K.lookup p.2 = none ∧ PySem.W.CodeHd h p.1 p.2) ∧ (∀ (s : Shared) (u : Value), BindsTo s fd ⟨[u], []⟩ [(x, u)]) ∧
    (∀ (H : Hp) (a : Addr) (ns : List Int), ns.length ≤ n → (∀ z ∈ ns, Builtin.Int.intBits z ≤ 1048576) → (∀ p ∈ cs, H p.2 = some (.tbl #[])) → SqL K H a (ns.map V.int) → sp [.ref a] H (fun v _ => v = .bl true) fun _ _ _ => False) ∧
    ∀ base : Heap, K.In base → base.Ns mainGlobals mg → (∀ p ∈ cs, GxR.TabB base mg p.1 p.2) → FnG l.prog w K mg base CX0 k fa fd [x] sp

section
variable {P : Program} {w : World} {K : PySem.W.Frag} {mg mb : Str → Option Value} {k : Nat} {fa a : Addr} {cs : List (Addr × Addr)} {fd : FuncData} {x : Str} {sp : Sp} {s : Shared} {vs : List Value} {ns : List Int}
/-- what is tracked as the law begins: the tables, and the script if it is no written thing -/
def hp0 (K : PySem.W.Frag) (cs : List (Addr × Addr)) (a : Addr) (vs : List Value) (ns : List Int) : Hp := fun b =>
  if b ∈ cs.map (·.2) then some (.tbl #[]) else if b = a ∧ K.lookup a = none then some (.frz { cls := .type "list", data := .seq vs.toArray } (.lst (ns.map V.int))) else none
theorem hp0_tab {b : Addr} (h : b ∈ cs.map (·.2)) : hp0 K cs a vs ns b = some (.tbl #[]) := by unfold hp0; rw [if_pos h]
theorem hp0_scr (h : a ∉ cs.map (·.2)) (hk : K.lookup a = none) : hp0 K cs a vs ns a = some (.frz { cls := .type "list", data := .seq vs.toArray } (.lst (ns.map V.int))) := by
  unfold hp0; rw [if_neg h, if_pos ⟨rfl, hk⟩]
theorem hp0_cases {b : Addr} {o : HO} (h : hp0 K cs a vs ns b = some o) : (b ∈ cs.map (·.2) ∧ o = .tbl #[]) ∨ (b ∉ cs.map (·.2) ∧ b = a ∧ K.lookup a = none ∧ o = .frz { cls := .type "list", data := .seq vs.toArray } (.lst (ns.map V.int))) := by
  unfold hp0 at h
  by_cases h1 : b ∈ cs.map (·.2)
  · rw [if_pos h1] at h; exact .inl ⟨h1, (Option.some.inj h).symm⟩
  · rw [if_neg h1] at h
    by_cases h2 : b = a ∧ K.lookup a = none
    · rw [if_pos h2] at h; exact .inr ⟨h1, h2.1, h2.2, (Option.some.inj h).symm⟩
    · rw [if_neg h2] at h; cases h

theorem law_endG (KX : K.In s.heap) (n1 : s.heap.Ns mainGlobals mg) (n2 : s.heap.Ns builtinsNs mb) (n3 : ∀ x : Str, x ≠ "__name__" → mb x = bootBuiltins x) (lim : s.heap.NoLimit) (hg : s.gens = #[])
    (hT : ∀ p ∈ cs, s.heap.get? p.2 = some { cls := .none, data := .fields #[] } ∧ K.lookup p.2 = none ∧ PySem.W.CodeHd s.heap p.1 p.2)
    (hbm : ∃ (bm : Addr) (ob : Obj), mg "__builtins__" = some (.ref bm) ∧ bm ≠ builtinsNs ∧ s.heap.get? bm = some ob ∧ ob.cls = .type "module" ∧ ob.dict = some builtinsNs ∧ ob.data = .plain)
    (ha : s.heap.get? a = some { cls := .type "list", data := .seq vs.toArray }) (hi : IntsAre vs ns) (hl : ns.length ≤ sizeLine) (rm : Room k callerA)
    (F : ∀ base : Heap, K.In base → base.Ns mainGlobals mg → (∀ p ∈ cs, GxR.TabB base mg p.1 p.2) → FnG P w K mg base CX0 k fa fd [x] sp) (hb : ∀ (s : Shared) (u : Value), BindsTo s fd ⟨[u], []⟩ [(x, u)])
    (hsp : ∀ H : Hp, (∀ p ∈ cs, H p.2 = some (.tbl #[])) → SqL K H a (ns.map V.int) → sp [.ref a] H (fun v _ => v = .bl true) fun _ _ _ => False) :
    codeAny (model P w) callerA (.call (.ref fa) ⟨[.ref a], []⟩) (fun r s' => r = .ok (.ret (.bool true)) ∧ OldK s.heap s'.heap ∧ s'.os = s.os ∧ AllBare s'.gens) s := by
  have rv := vals_ints hi
  have lenV := hi.length
  obtain ⟨H, eH⟩ : ∃ H, H = hp0 K cs a vs ns := ⟨_, rfl⟩
  have memT : ∀ p ∈ cs, p.2 ∈ cs.map (·.2) := fun p hp => List.mem_map.mpr ⟨p, hp, rfl⟩
  have tabH : ∀ b, b ∈ cs.map (·.2) → s.heap.get? b = some { cls := .none, data := .fields #[] } ∧ K.lookup b = none := fun b hb => by
    obtain ⟨p, hp, e⟩ := List.mem_map.mp hb
    rw [← e]
    exact ⟨(hT p hp).1, (hT p hp).2.1⟩
  have aT : a ∉ cs.map (·.2) := fun z => by
    have q := (tabH a z).1
    rw [ha] at q
    have q2 : Data.seq vs.toArray _ = Data.fields #[] := congrArg Obj.data (Option.some.inj q)
    cases q2
  have hS : SqL K H a (ns.map V.int) := by
    cases hk : K.lookup a with
    | none => exact .inl (.inr ⟨_, by rw [eH]; exact hp0_scr aT hk⟩)
    | some o =>
      have e := KX a o hk
      rw [ha] at e
      cases e
      exact .inr ⟨_, vs.toArray, _, hk, rfl, rfl, rfl, by rw [List.size_toArray, lenV]; exact hl, by simpa using rv⟩
  have hH : ∀ p ∈ cs, H p.2 = some (.tbl #[]) := fun p hp => by rw [eH]; exact hp0_tab (memT p hp)
  have hok : HOk P w H s.heap := fun b o e => by
    rw [eH] at e
    rcases hp0_cases e with ⟨h1, rfl⟩ | ⟨h1, rfl, hk, rfl⟩
    · exact (tabH b h1).1
    · exact ⟨ha, by rw [List.length_map]; exact hl, vs, _, rv, ha⟩
  -- what is neither a sequence nor an empty table is untracked
  have out : ∀ {b : Addr} {o : Obj}, s.heap.get? b = some o → (∀ us n, o.data ≠ .seq us n) → o.data ≠ .fields #[] → H b = none := fun {b o} e h1 h2 => by
    cases q : H b with
    | none => rfl
    | some u =>
      rw [eH] at q
      rcases hp0_cases q with ⟨h3, _⟩ | ⟨_, h3, _⟩
      · rw [(tabH b h3).1] at e; cases e; exact absurd rfl h2
      · rw [h3, ha] at e; cases e; exact absurd rfl (h1 _ _)
  have keepB : ∀ {b : Addr} {o : Obj}, s.heap.get? b = some o → H b = none → (hidT s.heap H).get? b = some o := fun e n => hidT_get e n
  have nsB : ∀ {b : Addr} {m : Str → Option Value}, s.heap.Ns b m → (hidT s.heap H).Ns b m := fun {b m} ⟨o, es, ep, e, d, r⟩ =>
    ⟨o, es, ep, keepB e (out e (fun us n z => by rw [d] at z; cases z) fun z => by rw [d] at z; cases z), d, r⟩
  have KB : K.In (hidT s.heap H) := fun b o e => keepB (KX b o e) (by
    cases q : H b with
    | none => rfl
    | some u =>
      rw [eH] at q
      rcases hp0_cases q with ⟨h3, _⟩ | ⟨_, h3, h4, _⟩
      · rw [(tabH b h3).2] at e; cases e
      · rw [h3, h4] at e; cases e)
  have MB : L2.Mod K mg (hidT s.heap H) := ⟨KB, nsB n1, ⟨mb, nsB n2, n3⟩, let ⟨mc, h1, h2⟩ := lim; ⟨mc, nsB h1, h2⟩⟩
  have TB : ∀ p ∈ cs, GxR.TabB (hidT s.heap H) mg p.1 p.2 := fun p hp => by
    obtain ⟨t1, t2, o, us, file, tf, flags, tg, inF, text, tt, e1, r1, r2, r3, r4, r5, r6, r7, r8, hne⟩ := hT p hp
    obtain ⟨bm, ob, b1, b2, b3, b4, b5, b6⟩ := hbm
    refine ⟨⟨o, us, file, tf, flags, tg, inF, text, tt, keepB e1 (out e1 (fun vs n z => by rw [r2] at z; cases z) fun z => by rw [r2] at z; cases z; simp at r3), r1, r2, r3, r4, r5, r6, r7, r8, hne⟩,
      ⟨bm, ob, b1, b2, fun q => ?_, fun q => ?_, keepB b3 (out b3 (fun vs n z => by rw [b6] at z; cases z) fun z => by rw [b6] at z; cases z), b4, b5, b6⟩, fun z => ?_⟩
    · obtain ⟨o, es, ep, e, hd, _⟩ := n1
      rw [q, e] at b3; cases b3
      rw [hd] at b6; cases b6
    · rw [q, t1] at b3; cases b3; cases b6
    · obtain ⟨o, es, ep, e, hd, _⟩ := n1
      rw [z, t1] at e; cases e; cases hd
  have e0 : Env0 P w K mg (hidT s.heap H) callerA [] s H := ⟨rfl, MB, fun b o e => of_hidT e, Nat.le_of_eq (hidT_size _ _), trivial, fun b hb => absurd (show b ∈ ([] : List Addr) from hb) (by simp), hok, .of_eq hg⟩
  refine codeAny_mono ((F _ KB (nsB n1) TB).go callerA [] s H ⟨[.ref a], []⟩ [.ref a] [.ref a] _ _ rfl rm e0 (hb s (.ref a)) (.cons rfl .nil) (hsp H hH hS)) fun r s' h => ?_
  cases r with
  | error e => exact absurd (show False from h) (fun z => z)
  | ok fl =>
    cases fl with
    | next => exact absurd (show False from h) (fun z => z)
    | brk => exact absurd (show False from h) (fun z => z)
    | cont => exact absurd (show False from h) (fun z => z)
    | ret u =>
      obtain ⟨v, H', hos, bare, un, hok', r', q⟩ := h
      subst q
      obtain rfl : u = Value.bool true := r'
      have noA : ∀ b : Addr, b ∉ ([] : List Addr) := fun b => by simp
      have same : ∀ b o, b ∉ cs.map (·.2) → s.heap.get? b = some o → s'.heap.get? b = some o := fun b o nb e => by
        cases q : H b with
        | none => exact un.keep b o e q (fun z => absurd (show b ∈ ([] : List Addr) from z) (noA b)) (noA b)
        | some u =>
          have q0 := q
          rw [eH] at q
          rcases hp0_cases q with ⟨h3, _⟩ | ⟨_, h3, h4, rfl⟩
          · exact absurd h3 nb
          · obtain ⟨e1, _⟩ := hok b _ q0
            obtain ⟨e2, _⟩ := hok' b _ (un.frzs b _ _ q0)
            rw [e] at e1
            cases e1
            exact e2
      have more : ∀ b, b ∈ cs.map (·.2) → ∃ m : Array Value, s'.heap.get? b = some { cls := .none, data := .fields m } := fun b hb => by
        obtain ⟨p, hp, e⟩ := List.mem_map.mp hb
        obtain ⟨m, z⟩ := un.tbls p.2 #[] (hH p hp)
        rw [← e]
        exact ⟨_, hok' p.2 _ z⟩
      refine ⟨rfl, ⟨fun b o e => ?_, fun b o e => ?_⟩, hos, bare⟩
      · by_cases hb : b ∈ cs.map (·.2)
        · obtain ⟨m, hm⟩ := more b hb
          obtain ⟨p, hp, ep⟩ := List.mem_map.mp hb
          rw [(tabH b hb).1] at e
          cases e
          refine .inr (.inl ⟨?_, rfl, #[], m, rfl, by rw [Array.empty_append]; exact hm⟩)
          rw [← ep]
          exact ((hT p hp).2.2.tab (hT p hp).1).isCodeTable
        · exact .inl (same b o hb e)
      · by_cases hb : b ∈ cs.map (·.2)
        · obtain ⟨m, hm⟩ := more b hb
          exact ⟨_, hm⟩
        · exact ⟨o, same b o hb e⟩
end
theorem walkG {l : PySem.W.OpenLaw} {n k : Nat} {q : Program} {loose : List Str} {XP : (Str → Option Value) → Heap → Prop} {YP : World → Heap → Prop} {d : DefRec} {x : Str}
    (hn : l.most = some n) (hn2 : n ≤ sizeLine) (hdf : d.params.defaults = []) (rm : Room k callerA)
    (F : ∀ (w : World) (mg : Str → Option Value) (fa : Addr) (h : Heap), YP w h → h.Ns mainGlobals mg → mg d.name = some (.ref fa) → ∃ K : PySem.W.Frag, K.In h ∧ LawG l w K k n x mg fa h) :
    PySem.W.WalkO q loose XP YP l.row.toRowW d [] (fun f vs => PySem.call f vs) := by
  refine Att.attach_callB hn hdf fun w s0 s1 mg mb fa o pm cd doc a vs ns G Y ho hd hcd hmg hobj hints hlen hbits hg => ?_
  obtain ⟨K, KX, fd, cs, sp, hT, hb, hsp, hF⟩ := F w mg fa _ Y G.T.g hmg
  exact law_endG KX G.T.g G.T.b G.T.builtins G.T.nolimit hg hT G.T.bmain hobj hints (Nat.le_trans hlen hn2) rm hF hb fun H hH hS => hsp H a ns hlen hbits hH hS
/-! ### facts of the head -/
theorem funOf {K : PySem.W.Frag} {x qual : Str} {st : Stmt} {f : Addr} {fd : FuncData} (F : FunD K x qual (defArgs st) (defBody st) (defScope st) [] [] f fd) : Fun K x qual st f fd := by
  obtain ⟨oc, od, dV, kV, doc, pm, an, cdv, ct, osl, e, lk, hcd, hD, hK⟩ := F.ex
  rcases hD with ⟨_, rfl⟩ | ⟨z, _⟩
  · exact ⟨⟨oc, od, kV, doc, pm, an, cdv, ct, osl, e, lk, hcd⟩, F.kp⟩
  · exact absurd rfl z
/-- a def of the module: where it stands, how it is called -/
structure Df (K : PySem.W.Frag) (mg : Str → Option Value) (x : Str) (st : Stmt) (ps : List Str) (f : Addr) (fd : FuncData) : Prop where
  F : Fun K x x st f fd
  b : Binds K fd ps []
  g : mg x = some (.ref f)
/-- its code's object -/
def CodeIs (K : PySem.W.Frag) (f c : Addr) : Prop := ∀ oc od fd osl, K.lookup f = some ⟨oc, od, .func fd, osl⟩ → fd.code = .ref c
theorem codeIs_of {K : PySem.W.Frag} {x qual : Str} {st : Stmt} {p : Str × Option Str} {fd : FuncData} (F : Fun K x qual st (He.fAd K p) fd) : CodeIs K (He.fAd K p) (He.codeOf K p) := by
  obtain ⟨oc, od, kV, doc, pm, an, cdv, ct, osl, e, lk, hcd⟩ := F.ex
  obtain ⟨c, hc⟩ := He.codeIn_ref hcd
  have h1 : He.codeOf K p = c := He.codeOf_eq lk (by rw [e]; exact hc)
  intro oc2 od2 fd2 osl2 lk2
  rw [lk] at lk2
  cases lk2
  rw [h1, e]
  exact hc
theorem Df.mk' {K : PySem.W.Frag} {mg : Str → Option Value} {x : Str} {st : Stmt} {ps : List Str} {f : Addr} {fd : FuncData} (F : FunD K x x (defArgs st) (defBody st) (defScope st) [] [] f fd) (hm : mg x = some (.ref f))
    (h : ∀ (kV doc pm : Value) (an : Option Addr) (cdv ct : Value) (us : List Value), us.length = ps.length → bindArgs (PySem.W.fnOf x x (defArgs st) (defBody st) (defScope st) .none kV doc pm an cdv ct) ⟨us, []⟩ = pure (ps.zip us)) : Df K mg x st ps f fd :=
  ⟨funOf F, F.bindsN h, hm⟩
/-- as Fun.ok, the code's object known -/
theorem okC {P : Program} {w : World} {K : PySem.W.Frag} {mg : Str → Option Value} {base : Heap} {k : Nat} {f c : Addr} {fd : FuncData} {ps : List Str} {sp : Sp} {x qual : Str} {st : Stmt} {N : List Str} (F : Fun K x qual st f fd) (hC : CodeIs K f c) (S : FnScope N ps (defScope st)) (len : ∀ vs H Q E, sp vs H Q E → vs.length = ps.length)
    (hbody : ∀ (A : Around) (outer : List Env) (s : Shared) (H : Hp) (vs : List V) (Q : VK) (E : XK), Room k (A.deeper (envOfC qual (defScope st) s.heap.objs.size f (.ref c))) → sp vs H Q E →
      ∃ t, PSs (cxOf CX0 P w K mg base N qual (defScope st) f (.ref c) A outer s H E).nox (defBody st) t ∧ t { nx := fun _ H' => Q .non H', rt := Q } (start N vs) H) : FnOk P w K mg base CX0 (k + 1) f fd ps sp := by
  obtain ⟨oc, od, kV, doc, pm, an, cdv, ct, osl, rfl, lk, hcd⟩ := F.ex
  have hc : cdv = .ref c := hC _ _ _ _ lk
  subst hc
  refine fn_of lk hcd S len fun A outer s H vs Q E hr hs => ?_
  obtain ⟨t, h, q⟩ := hbody A outer s H vs Q E hr hs
  exact ⟨t, h.nox, q⟩
end Em

namespace Em
open PySem PySem.Spec PyProof.Rows L2 Qt

/-! ### what a net is, of any data -/
def isW : PyData → Bool
  | .int _ => true
  | _ => false
def numB (m : Nat) : PyData → Bool
  | .int i => decide (0 ≤ i) && decide (i < (m : Int))
  | _ => false
def lenB : PyData → Bool
  | .int i => !decide (i < 1)
  | _ => false
def nxB (m : Nat) : PyData → Bool
  | .none => true
  | d => numB m d
def lampB (m : Nat) : PyData → Bool
  | .tuple [l, o] => lenB l && nxB m o
  | _ => false
def netB : PyData → Bool
  | .tuple ds => !decide ((ds.length : Int) < 1) && !decide ((12 : Int) < (ds.length : Int)) && (ds.map (lampB ds.length)).all id
  | _ => false

/-! ### the class of data -/
def kname : PyData → String
  | .none => "NoneType"
  | .bool _ => "bool"
  | .int _ => "int"
  | .str _ => "str"
  | .list _ => "list"
  | .tuple _ => "tuple"
  | .dict _ => "dict"
theorem knd_of {c : Qc} {S : List Addr} (O : c.Ok) : ∀ {v : V} {d : PyData}, Dx S c.H v d → Knd c v (kname d)
  | _, _, .non => .non
  | _, _, .bl b => .bl b
  | _, _, .int i => .int i
  | _, _, .str z => .str z
  | _, _, .lst n h r => by
    obtain ⟨_, its, m, _, e⟩ := O.hok _ _ h
    exact .lst ⟨_, e, rfl⟩
  | _, _, .tup n h r => by
    obtain ⟨_, its, _, o, e, ec, _⟩ := O.hok _ _ h
    exact .tup ⟨o, e, ec⟩
  | _, _, .dic n h => by
    obtain ⟨_, _, vs, _, o, es, ep, e, q, _⟩ := O.hok _ _ h
    exact .dic ⟨o, e, q.1⟩
theorem tupQ_of {c : Qc} (O : c.Ok) {a : Addr} {xs : List V} (h : c.H a = some (.tup xs)) : TupQ c a xs := by
  obtain ⟨hz, its, rv, ht⟩ := O.hok _ _ h
  exact ⟨its, rv, ht, hz⟩
/-- isinstance(x, C) of data -/
def kindS (k C : String) : Bool := k == C || (k == "bool" && C == "int")
def kindB (d : PyData) (C : String) : Bool := kindS (kname d) C
def kinds : List String := ["NoneType", "bool", "int", "str", "list", "tuple", "dict"]
theorem kname_mem (d : PyData) : kname d ∈ kinds := by cases d <;> simp [kname, kinds]
def cls4 : List String := ["int", "bool", "tuple", "list"]
theorem kits : ∀ C ∈ cls4, ∀ k ∈ kinds, kitB k C = some (kindS k C) := by decide +kernel
theorem kit_data {K : PySem.W.Frag} {d : PyData} {C : String} (hC : C ∈ cls4) : PySem.W.kitOne K (.type (kname d)) (.type C) = some (kindB d C) := kit_ty (kits C hC _ (kname_mem d))
theorem qe_isi {c : Qc} {k : Nat} {env : Env} {N : Nm} {S : List Addr} {v : V} {d : PyData} {C : String} {e : Expr} {p1 p2 pos : Pos} (O : c.Ok) (h : Dx S c.H v d) (he : QE c k env N e v) (hg : env.kindOf ("isinstance" : Str) = some .globalImplicit) (hm : c.mg "isinstance" = none)
    (hgC : env.kindOf (Str.ofString C) = some .globalImplicit) (hmC : c.mg (Str.ofString C) = none) (hvC : bootBuiltins (Str.ofString C) = some (.type C)) (hC : C ∈ cls4)
    (hn : (Str.ofString C) ≠ "__name__" := by decide) (hd : ((Str.ofString C) == ("__debug__" : Str)) = false := by decide)
    (s1 : starEach (e :: [.Name (Str.ofString C) p2]) env = (false, eval e env) :: starEach [.Name (Str.ofString C) p2] env := by rfl) (s2 : starEach (.Name (Str.ofString C) p2 :: []) env = (false, eval (.Name (Str.ofString C) p2) env) :: starEach [] env := by rfl)
    (hpl : (backTo pos (starEach [.Name (Str.ofString C) p2] env)).any (·.1) = false := by rfl) :
    QE c k env N (.Call (.Name "isinstance" p1) (e :: [.Name (Str.ofString C) p2]) [] pos) (.bl (kindB d C)) :=
  q_callB O (qc_isi O (knd_of O h) (kit_data hC)) hg hm (by decide +kernel) (qa_cons he (qa_cons (q_blt (v := .ty C) O hgC hmC hvC rfl hn hd) qa_nil s2) s1) (by decide) (by decide) s1 hpl
theorem tyx_of {K : PySem.W.Frag} {S : List Addr} {H : Hp} : ∀ {v : V} {d : PyData}, Dx S H v d → TyX K H v (.type (kname d))
  | _, _, .non => .base .non
  | _, _, .bl b => .base (.bl b)
  | _, _, .int i => .base (.int i)
  | _, _, .str z => .base (.str z)
  | _, _, .lst n h r => .base (.lst h)
  | _, _, .tup n h r => .base (.tup h)
  | _, _, .dic n h => .base (.dK h)
mutual
theorem Dx.wiped {S : List Addr} {H : Hp} {P : Addr} (t : GxR.TabG H P) : ∀ {v : V} {d : PyData}, Dx S H v d → Dx S (wipe H P) v d
  | _, _, .non => .non
  | _, _, .bl b => .bl b
  | _, _, .int i => .int i
  | _, _, .str z => .str z
  | _, _, .lst n h r => .lst n (wipe_at (fun z => by obtain ⟨ps, e, _⟩ := t; rw [z, e] at h; cases h) h) (DxA.wiped t r)
  | _, _, .tup n h r => .tup n (wipe_at (fun z => by obtain ⟨ps, e, _⟩ := t; rw [z, e] at h; cases h) h) (DxA.wiped t r)
  | _, _, .dic n h => .dic n (wipe_at (fun z => by obtain ⟨ps, e, _⟩ := t; rw [z, e] at h; cases h) h)
theorem DxA.wiped {S : List Addr} {H : Hp} {P : Addr} (t : GxR.TabG H P) : ∀ {v : List V} {d : List PyData}, DxA S H v d → DxA S (wipe H P) v d
  | _, _, .nil => .nil
  | _, _, .cons h r => .cons (Dx.wiped t h) (DxA.wiped t r)
end
theorem free_by {names : List (Str × NameKind)} {sc : Scope} {n : Nat} (h : names.all (fun y => y.2 != .free || sc.names.lookup y.1 == some .cell) = true) : ∀ y ∈ names, y.2 = .free → ∃ c, (cellsFrom n sc.names []).lookup y.1 = some c := fun y hy e => by
  have q := List.all_eq_true.mp h y hy
  rw [e] at q
  exact cell_has (by simpa using q)
end Em

namespace Em
open PySem PySem.Spec PyProof.Rows L2 Qt

/-! ### nets -/
abbrev Net := List (Int × Option Nat)
def nxD : Option Nat → PyData
  | none => .none
  | some n => .int n
def nxV : Option Nat → V
  | none => .non
  | some n => .int n
def lampD (p : Int × Option Nat) : PyData := .tuple [.int p.1, nxD p.2]
def netD (N : Net) : PyData := .tuple (N.map lampD)
structure NetOk (N : Net) : Prop where
  lo : 1 ≤ N.length
  hi : N.length ≤ 12
  len : ∀ p ∈ N, 1 ≤ p.1
  nx : ∀ p ∈ N, ∀ y, p.2 = some y → y < N.length
theorem netB_of {N : Net} (h : NetOk N) : netB (netD N) = true := by
  have h1 := h.lo
  have h2 := h.hi
  show (!decide (((N.map lampD).length : Int) < 1) && !decide ((12 : Int) < ((N.map lampD).length : Int)) && ((N.map lampD).map (lampB (N.map lampD).length)).all id) = true
  rw [List.length_map, decide_eq_false (by omega), decide_eq_false (by omega)]
  simp only [Bool.not_false, Bool.true_and, List.map_map, List.all_eq_true]
  intro b hb
  obtain ⟨p, hp, rfl⟩ := List.mem_map.mp hb
  have e1 := h.len p hp
  have e2 := h.nx p hp
  obtain ⟨l, o⟩ := p
  have h3 : ¬ l < 1 := by simp only at e1; omega
  show (!decide (l < 1) && nxB N.length (nxD o)) = true
  rw [decide_eq_false h3]
  cases o with
  | none => rfl
  | some y =>
    have := e2 y rfl
    show (decide ((0 : Int) ≤ (y : Int)) && decide ((y : Int) < (N.length : Int))) = true
    rw [decide_eq_true (by omega), decide_eq_true (by omega)]
    rfl
/-- the next lamp -/
def nxt (N : Net) (x : Nat) : Option Nat := (N.getD x (1, none)).2
theorem nxt_get {N : Net} {x : Nat} {p : Int × Option Nat} (h : N[x]? = some p) : nxt N x = p.2 := by
  unfold nxt
  rw [List.getD_eq_getElem?_getD, h]
  rfl
theorem nxt_lt {N : Net} (h : NetOk N) {x y : Nat} (e : nxt N x = some y) : y < N.length := by
  by_cases hx : x < N.length
  · have g := List.getElem?_eq_getElem hx
    rw [nxt_get g] at e
    exact h.nx _ (List.getElem_mem hx) y e
  · unfold nxt at e
    rw [List.getD_eq_getElem?_getD, List.getElem?_eq_none (by omega)] at e
    cases e

/-! ### the way from a lamp: one step more while there is a lamp that was not come by -/
def lastOf (g : List Nat) : Nat := g.getLastD 0
def step (N : Net) (g : List Nat) : List Nat := match nxt N (lastOf g) with
  | none => g
  | some y => if y ∈ g then g else g ++ [y]
def itr {α : Type} (f : α → α) : Nat → α → α
  | 0, a => a
  | n + 1, a => f (itr f n a)
def path (N : Net) (x : Nat) : List Nat := itr (step N) N.length [x]
/-- the way's two parts -/
def cutAt (N : Net) (g : List Nat) : Nat := match nxt N (lastOf g) with
  | none => g.length
  | some y => g.idxOf y
def wayA (N : Net) (x : Nat) : List Nat := (path N x).take (cutAt N (path N x))
def wayR (N : Net) (x : Nat) : List Nat := (path N x).drop (cutAt N (path N x))
def natsD (g : List Nat) : PyData := .tuple (g.map fun n : Nat => .int (n : Int))
def wayD (N : Net) (x : Nat) : PyData := .tuple [natsD (wayA N x), natsD (wayR N x)]
theorem itr_fix {α : Type} {f : α → α} {a : α} (h : f a = a) : ∀ n, itr f n a = a
  | 0 => rfl
  | n + 1 => by
    show f (itr f n a) = a
    rw [itr_fix h n, h]
theorem itr_add {α : Type} {f : α → α} {a : α} (m : Nat) : ∀ n, itr f (m + n) a = itr f n (itr f m a)
  | 0 => rfl
  | n + 1 => by
    show f (itr f (m + n) a) = f (itr f n (itr f m a))
    rw [itr_add m n]
theorem last_app (g : List Nat) (y : Nat) : lastOf (g ++ [y]) = y := by
  unfold lastOf
  rw [List.getLastD_eq_getLast?, List.getLast?_concat]
  rfl
/-- what is gone so far: i steps on the way -/
structure Gone (N : Net) (x i : Nat) (g : List Nat) : Prop where
  it : g = itr (step N) i [x]
  len : g.length = i + 1
  nd : g.Nodup
  lt : ∀ y ∈ g, y < N.length
theorem Gone.start {N : Net} {x : Nat} (h : x < N.length) : Gone N x 0 [x] := ⟨rfl, rfl, by simp, by simpa using h⟩
theorem Gone.more {N : Net} (o : NetOk N) {x i : Nat} {g : List Nat} (a : Gone N x i g) {y : Nat} (h : nxt N (lastOf g) = some y) (hn : y ∉ g) : Gone N x (i + 1) (g ++ [y]) := by
  refine ⟨?_, by rw [List.length_append, a.len]; rfl, ?_, fun z hz => ?_⟩
  · show g ++ [y] = step N (itr (step N) i [x])
    rw [← a.it]
    unfold step
    rw [h]
    simp only [hn, if_false]
  · rw [List.nodup_append]
    refine ⟨a.nd, by simp, fun b hb c hc => ?_⟩
    have : c = y := by simpa using hc
    subst this
    exact fun e => hn (e ▸ hb)
  · rcases List.mem_append.mp hz with hz | hz
    · exact a.lt z hz
    · have : z = y := by simpa using hz
      rw [this]
      exact nxt_lt o h
theorem nodup_le : ∀ {n : Nat} {g : List Nat}, g.Nodup → (∀ y ∈ g, y < n) → g.length ≤ n
  | 0, g, _, h2 => by
    cases g with
    | nil => exact Nat.le_refl _
    | cons y r => exact absurd (h2 y List.mem_cons_self) (Nat.not_lt_zero _)
  | n + 1, g, h1, h2 => by
    by_cases hn : n ∈ g
    · have h3 := nodup_le (n := n) (g := g.erase n) (h1.erase n) fun y hy => by
        have q := (h1.mem_erase_iff).mp hy
        have := h2 y q.2
        have := q.1
        omega
      rw [List.length_erase_of_mem hn] at h3
      omega
    · have h3 := nodup_le (n := n) h1 fun y hy => by
        have := h2 y hy
        have : y ≠ n := fun e => hn (e ▸ hy)
        omega
      omega
theorem Gone.le {N : Net} {x i : Nat} {g : List Nat} (a : Gone N x i g) : g.length ≤ N.length := nodup_le a.nd a.lt
/-- where no step is left, that is the whole path -/
theorem Gone.done {N : Net} {x i : Nat} {g : List Nat} (a : Gone N x i g) (h : step N g = g) : path N x = g := by
  have hl := a.le
  have e : N.length = i + (N.length - i) := by have := a.len; omega
  unfold path
  rw [e, itr_add, ← a.it]
  exact itr_fix h _
theorem step_none {N : Net} {g : List Nat} (h : nxt N (lastOf g) = none) : step N g = g := by unfold step; rw [h]
theorem step_in {N : Net} {g : List Nat} {y : Nat} (h : nxt N (lastOf g) = some y) (hy : y ∈ g) : step N g = g := by unfold step; rw [h]; simp only [hy, if_true]
/-! ### nets and numbers in the heap -/
def natV (g : List Nat) : List V := g.map fun n : Nat => V.int (n : Int)
theorem natV_app (g : List Nat) (y : Nat) : natV (g ++ [y]) = natV g ++ [.int y] := by unfold natV; rw [List.map_append]; rfl
theorem natV_len (g : List Nat) : (natV g).length = g.length := by unfold natV; rw [List.length_map]
theorem natV_get {g : List Nat} {i y : Nat} (h : g[i]? = some y) : (natV g)[i]? = some (.int y) := by unfold natV; rw [List.getElem?_map, h]; rfl
theorem natV_flat (g : List Nat) : (natV g).all flatV = true := by
  unfold natV
  rw [List.all_eq_true]
  intro v hv
  obtain ⟨n, _, rfl⟩ := List.mem_map.mp hv
  rfl
theorem inV_natV {x : Nat} (g : List Nat) : inV (.int x) (natV g) = decide (x ∈ g) := by
  rw [Bool.eq_iff_iff, decide_eq_true_iff]
  unfold inV natV
  rw [List.any_eq_true]
  constructor
  · rintro ⟨v, hv, e⟩
    obtain ⟨n, hn, rfl⟩ := List.mem_map.mp hv
    have e1 : ((n : Int) == (x : Int)) = true := e
    have e2 : n = x := by have := beq_iff_eq.mp e1; omega
    exact e2 ▸ hn
  · intro h
    exact ⟨_, List.mem_map.mpr ⟨x, h, rfl⟩, by show ((x : Int) == (x : Int)) = true; simp⟩
theorem nwA_natV {H H1 : Hp} : ∀ g : List Nat, NwA H H1 (natV g) (g.map fun n : Nat => PyData.int (n : Int))
  | [] => .nil
  | n :: r => .cons (.int _) (nwA_natV r)
theorem dx_nx {S : List Addr} {H : Hp} {v : V} {o : Option Nat} (h : Dx S H v (nxD o)) : v = nxV o := by
  cases o with
  | none => cases h; rfl
  | some n => cases h; rfl
theorem net_at {S : List Addr} {H : Hp} {v : V} {N : Net} (h : Dx S H v (netD N)) : ∃ (ad : Addr) (xs : List V), v = .ref ad ∧ ad ∉ S ∧ H ad = some (.tup xs) ∧ xs.length = N.length ∧
    ∀ (x : Nat) (p : Int × Option Nat), N[x]? = some p → ∃ la : Addr, xs[x]? = some (.ref la) ∧ la ∉ S ∧ H la = some (.tup [.int p.1, nxV p.2]) := by
  cases h with
  | @tup ad xs ds n h r =>
    refine ⟨ad, xs, rfl, n, h, by rw [r.len, List.length_map], fun x p hp => ?_⟩
    obtain ⟨w, hw, hx⟩ := r.get' (i := x) (d := lampD p) (by rw [List.getElem?_map, hp]; rfl)
    cases hx with
    | @tup la ys es m h2 r2 =>
      cases r2 with
      | cons a1 r3 =>
        cases r3 with
        | cons a2 r4 =>
          cases r4
          cases a1
          rw [dx_nx a2] at h2
          exact ⟨la, hw, m, h2⟩
theorem natV_cut0 {g : List Nat} {i : Nat} (h : i ≤ g.length) : cutV (natV g) none (some (i : Int)) = natV (g.take i) := by
  unfold cutV
  rw [show HT.sIx (natV g).length (natV g).length (some (i : Int)) = min i (natV g).length from HT.sIx_nat _ _ i, HT.sIx_none, natV_len, Nat.min_eq_left h, Nat.sub_zero, List.drop_zero]
  unfold natV
  rw [List.map_take]
theorem natV_cut1 {g : List Nat} {i : Nat} (h : i ≤ g.length) : cutV (natV g) (some (i : Int)) none = natV (g.drop i) := by
  unfold cutV
  rw [show HT.sIx (natV g).length 0 (some (i : Int)) = min i (natV g).length from HT.sIx_nat _ _ i, HT.sIx_none, natV_len, Nat.min_eq_left h]
  unfold natV
  rw [← List.map_drop, List.take_of_length_le (by rw [List.length_map, List.length_drop]; exact Nat.le_refl _)]
theorem idx_ne {g : List Nat} {j u y : Nat} (hj : j < g.idxOf y) (hu : g[j]? = some u) : u ≠ y := fun e => by
  have h := List.not_of_lt_findIdx (p := (· == y)) (xs := g) hj
  obtain ⟨h1, h2⟩ := List.getElem?_eq_some_iff.mp hu
  rw [h2, e] at h
  simp at h
theorem big_log {m : Int} (h : 0 < m) (h2 : m < 2 ^ 8000) : m.natAbs.log2 < 9000 := by
  have h3 : m.natAbs < 2 ^ 8000 := by
    have e : ((2 ^ 8000 : Nat) : Int) = (2 : Int) ^ 8000 := by rw [Int.natCast_pow]; rfl
    have : (m.natAbs : Int) < ((2 ^ 8000 : Nat) : Int) := by rw [e]; omega
    exact Int.ofNat_lt.mp this
  exact Nat.lt_of_lt_of_le (PySem.Flt.log2_lt_of (by decide) h3) (by decide)
theorem at_mem {xs : List V} {r : Int} (h0 : 0 ≤ r) (h1 : r < (xs.length : Int)) : ∃ v, atI xs r = some v ∧ v ∈ xs := by
  obtain ⟨j, rfl⟩ : ∃ j : Nat, r = (j : Int) := ⟨r.toNat, by omega⟩
  have hj : j < xs.length := by omega
  exact ⟨xs[j], atI_nat (List.getElem?_eq_getElem hj), List.getElem_mem hj⟩
theorem small64' {n : Nat} (h : n ≤ 1000) : n ≤ sizeLine := Nat.le_trans h (by decide)
/-- what a walk of so many turns has come by: a turn may have stood still -/
structure Been (N : Net) (x i : Nat) (g : List Nat) : Prop where
  it : g = itr (step N) i [x]
  pos : 1 ≤ g.length
  nd : g.Nodup
  lt : ∀ y ∈ g, y < N.length
  st : g.length = i + 1 ∨ step N g = g
theorem Been.start {N : Net} {x : Nat} (h : x < N.length) : Been N x 0 [x] := ⟨rfl, Nat.le_refl _, by simp, by simpa using h, .inl rfl⟩
theorem Been.still {N : Net} {x i : Nat} {g : List Nat} (a : Been N x i g) (h : step N g = g) : Been N x (i + 1) g := by
  refine ⟨?_, a.pos, a.nd, a.lt, .inr h⟩
  show g = step N (itr (step N) i [x])
  rw [← a.it, h]
theorem Been.more {N : Net} (o : NetOk N) {x i : Nat} {g : List Nat} (a : Been N x i g) {y : Nat} (h : nxt N (lastOf g) = some y) (hn : y ∉ g) : Been N x (i + 1) (g ++ [y]) := by
  have e : step N g = g ++ [y] := by unfold step; rw [h]; simp only [hn, if_false]
  have hl : g.length = i + 1 := by
    rcases a.st with h | h
    · exact h
    · rw [e] at h
      have := congrArg List.length h
      simp at this
  refine ⟨?_, by simp, ?_, fun z hz => ?_, .inl (by rw [List.length_append, hl]; rfl)⟩
  · show g ++ [y] = step N (itr (step N) i [x])
    rw [← a.it, e]
  · rw [List.nodup_append]
    refine ⟨a.nd, by simp, fun b hb c hc => ?_⟩
    have : c = y := by simpa using hc
    subst this
    exact fun e => hn (e ▸ hb)
  · rcases List.mem_append.mp hz with hz | hz
    · exact a.lt z hz
    · have : z = y := by simpa using hz
      rw [this]
      exact nxt_lt o h
theorem Been.le {N : Net} {x i : Nat} {g : List Nat} (a : Been N x i g) : g.length ≤ N.length := nodup_le a.nd a.lt
theorem Been.done {N : Net} {x : Nat} {g : List Nat} (a : Been N x N.length g) : path N x = g ∧ step N g = g := by
  refine ⟨a.it.symm, ?_⟩
  rcases a.st with h | h
  · have := a.le
    omega
  · exact h
theorem step_mem {N : Net} {g : List Nat} {y : Nat} (h : nxt N (lastOf g) = some y) (e : step N g = g) : y ∈ g := by
  by_cases hn : y ∈ g
  · exact hn
  · unfold step at e
    rw [h] at e
    simp only [hn, if_false] at e
    have := congrArg List.length e
    simp at this
theorem last_lt {N : Net} {x i : Nat} {g : List Nat} (a : Been N x i g) : lastOf g < N.length := by
  have h := a.pos
  unfold lastOf
  rw [List.getLastD_eq_getLast?]
  have hne : g ≠ [] := fun e => by rw [e] at h; exact absurd h (by decide)
  rw [List.getLast?_eq_some_getLast hne]
  exact a.lt _ (List.getLast_mem hne)
theorem natV_last {N : Net} {x i : Nat} {g : List Nat} (a : Been N x i g) : atI (natV g) (-1) = some (.int (lastOf g : Nat)) := by
  have h := a.pos
  have hne : g ≠ [] := fun e => by rw [e] at h; exact absurd h (by decide)
  have e := (List.dropLast_concat_getLast hne).symm
  have el : lastOf g = g.getLast hne := by
    unfold lastOf
    rw [List.getLastD_eq_getLast?, List.getLast?_eq_some_getLast hne]
    rfl
  have e2 : natV g = natV g.dropLast ++ [.int (g.getLast hne : Nat)] := by rw [← natV_app]; exact congrArg natV e
  rw [el, e2]
  exact atI_last _ _
end Em

namespace Em
open PySem PySem.Spec PyProof.Rows L2 Qt

/-! ### nets and ways as data: shown, compared -/
def Short (N : Net) : Prop := ∀ p ∈ N, p.1 < 10 ^ 60
theorem lamp_lay (p : Int × Option Nat) : (lampD p).canLay0 = true := by
  obtain ⟨l, o⟩ := p
  cases o <;> rfl
theorem all_lay {α : Type} {f : α → PyData} (h : ∀ a, (f a).canLay0 = true) : ∀ xs : List α, PyData.canLayAll0 (xs.map f) = true
  | [] => rfl
  | x :: r => by
    show ((f x).canLay0 && PyData.canLayAll0 (r.map f)) = true
    rw [h x, all_lay h r]
    rfl
theorem all_depth {α : Type} {f : α → PyData} {n : Nat} (h : ∀ a, (f a).depth ≤ n) : ∀ xs : List α, PyData.depthAll (xs.map f) ≤ n
  | [] => Nat.zero_le _
  | x :: r => by
    show max (f x).depth (PyData.depthAll (r.map f)) ≤ n
    exact Nat.max_le.mpr ⟨h x, all_depth h r⟩
theorem net_lay (N : Net) : (netD N).canLay0 = true := by
  show PyData.canLayAll0 (N.map lampD) = true
  exact all_lay lamp_lay N
theorem lamp_depth (p : Int × Option Nat) : (lampD p).depth ≤ 1 := by
  obtain ⟨l, o⟩ := p
  cases o <;> exact Nat.le_refl _
theorem net_depth (N : Net) : (netD N).depth ≤ 2 := by
  show PyData.depthAll (N.map lampD) + 1 ≤ 2
  have := all_depth lamp_depth N
  omega
theorem net_noDict (N : Net) : (netD N).hasDict = false := PyData.hasDict_of_canLay _ (net_lay N)
theorem net_shaped (N : Net) : SeqAt.shaped (netD N) = true := by
  unfold SeqAt.shaped
  rw [net_lay, decide_eq_true (Nat.le_trans (net_depth N) (by decide))]
  rfl
theorem nats_lay (g : List Nat) : (natsD g).canLay0 = true := by
  show PyData.canLayAll0 (g.map _) = true
  exact all_lay (fun _ => rfl) g
theorem nats_depth (g : List Nat) : (natsD g).depth ≤ 1 := by
  show PyData.depthAll (g.map _) + 1 ≤ 1
  have := all_depth (f := fun n : Nat => PyData.int (n : Int)) (n := 0) (fun _ => Nat.le_refl _) g
  omega
theorem way_lay (N : Net) (x : Nat) : (wayD N x).canLay0 = true := by
  show ((natsD _).canLay0 && ((natsD _).canLay0 && true)) = true
  rw [nats_lay, nats_lay]
  rfl
theorem way_depth (N : Net) (x : Nat) : (wayD N x).depth ≤ 2 := by
  show max (natsD _).depth (max (natsD _).depth 0) + 1 ≤ 2
  have h1 := nats_depth (wayA N x)
  have h2 := nats_depth (wayR N x)
  have : max (natsD (wayA N x)).depth (max (natsD (wayR N x)).depth 0) ≤ 1 := Nat.max_le.mpr ⟨h1, Nat.max_le.mpr ⟨h2, Nat.zero_le _⟩⟩
  omega
theorem way_noDict (N : Net) (x : Nat) : (wayD N x).hasDict = false := PyData.hasDict_of_canLay _ (way_lay N x)
theorem way_shaped (N : Net) (x : Nat) : SeqAt.shaped (wayD N x) = true := by
  unfold SeqAt.shaped
  rw [way_lay, decide_eq_true (Nat.le_trans (way_depth N x) (by decide))]
  rfl
/-! a number of few signs -/
theorem small_log {i : Int} (h : i.natAbs < 10 ^ 60) : i.natAbs.log2 < 200 := PySem.Flt.log2_lt_of (by decide) (Nat.lt_of_lt_of_le h (by decide))
theorem small_shown {i : Int} (h : i.natAbs < 10 ^ 60) : (PyData.shown (.int i)).length ≤ 61 := by
  have e := int_text_length_le10 (k := 60) (by decide) h
  show (Str.ofString (toString i)).length ≤ 61
  rw [PySem.ofString_length]
  exact e
theorem small_weight {i : Int} (h : i.natAbs < 10 ^ 60) : (PyData.int i).weight ≤ 200 := by
  have := small_log h
  show (if i == 0 then 0 else i.natAbs.log2 + 1) ≤ 200
  split <;> omega
structure SmallD (d : PyData) : Prop where
  sh : d.showable = true
  lv : d.leavesShort 61 = true
  wt : d.weight ≤ 600
theorem small_int {i : Int} (h : i.natAbs < 10 ^ 60) : (PyData.int i).showable = true ∧ (PyData.int i).leavesShort 61 = true := by
  have h1 := small_log h
  have h2 := small_shown h
  exact ⟨by show decide _ = true; exact decide_eq_true (by omega), by show decide _ = true; exact decide_eq_true h2⟩
theorem lamp_small {p : Int × Option Nat} (h1 : 1 ≤ p.1) (h2 : p.1 < 10 ^ 60) (h3 : ∀ y, p.2 = some y → y < 12) : SmallD (lampD p) := by
  obtain ⟨l, o⟩ := p
  have hl : l.natAbs < 10 ^ 60 := by simp only at h1 h2; omega
  obtain ⟨a1, a2⟩ := small_int hl
  have a3 := small_weight hl
  cases o with
  | none =>
    refine ⟨?_, ?_, ?_⟩
    · show ((PyData.int l).showable && (true && true)) = true
      rw [a1]; rfl
    · show ((PyData.int l).leavesShort 61 && (true && true)) = true
      rw [a2]; rfl
    · show (PyData.int l).weight + 1 + (0 + 1 + 0) ≤ 600
      omega
  | some y =>
    have := h3 y rfl
    have hy : (y : Int).natAbs < 10 ^ 60 := by omega
    obtain ⟨b1, b2⟩ := small_int hy
    have b3 := small_weight hy
    refine ⟨?_, ?_, ?_⟩
    · show ((PyData.int l).showable && ((PyData.int (y : Int)).showable && true)) = true
      rw [a1, b1]; rfl
    · show ((PyData.int l).leavesShort 61 && ((PyData.int (y : Int)).leavesShort 61 && true)) = true
      rw [a2, b2]; rfl
    · show (PyData.int l).weight + 1 + ((PyData.int (y : Int)).weight + 1 + 0) ≤ 600
      omega
theorem all_small {α : Type} {f : α → PyData} : ∀ xs : List α, (∀ a ∈ xs, SmallD (f a)) → PyData.showableAll (xs.map f) = true ∧ PyData.leavesShortAll 61 (xs.map f) = true ∧ PyData.weightAll (xs.map f) ≤ 601 * xs.length
  | [], _ => ⟨rfl, rfl, Nat.zero_le _⟩
  | x :: r, h => by
    have a := h x List.mem_cons_self
    obtain ⟨b1, b2, b3⟩ := all_small r fun y hy => h y (List.mem_cons_of_mem _ hy)
    have c := a.wt
    refine ⟨?_, ?_, ?_⟩
    · show ((f x).showable && PyData.showableAll (r.map f)) = true
      rw [a.sh, b1]; rfl
    · show ((f x).leavesShort 61 && PyData.leavesShortAll 61 (r.map f)) = true
      rw [a.lv, b2]; rfl
    · show (f x).weight + 1 + PyData.weightAll (r.map f) ≤ 601 * (r.length + 1)
      omega
theorem net_show {N : Net} (o : NetOk N) (s : Short N) : (netD N).showable = true ∧ (netD N).shown.length ≤ sizeLine := by
  have hi := o.hi
  obtain ⟨h1, h2, h3⟩ := all_small (f := lampD) N fun p hp => lamp_small (o.len p hp) (s p hp) fun y hy => by
    have := o.nx p hp y hy
    omega
  refine ⟨h1, ?_⟩
  have h4 := PyData.shown_le 61 (by decide) (netD N) h2
  have h5 : (netD N).weight ≤ 601 * 12 := Nat.le_trans h3 (Nat.mul_le_mul_left _ hi)
  have h6 : (61 + 2) * (netD N).weight ≤ 63 * (601 * 12) := Nat.mul_le_mul_left _ h5
  rw [sizeLine_eq]
  omega
/-! a way in the heap -/
theorem ints_at {S : List Addr} {H : Hp} : ∀ {xs : List V} (g : List Nat), DxA S H xs (g.map fun n : Nat => PyData.int (n : Int)) → xs = natV g
  | _, [], h => by
    cases h
    rfl
  | _, n :: r, h => by
    cases h with
    | cons a t =>
      cases a
      rw [ints_at r t]
      rfl
theorem nats_at {S : List Addr} {H : Hp} {v : V} {g : List Nat} (h : Dx S H v (natsD g)) : ∃ a : Addr, v = .ref a ∧ a ∉ S ∧ H a = some (.tup (natV g)) := by
  cases h with
  | @tup a xs ds n h r => exact ⟨a, rfl, n, by rw [h, ints_at g r]⟩
theorem way_at {S : List Addr} {H : Hp} {v : V} {N : Net} {x : Nat} (h : Dx S H v (wayD N x)) : ∃ a b c : Addr, v = .ref a ∧ a ∉ S ∧ H a = some (.tup [.ref b, .ref c]) ∧ H b = some (.tup (natV (wayA N x))) ∧ H c = some (.tup (natV (wayR N x))) ∧ b ∉ S ∧ c ∉ S := by
  cases h with
  | @tup a xs ds n h r =>
    cases r with
    | cons a1 r =>
      cases r with
      | cons a2 r =>
        cases r
        obtain ⟨b, rfl, nb, hb⟩ := nats_at a1
        obtain ⟨c, rfl, nc, hc⟩ := nats_at a2
        exact ⟨a, b, c, rfl, n, h, hb, hc, nb, nc⟩
theorem step_len (N : Net) (g : List Nat) : (step N g).length ≤ g.length + 1 := by
  unfold step
  split
  · omega
  · split
    · omega
    · rw [List.length_append]
      exact Nat.le_refl _
theorem itr_len (N : Net) (x : Nat) : ∀ n, (itr (step N) n [x]).length ≤ n + 1
  | 0 => Nat.le_refl _
  | n + 1 => by
    have h1 := itr_len N x n
    have h2 := step_len N (itr (step N) n [x])
    show (step N (itr (step N) n [x])).length ≤ _
    omega
theorem way_len {N : Net} (o : NetOk N) (x : Nat) : (natV (wayA N x)).length + (natV (wayR N x)).length ≤ 13 := by
  have h1 : (path N x).length ≤ N.length + 1 := itr_len N x N.length
  have h2 := o.hi
  rw [natV_len, natV_len]
  unfold wayA wayR
  rw [List.length_take, List.length_drop]
  omega
/-- t + u, whichever way it is made -/
theorem catA_any {K : PySem.W.Frag} {x y : V} {H : Hp} {Q : VK} {a b : Addr} {xs ys : List V} (hx : x = .ref a) (hy : y = .ref b) (h1 : SqT K H a xs) (h2 : SqT K H b ys) (hl : xs.length + ys.length ≤ sizeLine) (q : ∀ p H', SqT K H' p (xs ++ ys) → Kp [] H H' → Q (.ref p) H') : rCatA K x y H Q := by
  refine ⟨a, b, xs, ys, hx, hy, h1, h2, hl, fun e => ?_, fun _ e => ?_, fun _ _ p np => ?_⟩
  · refine q b H ?_ .rfl'
    rw [e]
    exact h2
  · refine q a H ?_ .rfl'
    rw [e, List.append_nil]
    exact h1
  · exact q p _ (SqT.of upd_same) (Kp.new np)
theorem Kp.seqT {S : List Addr} {K : PySem.W.Frag} {H H1 : Hp} (k : Kp S H H1) {b : Addr} {xs : List V} (nb : b ∉ S) (h : SqT K H b xs) : SqT K H1 b xs := by
  rcases h with (h | ⟨o, h⟩) | h
  · exact .inl (.inl (k.tup nb h))
  · exact .inl (.inr ⟨o, k.at_ b _ nb h fun ps z => by cases z⟩)
  · exact .inr h
end Em

namespace Em
open PySem PySem.Spec PyProof.Rows L2 Qt

/-! ### data of any kind: within bounds -/
mutual
def okD : PyData → Bool
  | .none | .bool _ => true
  | .int i => decide (i.natAbs < 10 ^ 60)
  | .str z => (z.cps.toList.all fun c => decide (c < 16 ^ 8)) && decide (z.cps.size ≤ 7)
  | .list xs | .tuple xs => okAll xs
  | .dict _ => false
def okAll : List PyData → Bool
  | [] => true
  | x :: xs => okD x && okAll xs
end
mutual
theorem okD_show : ∀ d : PyData, okD d = true → d.showable = true ∧ d.leavesShort 61 = true
  | .none, _ => ⟨rfl, rfl⟩
  | .bool b, _ => ⟨rfl, rfl⟩
  | .int i, h => small_int (of_decide_eq_true (by simpa only [okD] using h))
  | .str z, h => ⟨rfl, (Bool.and_eq_true_iff.mp (show ((z.cps.toList.all fun c => decide (c < 16 ^ 8)) && decide (z.cps.size ≤ 7)) = true from h)).1⟩
  | .list xs, h => by
    have := okAll_show xs (by simpa only [okD] using h)
    simpa only [PyData.showable, PyData.leavesShort] using this
  | .tuple xs, h => by
    have := okAll_show xs (by simpa only [okD] using h)
    simpa only [PyData.showable, PyData.leavesShort] using this
  | .dict kvs, h => by cases h
theorem okAll_show : ∀ ds : List PyData, okAll ds = true → PyData.showableAll ds = true ∧ PyData.leavesShortAll 61 ds = true
  | [], _ => ⟨rfl, rfl⟩
  | d :: ds, h => by
    have h2 : okD d = true ∧ okAll ds = true := by simpa only [okAll, Bool.and_eq_true] using h
    obtain ⟨a1, a2⟩ := okD_show d h2.1
    obtain ⟨b1, b2⟩ := okAll_show ds h2.2
    exact ⟨by simp only [PyData.showableAll, a1, b1, Bool.and_self], by simp only [PyData.leavesShortAll, a2, b2, Bool.and_self]⟩
end
mutual
theorem okD_noDict : ∀ d : PyData, okD d = true → d.hasDict = false
  | .none, _ => rfl
  | .bool b, _ => rfl
  | .int i, _ => rfl
  | .str z, _ => rfl
  | .list xs, h => by simpa only [PyData.hasDict] using okAll_noDict xs (by simpa only [okD] using h)
  | .tuple xs, h => by simpa only [PyData.hasDict] using okAll_noDict xs (by simpa only [okD] using h)
  | .dict kvs, h => by cases h
theorem okAll_noDict : ∀ ds : List PyData, okAll ds = true → PyData.hasDictAll ds = false
  | [], _ => rfl
  | d :: ds, h => by
    have h2 : okD d = true ∧ okAll ds = true := by simpa only [okAll, Bool.and_eq_true] using h
    simp only [PyData.hasDictAll, okD_noDict d h2.1, okAll_noDict ds h2.2, Bool.or_self]
end
theorem okAll_iff : ∀ ds : List PyData, okAll ds = true ↔ ∀ d ∈ ds, okD d = true
  | [] => ⟨fun _ d z => (by cases z), fun _ => rfl⟩
  | d :: ds => by
    simp only [okAll, Bool.and_eq_true, List.mem_cons, forall_eq_or_imp]
    rw [okAll_iff ds]
mutual
/-- how many parts -/
def szD : PyData → Nat
  | .list xs | .tuple xs => szAll xs
  | _ => 0
def szAll : List PyData → Nat
  | [] => 0
  | x :: xs => szD x + 1 + szAll xs
end
mutual
theorem shown_sz : ∀ d : PyData, okD d = true → d.shown.length ≤ 80 * szD d + 75
  | .none, _ => by decide
  | .bool b, _ => by cases b <;> decide
  | .int i, h => Nat.le_trans (small_shown (of_decide_eq_true (by simpa only [okD] using h))) (by omega)
  | .str z, h => by
    obtain ⟨h1, h2⟩ := Bool.and_eq_true_iff.mp (show ((z.cps.toList.all fun c => decide (c < 16 ^ 8)) && decide (z.cps.size ≤ 7)) = true from h)
    have e := StrLaws.reprText_len z (by simpa only [List.all_eq_true, decide_eq_true_eq] using h1)
    have h3 := of_decide_eq_true h2
    have e2 : z.length = z.cps.size := rfl
    show (reprText z).length ≤ _
    omega
  | .list xs, h => by
    have h1 := shownAll_sz xs (by simpa only [okD] using h)
    have h2 := listText_len_le (PyData.shownAll xs)
    have h3 := PyData.shownAll_length xs
    simp only [PyData.shown, szD]
    omega
  | .tuple xs, h => by
    have h1 := shownAll_sz xs (by simpa only [okD] using h)
    have h2 := tupleText_len_le (PyData.shownAll xs)
    have h3 := PyData.shownAll_length xs
    simp only [PyData.shown, szD]
    omega
  | .dict kvs, h => by cases h
theorem shownAll_sz : ∀ xs : List PyData, okAll xs = true → ((PyData.shownAll xs).map (·.length)).sum + 2 * xs.length ≤ 80 * szAll xs
  | [], _ => Nat.le_refl _
  | x :: xs, h => by
    have h2 : okD x = true ∧ okAll xs = true := by simpa only [okAll, Bool.and_eq_true] using h
    have a := shown_sz x h2.1
    have b := shownAll_sz xs h2.2
    simp only [PyData.shownAll, szAll, List.map_cons, List.sum_cons, List.length_cons]
    omega
end
structure Fit (w k : Nat) (d : PyData) : Prop where
  ok : okD d = true
  wt : szD d ≤ w
  dp : d.depth ≤ k
theorem Fit.mono {w k w' k' : Nat} {d : PyData} (h : Fit w k d) (hw : w ≤ w') (hk : k ≤ k') : Fit w' k' d := ⟨h.ok, Nat.le_trans h.wt hw, Nat.le_trans h.dp hk⟩
theorem fit_all {w k : Nat} : ∀ ds : List PyData, (∀ d ∈ ds, Fit w k d) → okAll ds = true ∧ szAll ds ≤ (w + 1) * ds.length ∧ PyData.depthAll ds ≤ k
  | [], _ => ⟨rfl, Nat.zero_le _, Nat.zero_le _⟩
  | d :: ds, h => by
    have a := h d List.mem_cons_self
    obtain ⟨b1, b2, b3⟩ := fit_all ds fun e he => h e (List.mem_cons_of_mem _ he)
    have c := a.wt
    refine ⟨by simp only [okAll, a.ok, b1, Bool.and_self], ?_, Nat.max_le.mpr ⟨a.dp, b3⟩⟩
    show szD d + 1 + szAll ds ≤ (w + 1) * (ds.length + 1)
    have e : (w + 1) * (ds.length + 1) = (w + 1) * ds.length + (w + 1) := by rw [Nat.mul_succ]
    omega
theorem fit_tup {w k n : Nat} {ds : List PyData} (h : ∀ d ∈ ds, Fit w k d) (hn : ds.length ≤ n) : Fit ((w + 1) * n) (k + 1) (.tuple ds) := by
  obtain ⟨b1, b2, b3⟩ := fit_all ds h
  exact ⟨b1, Nat.le_trans b2 (Nat.mul_le_mul_left _ hn), Nat.succ_le_succ b3⟩
theorem fit_lst {w k n : Nat} {ds : List PyData} (h : ∀ d ∈ ds, Fit w k d) (hn : ds.length ≤ n) : Fit ((w + 1) * n) (k + 1) (.list ds) := by
  obtain ⟨b1, b2, b3⟩ := fit_all ds h
  exact ⟨b1, Nat.le_trans b2 (Nat.mul_le_mul_left _ hn), Nat.succ_le_succ b3⟩
theorem fit_int {i : Int} (h : i.natAbs < 10 ^ 60) {w k : Nat} (hw : 200 ≤ w) : Fit w k (.int i) := ⟨decide_eq_true h, Nat.zero_le _, Nat.zero_le _⟩
theorem fit_non {w k : Nat} : Fit w k .none := ⟨rfl, Nat.zero_le _, Nat.zero_le _⟩
theorem fit_bool {w k : Nat} (b : Bool) : Fit w k (.bool b) := ⟨rfl, Nat.zero_le _, Nat.zero_le _⟩
theorem Fit.shown {w k : Nat} {d : PyData} (h : Fit w k d) (hw : w ≤ 200000) : d.showable = true ∧ d.shown.length ≤ sizeLine := by
  obtain ⟨h1, h2⟩ := okD_show d h.ok
  refine ⟨h1, ?_⟩
  have h4 := shown_sz d h.ok
  have h5 := h.wt
  rw [sizeLine_eq]
  omega
theorem fit_int0 {i : Int} (h : i.natAbs < 10 ^ 60) {w k : Nat} : Fit w k (.int i) := ⟨decide_eq_true h, Nat.zero_le _, Nat.zero_le _⟩
/-! ### repr of it -/
section
variable {X : Cx}
theorem call_reprX {j : Nat} (hG : X.A.guards = some []) (rm : Room j X.A) : CallR X (.builtin "repr") (fun xs H Q => ∃ (S : List Addr) (x : V) (d : PyData), xs = [x] ∧ Dx S H x d ∧ (d.hasDict = false ∨ d = .dict []) ∧ d.showable = true ∧ d.depth < 150 ∧ d.shown.length ≤ sizeLine ∧ Q (.str d.shown) H) := by
  intro pins s σ H xs us Q I r h
  obtain ⟨S, x, d, rfl, hd, h2, h1, h3, h4, q⟩ := h
  obtain ⟨u, rfl, ru⟩ := vals1 r
  have hu := rm.un
  have ref : ∀ (a : Addr) (as : List Addr), Reads s.heap (.ref a) d as → (d.hasDict = true → sysModules ∉ as) → wpAny (model X.prog X.w) X.A (call (.builtin "repr") [.ref a]) (EP X pins σ Q) X.xe s := fun a as hr hm =>
    repr_of_reads' hr h1 hm hG (by omega) (fun _ _ e => e) (fun h' u tk hk => ⟨.str d.shown, H, I.kept (t' := tk) hk, ⟨u, rfl⟩, q⟩) h4
  have plain : ∀ a : Addr, x = .ref a → d.hasDict = false → wpAny (model X.prog X.w) X.A (call (.builtin "repr") [u]) (EP X pins σ Q) X.xe s := fun a e hn => by
    subst e
    obtain ⟨as, hr⟩ := (hd.dp hn (K := X.K)).reads I d _ u ru
    obtain rfl : u = Value.ref a := ru
    exact ref a as hr fun e => by rw [hn] at e; cases e
  cases hd with
  | non => cases ru; exact PySem.P.repr_of_none ⟨.str _, H, I.tok _, ⟨_, rfl⟩, q⟩
  | bl b => cases ru; exact PySem.P.repr_of_bool ⟨.str _, H, I.tok _, ⟨_, rfl⟩, q⟩
  | int i =>
    obtain ⟨t, rfl⟩ := ru
    exact PySem.P.repr_of_int (of_decide_eq_true (by simpa only [PyData.showable] using h1)) ⟨.str _, H, I.tok _, ⟨_, rfl⟩, q⟩
  | str z =>
    obtain ⟨t, rfl⟩ := ru
    exact PySem.P.repr_of_str ⟨.str _, H, I.tok _, ⟨_, rfl⟩, q⟩ h4
  | @lst a vs ds n h ra =>
    rcases h2 with h2 | h2
    · exact plain a rfl h2
    · cases h2
  | @tup a vs ds n h ra =>
    rcases h2 with h2 | h2
    · exact plain a rfl h2
    · cases h2
  | @dic a n h =>
    obtain rfl : u = Value.ref a := ru
    obtain ⟨_, ns, vs, rk, o, es, ep, e, ⟨ec, _⟩, ed, _, hp, _⟩ := I.hok _ _ h
    cases rk
    have e0 : es.toList = [] := by
      generalize es.toList = l at hp
      cases hp
      rfl
    refine ref a ([a] ++ []) (Reads.dict e ec ed (as := []) (bs := []) (by rw [e0]; exact ReadsAll.nil) (by rw [e0]; exact ReadsAll.nil)) fun _ z => ?_
    simp only [List.append_nil, List.mem_singleton] at z
    rw [← z] at ns
    simp at ns
end
/-! ### slices, sums and multiples of tuples -/
theorem cutA_x {S : List Addr} {H : Hp} {lo hi : Option Int} : ∀ {xs : List V} {ds : List PyData}, DxA S H xs ds → DxA S H (cutV xs lo hi) ((ds.drop (HT.sIx ds.length 0 lo)).take (HT.sIx ds.length ds.length hi - HT.sIx ds.length 0 lo)) := fun {xs ds} h => by
  have e := h.len
  unfold cutV
  rw [e]
  have dr : ∀ (n : Nat) {xs : List V} {ds : List PyData}, DxA S H xs ds → DxA S H (xs.drop n) (ds.drop n) := by
    intro n
    induction n with
    | zero => exact fun h => h
    | succ n ih =>
      intro xs ds h
      cases h with
      | nil => exact .nil
      | cons a t => exact ih t
  have tk : ∀ (n : Nat) {xs : List V} {ds : List PyData}, DxA S H xs ds → DxA S H (xs.take n) (ds.take n) := by
    intro n
    induction n with
    | zero =>
      intro xs ds h
      exact .nil
    | succ n ih =>
      intro xs ds h
      cases h with
      | nil => exact .nil
      | cons a t => exact .cons a (ih t)
  exact tk _ (dr _ h)
def cutD (ds : List PyData) (lo hi : Option Int) : List PyData := (ds.drop (HT.sIx ds.length 0 lo)).take (HT.sIx ds.length ds.length hi - HT.sIx ds.length 0 lo)
theorem cutD_mem {ds : List PyData} {lo hi : Option Int} {d : PyData} (h : d ∈ cutD ds lo hi) : d ∈ ds := List.mem_of_mem_drop (List.mem_of_mem_take h)
theorem cutD_len (ds : List PyData) (lo hi : Option Int) : (cutD ds lo hi).length ≤ ds.length := by
  unfold cutD
  rw [List.length_take, List.length_drop]
  omega
theorem Dx.newT {S : List Addr} {H : Hp} {p : Addr} {xs : List V} {ds : List PyData} (hS : ∀ s ∈ S, H s ≠ none) (np : H p = none) (h : DxA S H xs ds) : Dx S (upd H p (.tup xs)) (.ref p) (.tuple ds) :=
  .tup (fun z => hS p z np) upd_same (h.kp (Kp.new (S := []) np) fun _ z => by cases z)
theorem Dx.newL {S : List Addr} {H : Hp} {p : Addr} {xs : List V} {ds : List PyData} (hS : ∀ s ∈ S, H s ≠ none) (np : H p = none) (h : DxA S H xs ds) : Dx S (upd H p (.lst xs)) (.ref p) (.list ds) :=
  .lst (fun z => hS p z np) upd_same (h.kp (Kp.new (S := []) np) fun _ z => by cases z)
theorem dx_slice {K : PySem.W.Frag} {S : List Addr} {H : Hp} {v : V} {ds : List PyData} {lo hi : Option Int} {Q : VK} (hS : ∀ s ∈ S, H s ≠ none) (h : Dx S H v (.tuple ds)) (q : ∀ v' H', Kp [] H H' → Dx S H' v' (.tuple (cutD ds lo hi)) → Q v' H') : rSlA K v lo hi H Q := by
  cases h with
  | @tup a xs _ n h r =>
    refine ⟨a, xs, rfl, SqT.of h, fun e => ?_, fun _ p np => ?_⟩
    · refine q (.ref a) H .rfl' ?_
      have e2 : cutD ds lo hi = ds := by
        have el := r.len
        rw [el] at e
        unfold cutD
        rw [e.1, e.2, List.drop_zero, Nat.sub_zero, List.take_length]
      rw [e2]
      exact .tup n h r
    · exact q _ _ (Kp.new np) (Dx.newT hS np (cutA_x r))
theorem dx_cat {K : PySem.W.Frag} {S : List Addr} {H : Hp} {x y : V} {ds es : List PyData} {Q : VK} (hS : ∀ s ∈ S, H s ≠ none) (h1 : Dx S H x (.tuple ds)) (h2 : Dx S H y (.tuple es)) (hl : ds.length + es.length ≤ sizeLine) (q : ∀ v' H', Kp [] H H' → Dx S H' v' (.tuple (ds ++ es)) → Q v' H') : rCatA K x y H Q := by
  cases h1 with
  | @tup a xs _ n h r =>
    cases h2 with
    | @tup b ys _ m k t =>
      have l1 := r.len
      have l2 := t.len
      refine ⟨a, b, xs, ys, rfl, rfl, SqT.of h, SqT.of k, by omega, fun e => ?_, fun _ e => ?_, fun _ _ p np => ?_⟩
      · have : ds = [] := List.length_eq_zero_iff.mp (by rw [← l1, e]; rfl)
        subst this
        exact q _ _ .rfl' (.tup m k t)
      · have : es = [] := List.length_eq_zero_iff.mp (by rw [← l2, e]; rfl)
        subst this
        rw [List.append_nil] at q
        exact q _ _ .rfl' (.tup n h r)
      · exact q _ _ (Kp.new np) (Dx.newT hS np (r.app t))
theorem dx_rep {K : PySem.W.Frag} {S : List Addr} {H : Hp} {x : V} {ds : List PyData} {k : Int} {Q : VK} (hS : ∀ s ∈ S, H s ≠ none) (h1 : Dx S H x (.tuple ds)) (hne : ds ≠ []) (hk : 2 ≤ k) (hk2 : k ≤ 1000) (hl : ds.length ≤ 1000) (q : ∀ v' H', Kp [] H H' → Dx S H' v' (.tuple (List.replicate k.toNat ds).flatten) → Q v' H') : rRepT K x (.int k) H Q := by
  cases h1 with
  | @tup a xs _ n h r =>
    have l1 := r.len
    refine ⟨a, k, xs, rfl, rfl, SqT.of h, fun e => hne (List.length_eq_zero_iff.mp (by rw [← l1, e]; rfl)), hk, hk2, by omega, fun p np => ?_⟩
    refine q _ _ (Kp.new np) (Dx.newT hS np ?_)
    generalize k.toNat = m
    induction m with
    | zero => exact .nil
    | succ m ih =>
      rw [List.replicate_succ, List.replicate_succ, List.flatten_cons, List.flatten_cons]
      exact r.app ih
theorem lamp_fit {p : Int × Option Nat} (h1 : 1 ≤ p.1) (h2 : p.1 < 10 ^ 60) (h3 : ∀ y, p.2 = some y → y < 12) : Fit 600 1 (lampD p) := by
  have a := lamp_small h1 h2 h3
  refine ⟨?_, (show 0 + 1 + (szD (nxD p.2) + 1 + 0) ≤ 600 by cases p.2 <;> exact (by decide : 2 ≤ 600)), lamp_depth p⟩
  obtain ⟨l, o⟩ := p
  have hl : l.natAbs < 10 ^ 60 := by simp only at h1 h2; omega
  cases o with
  | none =>
    show (decide _ && (true && true)) = true
    rw [decide_eq_true hl]; rfl
  | some y =>
    have := h3 y rfl
    have hy : (y : Int).natAbs < 10 ^ 60 := by omega
    show (decide _ && (decide _ && true)) = true
    rw [decide_eq_true hl, decide_eq_true hy]; rfl
theorem net_fits {N : Net} (o : NetOk N) (s : Short N) : ∀ d ∈ N.map lampD, Fit 600 1 d := fun d hd => by
  obtain ⟨p, hp, rfl⟩ := List.mem_map.mp hd
  have h12 := o.hi
  exact lamp_fit (o.len p hp) (s p hp) fun y hy => by
    have := o.nx p hp y hy
    omega
theorem cutD_to (ds : List PyData) (c : Nat) : (cutD ds none (some (c : Int))).length ≤ c := by
  unfold cutD
  rw [List.length_take, List.length_drop, HT.sIx_none, show HT.sIx ds.length ds.length (some (c : Int)) = min c ds.length from HT.sIx_nat _ _ c]
  omega
theorem rep_mem {α : Type} {n : Nat} {ds : List α} {d : α} (h : d ∈ (List.replicate n ds).flatten) : d ∈ ds := by
  obtain ⟨l, hl, hd⟩ := List.mem_flatten.mp h
  rw [(List.mem_replicate.mp hl).2] at hd
  exact hd
def deepD : Nat → PyData
  | 0 => .tuple []
  | n + 1 => .tuple [deepD n]
theorem deep_fit : ∀ n, Fit n (n + 1) (deepD n)
  | 0 => ⟨rfl, Nat.le_refl _, Nat.le_refl _⟩
  | n + 1 => by
    have h := deep_fit n
    have h1 := h.wt
    have h2 := h.dp
    refine ⟨?_, ?_, ?_⟩
    · show (okD (deepD n) && true) = true
      rw [h.ok]; rfl
    · show szD (deepD n) + 1 + 0 ≤ n + 1
      omega
    · show max (deepD n).depth 0 + 1 ≤ n + 1 + 1
      omega
/-! ### what the law finds a net is one -/
theorem lamp_of {m : Nat} {d : PyData} (h : lampB m d = true) : ∃ p : Int × Option Nat, d = lampD p ∧ 1 ≤ p.1 ∧ ∀ y, p.2 = some y → y < m := by
  match d, h with
  | .tuple [l, o], h =>
    have h2 : (lenB l && nxB m o) = true := h
    rw [Bool.and_eq_true] at h2
    obtain ⟨h3, h4⟩ := h2
    cases l with
    | int i =>
      have h5 : ¬ i < 1 := by
        intro z
        have : (!decide (i < 1)) = true := h3
        rw [decide_eq_true z] at this
        cases this
      cases o with
      | none => exact ⟨(i, none), rfl, by show 1 ≤ i; omega, fun y e => by cases e⟩
      | int j =>
        have h6 : (decide ((0 : Int) ≤ j) && decide (j < (m : Int))) = true := h4
        rw [Bool.and_eq_true] at h6
        have a1 := of_decide_eq_true h6.1
        have a2 := of_decide_eq_true h6.2
        refine ⟨(i, some j.toNat), ?_, by show 1 ≤ i; omega, fun y e => ?_⟩
        · show PyData.tuple [.int i, .int j] = .tuple [.int i, .int (j.toNat : Int)]
          have : j = (j.toNat : Int) := by omega
          rw [← this]
        · have : j.toNat = y := Option.some.inj e
          omega
      | bool _ => cases h4
      | str _ => cases h4
      | list _ => cases h4
      | tuple _ => cases h4
      | dict _ => cases h4
    | none => cases h3
    | bool _ => cases h3
    | str _ => cases h3
    | list _ => cases h3
    | tuple _ => cases h3
    | dict _ => cases h3
theorem lamps_of {m : Nat} : ∀ ds : List PyData, (∀ d ∈ ds, lampB m d = true) → ∃ N : Net, ds = N.map lampD ∧ ∀ p ∈ N, 1 ≤ p.1 ∧ ∀ y, p.2 = some y → y < m
  | [], _ => ⟨[], rfl, fun p z => by cases z⟩
  | d :: ds, h => by
    obtain ⟨p, e, q⟩ := lamp_of (h d List.mem_cons_self)
    obtain ⟨N, e2, q2⟩ := lamps_of ds fun e he => h e (List.mem_cons_of_mem _ he)
    refine ⟨p :: N, by rw [e, e2]; rfl, fun r hr => ?_⟩
    rcases List.mem_cons.mp hr with rfl | hr
    · exact q
    · exact q2 r hr
theorem net_of {d : PyData} (h : netB d = true) : ∃ N : Net, d = netD N ∧ NetOk N := by
  match d, h with
  | .tuple ds, h =>
    have h2 : (!decide ((ds.length : Int) < 1) && !decide ((12 : Int) < (ds.length : Int)) && (ds.map (lampB ds.length)).all id) = true := h
    rw [Bool.and_eq_true, Bool.and_eq_true] at h2
    obtain ⟨⟨h3, h4⟩, h5⟩ := h2
    have a1 : ¬ (ds.length : Int) < 1 := fun z => by rw [decide_eq_true z] at h3; cases h3
    have a2 : ¬ (12 : Int) < (ds.length : Int) := fun z => by rw [decide_eq_true z] at h4; cases h4
    obtain ⟨N, e, q⟩ := lamps_of ds fun d hd => (List.all_eq_true.mp h5) _ (List.mem_map.mpr ⟨d, hd, rfl⟩)
    have el : ds.length = N.length := by rw [e, List.length_map]
    exact ⟨N, by rw [e]; rfl, by omega, by omega, fun p hp => (q p hp).1, fun p hp y hy => by rw [← el]; exact (q p hp).2 y hy⟩
theorem short_of {N : Net} (h : okD (netD N) = true) : Short N := fun p hp => by
  have h1 := (okAll_iff (N.map lampD)).mp h (lampD p) (List.mem_map.mpr ⟨p, hp, rfl⟩)
  have h2 : (decide (p.1.natAbs < 10 ^ 60) && _) = true := h1
  rw [Bool.and_eq_true] at h2
  have h3 := of_decide_eq_true h2.1
  have e : ((10 ^ 60 : Nat) : Int) = (10 : Int) ^ 60 := by decide
  have : (p.1.natAbs : Int) < ((10 ^ 60 : Nat) : Int) := Int.ofNat_lt.mpr h3
  rw [e] at this
  omega
structure Shows (d : PyData) : Prop where
  pl : d.hasDict = false ∨ d = .dict []
  sh : d.showable = true
  dp : d.depth < 150
  ln : d.shown.length ≤ sizeLine
theorem shows_of {d : PyData} (h : Fit 20000 50 d ∨ d = .dict []) : Shows d := by
  rcases h with h | rfl
  · obtain ⟨a, b⟩ := h.shown (by decide)
    exact ⟨.inl (okD_noDict d h.ok), a, Nat.lt_of_le_of_lt h.dp (by decide), b⟩
  · refine ⟨.inr rfl, rfl, by decide, ?_⟩
    rw [sizeLine_eq]
    decide
end Em

namespace Em
open PySem PySem.Spec PyProof.Rows L2 Qt

/-! ### kindlings -/
def beatB : PyData → Bool
  | .int i => !decide (i < 0)
  | _ => false
def sparkB (m : Nat) : PyData → Bool
  | .tuple [b, l] => beatB b && numB m l
  | _ => false
def sparksB (m : Nat) : PyData → Bool
  | .list ds => !decide ((40 : Int) < (ds.length : Int)) && (ds.map (sparkB m)).all id
  | _ => false
abbrev Sparks := List (Int × Nat)
def sparkD (p : Int × Nat) : PyData := .tuple [.int p.1, .int (p.2 : Nat)]
def sparksD (L : Sparks) : PyData := .list (L.map sparkD)
structure SpOk (m : Nat) (L : Sparks) : Prop where
  len : L.length ≤ 40
  lo : ∀ p ∈ L, 0 ≤ p.1
  hi : ∀ p ∈ L, p.1 < 10 ^ 60
  at_ : ∀ p ∈ L, p.2 < m
theorem spark_of {m : Nat} {d : PyData} (h : sparkB m d = true) : ∃ p : Int × Nat, d = sparkD p ∧ 0 ≤ p.1 ∧ p.2 < m := by
  match d, h with
  | .tuple [b, l], h =>
    have h2 : (beatB b && numB m l) = true := h
    rw [Bool.and_eq_true] at h2
    obtain ⟨h3, h4⟩ := h2
    cases b with
    | int i =>
      have h5 : ¬ i < 0 := fun z => by
        have : (!decide (i < 0)) = true := h3
        rw [decide_eq_true z] at this
        cases this
      cases l with
      | int j =>
        have h6 : (decide ((0 : Int) ≤ j) && decide (j < (m : Int))) = true := h4
        rw [Bool.and_eq_true] at h6
        have a1 := of_decide_eq_true h6.1
        have a2 := of_decide_eq_true h6.2
        refine ⟨(i, j.toNat), ?_, by show 0 ≤ i; omega, by show j.toNat < m; omega⟩
        show PyData.tuple [.int i, .int j] = .tuple [.int i, .int (j.toNat : Int)]
        have : j = (j.toNat : Int) := by omega
        rw [← this]
      | none => cases h4
      | bool _ => cases h4
      | str _ => cases h4
      | list _ => cases h4
      | tuple _ => cases h4
      | dict _ => cases h4
    | none => cases h3
    | bool _ => cases h3
    | str _ => cases h3
    | list _ => cases h3
    | tuple _ => cases h3
    | dict _ => cases h3
theorem sparksL_of {m : Nat} : ∀ ds : List PyData, (∀ d ∈ ds, sparkB m d = true) → ∃ L : Sparks, ds = L.map sparkD ∧ ∀ p ∈ L, 0 ≤ p.1 ∧ p.2 < m
  | [], _ => ⟨[], rfl, fun p z => by cases z⟩
  | d :: ds, h => by
    obtain ⟨p, e, q⟩ := spark_of (h d List.mem_cons_self)
    obtain ⟨N, e2, q2⟩ := sparksL_of ds fun e he => h e (List.mem_cons_of_mem _ he)
    refine ⟨p :: N, by rw [e, e2]; rfl, fun r hr => ?_⟩
    rcases List.mem_cons.mp hr with rfl | hr
    · exact q
    · exact q2 r hr
theorem sparks_of {m : Nat} {d : PyData} (h : sparksB m d = true) (hk : okD d = true) : ∃ L : Sparks, d = sparksD L ∧ SpOk m L := by
  match d, h with
  | .list ds, h =>
    have h2 : (!decide ((40 : Int) < (ds.length : Int)) && (ds.map (sparkB m)).all id) = true := h
    rw [Bool.and_eq_true] at h2
    obtain ⟨h4, h5⟩ := h2
    have a2 : ¬ (40 : Int) < (ds.length : Int) := fun z => by rw [decide_eq_true z] at h4; cases h4
    obtain ⟨L, e, q⟩ := sparksL_of ds fun d hd => (List.all_eq_true.mp h5) _ (List.mem_map.mpr ⟨d, hd, rfl⟩)
    have el : ds.length = L.length := by rw [e, List.length_map]
    refine ⟨L, by rw [e]; rfl, by omega, fun p hp => (q p hp).1, fun p hp => ?_, fun p hp => (q p hp).2⟩
    have h1 := (okAll_iff ds).mp hk (sparkD p) (by rw [e]; exact List.mem_map.mpr ⟨p, hp, rfl⟩)
    have h2 : (decide (p.1.natAbs < 10 ^ 60) && _) = true := h1
    rw [Bool.and_eq_true] at h2
    have h3 := of_decide_eq_true h2.1
    have e : ((10 ^ 60 : Nat) : Int) = (10 : Int) ^ 60 := by decide
    have : (p.1.natAbs : Int) < ((10 ^ 60 : Nat) : Int) := Int.ofNat_lt.mpr h3
    rw [e] at this
    omega
theorem spark_fit1 {i : Int} {x : Nat} (h : i.natAbs < 10 ^ 60) (hx : x ≤ 12) : Fit 2 1 (sparkD (i, x)) := fit_tup (w := 0) (k := 0) (n := 2) (fun d hd => by
    simp only [List.mem_cons, List.not_mem_nil, or_false] at hd
    rcases hd with rfl | rfl
    · exact fit_int0 h
    · exact fit_int0 (by show ((x : Nat) : Int).natAbs < _; omega)) (Nat.le_refl _)
theorem spark_fit {m : Nat} (hm : m ≤ 12) {L : Sparks} (o : SpOk m L) : ∀ d ∈ L.map sparkD, Fit 2 1 d := fun d hd => by
  obtain ⟨p, hp, rfl⟩ := List.mem_map.mp hd
  have a := o.lo p hp
  have b := o.hi p hp
  have c := o.at_ p hp
  exact spark_fit1 (by omega) (by omega)
/-! ### slices, sums and multiples of lists -/
theorem dxl_slice {K : PySem.W.Frag} {S : List Addr} {H : Hp} {v : V} {ds : List PyData} {lo hi : Option Int} {Q : VK} (hS : ∀ s ∈ S, H s ≠ none) (h : Dx S H v (.list ds)) (q : ∀ v' H', Kp [] H H' → Dx S H' v' (.list (cutD ds lo hi)) → Q v' H') : rSlL K v lo hi H Q := by
  cases h with
  | @lst a xs _ n h r => exact ⟨a, xs, rfl, SqL.of h, fun p np => q _ _ (Kp.new np) (Dx.newL hS np (cutA_x r))⟩
theorem dxl_cat {K : PySem.W.Frag} {S : List Addr} {H : Hp} {x y : V} {ds es : List PyData} {Q : VK} (hS : ∀ s ∈ S, H s ≠ none) (h1 : Dx S H x (.list ds)) (h2 : Dx S H y (.list es)) (hl : ds.length + es.length ≤ sizeLine) (q : ∀ v' H', Kp [] H H' → Dx S H' v' (.list (ds ++ es)) → Q v' H') : rCatL K x y H Q := by
  cases h1 with
  | @lst a xs _ n h r =>
    cases h2 with
    | @lst b ys _ m k t =>
      have l1 := r.len
      have l2 := t.len
      exact ⟨a, b, xs, ys, rfl, rfl, SqL.of h, SqL.of k, by omega, fun p np => q _ _ (Kp.new np) (Dx.newL hS np (r.app t))⟩
theorem repA {S : List Addr} {H : Hp} {xs : List V} {ds : List PyData} (r : DxA S H xs ds) : ∀ m : Nat, DxA S H (List.replicate m xs).flatten (List.replicate m ds).flatten
  | 0 => .nil
  | m + 1 => by
    rw [List.replicate_succ, List.replicate_succ, List.flatten_cons, List.flatten_cons]
    exact r.app (repA r m)
theorem dxl_rep {S : List Addr} {H : Hp} {x : V} {ds : List PyData} {k : Int} {Q : VK} (hS : ∀ s ∈ S, H s ≠ none) (h1 : Dx S H x (.list ds)) (hk : 0 ≤ k) (hk2 : k ≤ 1000) (hl : ds.length ≤ 1000) (q : ∀ v' H', Kp [] H H' → Dx S H' v' (.list (List.replicate k.toNat ds).flatten) → Q v' H') : rRep x (.int k) H Q := by
  cases h1 with
  | @lst a xs _ n h r =>
    have l1 := r.len
    refine ⟨a, k, xs, rfl, rfl, h, by omega, by omega, Nat.le_trans (m := 1000 * 1000) (Nat.mul_le_mul (by omega) (by omega)) (by decide), fun p np => q _ _ (Kp.new np) (Dx.newL hS np (repA r _))⟩
theorem dxl_rev {K : PySem.W.Frag} {S : List Addr} {H : Hp} {x : V} {ds : List PyData} {Q : VK} (hS : ∀ s ∈ S, H s ≠ none) (h1 : Dx S H x (.list ds)) (q : ∀ v' H', Kp [] H H' → Dx S H' v' (.list ds.reverse) → Q v' H') : ∃ a xs, x = .ref a ∧ SqL K H a xs ∧ ∀ p, H p = none → Q (.ref p) (upd H p (.lst xs.reverse)) := by
  cases h1 with
  | @lst a xs _ n h r =>
    refine ⟨a, xs, rfl, SqL.of h, fun p np => q _ _ (Kp.new np) (Dx.newL hS np ?_)⟩
    clear h hS
    have rv : ∀ {xs : List V} {ds : List PyData}, DxA S H xs ds → DxA S H xs.reverse ds.reverse := by
      intro xs
      induction xs with
      | nil => intro ds r; cases r; exact .nil
      | cons v vs ih =>
        intro ds r
        cases r with
        | cons a t =>
          rw [List.reverse_cons, List.reverse_cons]
          exact (ih t).app (.cons a .nil)
    exact rv r
theorem revA {S : List Addr} {H : Hp} : ∀ {xs : List V} {ds : List PyData}, DxA S H xs ds → DxA S H xs.reverse ds.reverse := by
  intro xs
  induction xs with
  | nil => intro ds r; cases r; exact .nil
  | cons v vs ih =>
    intro ds r
    cases r with
    | cons a t =>
      rw [List.reverse_cons, List.reverse_cons]
      exact (ih t).app (.cons a .nil)
theorem rev_at {S : List Addr} {H : Hp} {sa : Addr} {ds : List PyData} (h : Dx S H (.ref sa) (.list ds)) : ∃ zs, H sa = some (.lst zs) ∧ DxA S H zs ds := by
  cases h with
  | lst n h r => exact ⟨_, h, r⟩
/-! ### a list of a net and of something is shown -/
section
variable {X : Cx} {es : List Expr} {t : TA} {pos : Pos}
def tLstX (t : TA) : TE := fun σ H Q => t σ H fun xs H1 => xs.length ≤ sizeLine ∧ ∀ p, H1 p = none → (p == sysModules) = false → Q (.ref p) (upd H1 p (.lst xs))
/-- a new list is not where the modules stand -/
theorem pe_lstX (h : PA X es t) : PE X (.List es pos) (tLstX t) := by
  refine ⟨fun pins s σ H Q I hq => ?_⟩
  refine wpAny_List_spliced (thn (h.run pos pins s σ H _ I hq) fun us s1 ⟨xs, H1, I1, r, z, q⟩ => ⟨by rw [← r.length]; exact z, ?_⟩)
  have hf : H1 s1.heap.objs.size = none := I1.hok.fresh (Nat.le_refl _)
  have hb : (s1.heap.objs.size == sysModules) = false := by
    have := I1.big
    simp only [beq_eq_false_iff_ne]
    exact Nat.ne_of_gt this
  refine ⟨.ref s1.heap.objs.size, upd H1 s1.heap.objs.size (.lst xs), I1.laid (t' := s1.toks) (fun b u e => Heap.get?_push_of_some _ e) (Nat.le_refl _) ?_, rfl, q _ hf hb⟩
  exact ⟨z, us, 0, r, Heap.get?_push_size _ rfl⟩
theorem lamp_reads {h : Heap} {v : Value} {p : Int × Option Nat} {as : List Addr} (r : Reads h v (lampD p) as) : as = [] := by
  obtain ⟨l, o⟩ := p
  cases r with
  | @tuple _ _ vs _ _ _ _ _ _ r =>
    generalize vs.toList = l at r
    cases r with
    | cons r1 r =>
      cases r with
      | cons r2 r =>
        cases r
        cases r1
        cases o with
        | none => cases r2; rfl
        | some y => cases r2; rfl
theorem lamps_reads {h : Heap} : ∀ {N : Net} {vs : List Value} {as : List Addr}, ReadsAll h vs (N.map lampD) as → as = []
  | [], _, _, r => by cases r; rfl
  | p :: N, _, _, r => by
    cases r with
    | cons r1 r2 => rw [lamp_reads r1, lamps_reads r2]; rfl
theorem net_reads {h : Heap} {v : Value} {N : Net} {as : List Addr} (r : Reads h v (netD N) as) : as = [] := by
  cases r with
  | tuple _ _ _ r => exact lamps_reads r
def pairD (N : Net) (d : PyData) : PyData := .list [netD N, d]
theorem call_reprPair {j : Nat} (hG : X.A.guards = some []) (rm : Room j X.A) : CallR X (.builtin "repr") (fun xs H Q => ∃ (S : List Addr) (b : Addr) (v u : V) (N : Net) (d : PyData), xs = [.ref b] ∧ H b = some (.lst [v, u]) ∧ (b == sysModules) = false ∧ Dx S H v (netD N) ∧ Dx S H u d ∧ (d.hasDict = false ∨ d = .dict []) ∧ (pairD N d).showable = true ∧ (pairD N d).depth < 150 ∧ (pairD N d).shown.length ≤ sizeLine ∧ Q (.str (pairD N d).shown) H) := by
  intro pins s σ H xs us Q I r h
  obtain ⟨S, b, v, u, N, d, rfl, hb, nb, hv, hu_, h2, h1, h3, h4, q⟩ := h
  obtain ⟨ub, rfl, ru⟩ := vals1 r
  obtain rfl : ub = Value.ref b := ru
  have hu := rm.un
  obtain ⟨_, its, m, rv, e⟩ := I.hok _ _ hb
  obtain ⟨w1, w2, rfl, r1, r2⟩ := vals2 rv
  obtain ⟨as1, q1⟩ := (hv.dp (net_noDict N) (K := X.K)).reads I _ _ _ r1
  have e1 := net_reads q1
  subst e1
  have fin : ∀ as2, Reads s.heap w2 d as2 → ((pairD N d).hasDict = true → sysModules ∉ as2) → wpAny (model X.prog X.w) X.A (call (.builtin "repr") [.ref b]) (EP X pins σ Q) X.xe s := fun as2 q2 hm =>
    repr_of_reads' (d := pairD N d) (as := b :: ([] ++ (as2 ++ []))) (Reads.list e rfl rfl (ReadsAll.cons q1 (ReadsAll.cons q2 ReadsAll.nil))) h1 (fun z y => by
      rcases List.mem_cons.mp y with y | y
      · rw [← y] at nb
        simp at nb
      · exact hm z (by simpa using y)) hG (by omega) (fun _ _ e => e) (fun h' u tk hk => ⟨.str (pairD N d).shown, H, I.kept (t' := tk) hk, ⟨u, rfl⟩, q⟩) h4
  rcases h2 with h2 | h2
  · obtain ⟨as2, q2⟩ := (hu_.dp h2 (K := X.K)).reads I _ _ _ r2
    refine fin as2 q2 fun z => ?_
    have : (pairD N d).hasDict = false := by
      show ((netD N).hasDict || (d.hasDict || false)) = false
      rw [net_noDict, h2]; rfl
    rw [this] at z
    cases z
  · subst h2
    cases hu_ with
    | @dic a n h =>
      obtain rfl : w2 = Value.ref a := r2
      obtain ⟨_, ns, vs, rk, o, es, ep, e', ⟨ec, _⟩, ed, _, hp, _⟩ := I.hok _ _ h
      cases rk
      have e0 : es.toList = [] := by
        generalize es.toList = l at hp
        cases hp
        rfl
      refine fin ([a] ++ []) (Reads.dict e' ec ed (as := []) (bs := []) (by rw [e0]; exact ReadsAll.nil) (by rw [e0]; exact ReadsAll.nil)) fun _ z => ?_
      simp only [List.append_nil, List.mem_singleton] at z
      rw [← z] at ns
      simp at ns
end
theorem net_fit {N : Net} (o : NetOk N) (s : Short N) : Fit 8000 2 (netD N) := (fit_tup (w := 600) (k := 1) (n := 12) (net_fits o s) (by rw [List.length_map]; exact o.hi)).mono (by decide) (by decide)
theorem pair_shows {N : Net} {d : PyData} (o : NetOk N) (s : Short N) (h : Fit 60000 50 d ∨ d = .dict []) : (d.hasDict = false ∨ d = .dict []) ∧ (pairD N d).showable = true ∧ (pairD N d).depth < 150 ∧ (pairD N d).shown.length ≤ sizeLine := by
  have fn := net_fit o s
  rcases h with h | rfl
  · have fp : Fit ((60000 + 1) * 2) (50 + 1) (pairD N d) := fit_lst (w := 60000) (k := 50) (n := 2) (fun e he => by
      simp only [List.mem_cons, List.not_mem_nil, or_false] at he
      rcases he with rfl | rfl
      · exact fn.mono (by decide) (by decide)
      · exact h) (Nat.le_refl _)
    obtain ⟨a, b⟩ := fp.shown (by decide)
    exact ⟨.inl (okD_noDict d h.ok), a, Nat.lt_of_le_of_lt fp.dp (by decide), b⟩
  · obtain ⟨a, b⟩ := fn.shown (by decide)
    refine ⟨.inr rfl, ?_, ?_, ?_⟩
    · show ((netD N).showable && (true && true)) = true
      rw [a]; rfl
    · have := fn.dp
      have e1 : (PyData.dict []).depth ≤ 1 := by decide
      show max (netD N).depth (max (PyData.dict []).depth 0) + 1 < 150
      omega
    · have h1 := shown_sz (netD N) fn.ok
      have h2 := fn.wt
      have h3 := listText_len_le [(netD N).shown, (PyData.dict []).shown]
      have h4 : (PyData.dict []).shown.length ≤ 10 := by decide
      have h5 : (listText [(netD N).shown, (PyData.dict []).shown]).length ≤ sizeLine := by
        rw [sizeLine_eq]
        simp only [List.map_cons, List.map_nil, List.sum_cons, List.sum_nil, List.length_cons, List.length_nil] at h3
        omega
      exact h5
end Em

namespace K02
open PySem PySem.Spec PyProof.Rows L2 Qt Em
/-! ### the text by places -/
def topS (i : Nat) : Stmt := PySem.Challenge.pw_emberlane_k02_which_are_kindlings.main.body.getD i (.Pass ⟨0, 0, 0, 0⟩)
abbrev s_is_whole : Stmt := topS 6
abbrev s_is_whole_N : List Str := ["thing"]
theorem sc_is_whole : FnScope s_is_whole_N ["thing"] (defScope s_is_whole) := ⟨rfl, rfl, rfl, by decide +kernel, rfl, by decide +kernel, by decide +kernel⟩
abbrev s_is_pair : Stmt := topS 7
abbrev s_is_pair_N : List Str := ["thing"]
theorem sc_is_pair : FnScope s_is_pair_N ["thing"] (defScope s_is_pair) := ⟨rfl, rfl, rfl, by decide +kernel, rfl, by decide +kernel, by decide +kernel⟩
abbrev s_is_number_of_many : Stmt := topS 8
abbrev s_is_number_of_many_N : List Str := ["thing", "many"]
theorem sc_is_number_of_many : FnScope s_is_number_of_many_N ["thing", "many"] (defScope s_is_number_of_many) := ⟨rfl, rfl, rfl, by decide +kernel, rfl, by decide +kernel, by decide +kernel⟩
abbrev s_is_lamp_of_many : Stmt := topS 9
abbrev s_is_lamp_of_many_N : List Str := ["thing", "many", "length", "onward"]
theorem sc_is_lamp_of_many : FnScope s_is_lamp_of_many_N ["thing", "many"] (defScope s_is_lamp_of_many) := ⟨rfl, rfl, rfl, by decide +kernel, rfl, by decide +kernel, by decide +kernel⟩
abbrev s_is_net : Stmt := topS 10
abbrev s_is_net_N : List Str := ["thing", "many"]
theorem sc_is_net : FnScope s_is_net_N ["thing"] (defScope s_is_net) := ⟨rfl, rfl, rfl, by decide +kernel, rfl, by decide +kernel, by decide +kernel⟩
abbrev s_need_net : Stmt := topS 11
abbrev s_need_net_N : List Str := ["net"]
theorem sc_need_net : FnScope s_need_net_N ["net"] (defScope s_need_net) := ⟨rfl, rfl, rfl, by decide +kernel, rfl, by decide +kernel, by decide +kernel⟩
abbrev s_is_kindling_of_many : Stmt := topS 12
abbrev s_is_kindling_of_many_N : List Str := ["thing", "many", "beat", "lamp"]
theorem sc_is_kindling_of_many : FnScope s_is_kindling_of_many_N ["thing", "many"] (defScope s_is_kindling_of_many) := ⟨rfl, rfl, rfl, by decide +kernel, rfl, by decide +kernel, by decide +kernel⟩
abbrev s_are_kindlings : Stmt := topS 13
abbrev s_are_kindlings_N : List Str := ["net", "thing", "many"]
theorem sc_are_kindlings : FnScope s_are_kindlings_N ["net", "thing"] (defScope s_are_kindlings) := ⟨rfl, rfl, rfl, by decide +kernel, rfl, by decide +kernel, by decide +kernel⟩
abbrev s_law_wick : Stmt := topS 15
abbrev s_law_wick_N : List Str := ["cell", "k"]
theorem sc_law_wick : FnScope s_law_wick_N ["cell", "k"] (defScope s_law_wick) := ⟨rfl, rfl, rfl, by decide +kernel, rfl, by decide +kernel, by decide +kernel⟩
abbrev s_law_pick : Stmt := topS 16
abbrev s_law_pick_N : List Str := ["wick", "many", "found", "burnt"]
theorem sc_law_pick : FnScope s_law_pick_N ["wick", "many"] (defScope s_law_pick) := ⟨rfl, rfl, rfl, by decide +kernel, rfl, by decide +kernel, by decide +kernel⟩
abbrev s_law_burns : Stmt := topS 17
abbrev s_law_burns_N : List Str := ["wick"]
theorem sc_law_burns : FnScope s_law_burns_N ["wick"] (defScope s_law_burns) := ⟨rfl, rfl, rfl, by decide +kernel, rfl, by decide +kernel, by decide +kernel⟩
abbrev s_law_mesh : Stmt := topS 18
abbrev s_law_mesh_N : List Str := ["wick", "many", "shape", "found", "k", "some"]
theorem sc_law_mesh : FnScope s_law_mesh_N ["wick"] (defScope s_law_mesh) := ⟨rfl, rfl, rfl, by decide +kernel, rfl, by decide +kernel, by decide +kernel⟩
abbrev s_law_sparks : Stmt := topS 19
abbrev s_law_sparks_N : List Str := ["wick", "mesh", "many", "found", "k", "beat"]
theorem sc_law_sparks : FnScope s_law_sparks_N ["wick", "mesh"] (defScope s_law_sparks) := ⟨rfl, rfl, rfl, by decide +kernel, rfl, by decide +kernel, by decide +kernel⟩
abbrev s_law_whole : Stmt := topS 20
abbrev s_law_whole_N : List Str := ["what", "low"]
theorem sc_law_whole : FnScope s_law_whole_N ["what", "low"] (defScope s_law_whole) := ⟨rfl, rfl, rfl, by decide +kernel, rfl, by decide +kernel, by decide +kernel⟩
abbrev s_law_is_mesh : Stmt := topS 21
abbrev s_law_is_mesh_N : List Str := ["what", "one"]
theorem sc_law_is_mesh : FnScope s_law_is_mesh_N ["what"] (defScope s_law_is_mesh) := ⟨rfl, rfl, rfl, by decide +kernel, rfl, by decide +kernel, by decide +kernel⟩
abbrev s_law_are_sparks : Stmt := topS 22
abbrev s_law_are_sparks_N : List Str := ["mesh", "what", "one"]
theorem sc_law_are_sparks : FnScope s_law_are_sparks_N ["mesh", "what"] (defScope s_law_are_sparks) := ⟨rfl, rfl, rfl, by decide +kernel, rfl, by decide +kernel, by decide +kernel⟩
abbrev s_law_bent : Stmt := topS 23
abbrev s_law_bent_N : List Str := ["wick", "mesh", "sparks", "k", "beat", "spot", "odd", "to", "one", "some"]
theorem sc_law_bent : FnScope s_law_bent_N ["wick", "mesh", "sparks"] (defScope s_law_bent) := ⟨rfl, rfl, rfl, by decide +kernel, rfl, by decide +kernel, by decide +kernel⟩
abbrev s_law_right : Stmt := topS 24
abbrev s_law_right_N : List Str := ["wick", "mesh", "what", "turn", "kept", "due", "told"]
theorem sc_law_right : FnScope s_law_right_N ["wick"] (defScope s_law_right) := ⟨rfl, rfl, rfl, by decide +kernel, rfl, by decide +kernel, by decide +kernel⟩
abbrev s_law : Stmt := topS 25
abbrev s_law_N : List Str := ["script", "k", "cell"]
theorem sc_law : FnScope s_law_N ["script"] (defScope s_law) := ⟨rfl, rfl, rfl, by decide +kernel, rfl, by decide +kernel, by decide +kernel⟩

structure Ad where
  a_is_whole : Addr
  f_is_whole : FuncData
  a_is_pair : Addr
  f_is_pair : FuncData
  a_is_number_of_many : Addr
  f_is_number_of_many : FuncData
  a_is_lamp_of_many : Addr
  f_is_lamp_of_many : FuncData
  a_is_net : Addr
  f_is_net : FuncData
  a_need_net : Addr
  f_need_net : FuncData
  a_is_kindling_of_many : Addr
  f_is_kindling_of_many : FuncData
  a_are_kindlings : Addr
  f_are_kindlings : FuncData
  a_law_wick : Addr
  f_law_wick : FuncData
  a_law_pick : Addr
  f_law_pick : FuncData
  a_law_burns : Addr
  f_law_burns : FuncData
  a_law_mesh : Addr
  f_law_mesh : FuncData
  a_law_sparks : Addr
  f_law_sparks : FuncData
  a_law_whole : Addr
  f_law_whole : FuncData
  a_law_is_mesh : Addr
  f_law_is_mesh : FuncData
  a_law_are_sparks : Addr
  f_law_are_sparks : FuncData
  a_law_bent : Addr
  f_law_bent : FuncData
  a_law_right : Addr
  f_law_right : FuncData
  a_law : Addr
  f_law : FuncData
  c_EmberError : Addr
  c_NoNet : Addr
  cd_are_kindlings : Addr
  tb_are_kindlings : Addr
  cd_is_net : Addr
  tb_is_net : Addr
structure Tx (K : PySem.W.Frag) (mg : Str → Option Value) (a : Ad) : Prop where
  is_whole : Df K mg "is_whole" s_is_whole ["thing"] a.a_is_whole a.f_is_whole
  is_pair : Df K mg "is_pair" s_is_pair ["thing"] a.a_is_pair a.f_is_pair
  is_number_of_many : Df K mg "is_number_of_many" s_is_number_of_many ["thing", "many"] a.a_is_number_of_many a.f_is_number_of_many
  is_lamp_of_many : Df K mg "is_lamp_of_many" s_is_lamp_of_many ["thing", "many"] a.a_is_lamp_of_many a.f_is_lamp_of_many
  is_net : Df K mg "is_net" s_is_net ["thing"] a.a_is_net a.f_is_net
  need_net : Df K mg "need_net" s_need_net ["net"] a.a_need_net a.f_need_net
  is_kindling_of_many : Df K mg "is_kindling_of_many" s_is_kindling_of_many ["thing", "many"] a.a_is_kindling_of_many a.f_is_kindling_of_many
  are_kindlings : Df K mg "are_kindlings" s_are_kindlings ["net", "thing"] a.a_are_kindlings a.f_are_kindlings
  law_wick : Df K mg "_law_wick" s_law_wick ["cell", "k"] a.a_law_wick a.f_law_wick
  law_pick : Df K mg "_law_pick" s_law_pick ["wick", "many"] a.a_law_pick a.f_law_pick
  law_burns : Df K mg "_law_burns" s_law_burns ["wick"] a.a_law_burns a.f_law_burns
  law_mesh : Df K mg "_law_mesh" s_law_mesh ["wick"] a.a_law_mesh a.f_law_mesh
  law_sparks : Df K mg "_law_sparks" s_law_sparks ["wick", "mesh"] a.a_law_sparks a.f_law_sparks
  law_whole : Df K mg "_law_whole" s_law_whole ["what", "low"] a.a_law_whole a.f_law_whole
  law_is_mesh : Df K mg "_law_is_mesh" s_law_is_mesh ["what"] a.a_law_is_mesh a.f_law_is_mesh
  law_are_sparks : Df K mg "_law_are_sparks" s_law_are_sparks ["mesh", "what"] a.a_law_are_sparks a.f_law_are_sparks
  law_bent : Df K mg "_law_bent" s_law_bent ["wick", "mesh", "sparks"] a.a_law_bent a.f_law_bent
  law_right : Df K mg "_law_right" s_law_right ["wick"] a.a_law_right a.f_law_right
  law : Df K mg "law" s_law ["script"] a.a_law a.f_law
  n_all : mg "all" = none
  n_bool : mg "bool" = none
  n_enumerate : mg "enumerate" = none
  n_int : mg "int" = none
  n_isinstance : mg "isinstance" = none
  n_len : mg "len" = none
  n_list : mg "list" = none
  n_max : mg "max" = none
  n_min : mg "min" = none
  n_range : mg "range" = none
  n_repr : mg "repr" = none
  n_tuple : mg "tuple" = none
  c_MOST_LAMPS : ∃ t, mg "MOST_LAMPS" = some (.int 12 t)
  c_MOST_KINDLINGS : ∃ t, mg "MOST_KINDLINGS" = some (.int 40 t)
  code_are_kindlings : CodeIs K a.a_are_kindlings a.cd_are_kindlings
  code_is_net : CodeIs K a.a_is_net a.cd_is_net
  g_EmberError : mg "EmberError" = some (.ref a.c_EmberError)
  g_NoNet : mg "NoNet" = some (.ref a.c_NoNet)
def lv_is_whole : Nat := 1
def lv_is_pair : Nat := 1
def lv_is_number_of_many : Nat := 2
def lv_is_lamp_of_many : Nat := 3
def lv_is_net : Nat := 6
def lv_need_net : Nat := 7
def lv_is_kindling_of_many : Nat := 3
def lv_are_kindlings : Nat := 10
def lv_law_wick : Nat := 1
def lv_law_pick : Nat := 1
def lv_law_burns : Nat := 2
def lv_law_mesh : Nat := 3
def lv_law_sparks : Nat := 2
def lv_law_whole : Nat := 1
def lv_law_is_mesh : Nat := 2
def lv_law_are_sparks : Nat := 2
def lv_law_bent : Nat := 2
def lv_law_right : Nat := 11
def lv_law : Nat := 12
def kg_are_kindlings_thing_net {α : Type} : List α → List α → List α
  | [], [x0, x1] => [x1, x0]
  | _, _ => []
theorem kb_are_kindlings_thing_net {K : PySem.W.Frag} {mg : Str → Option Value} {a : Ad} (T : Tx K mg a) : KBinds K a.f_are_kindlings ["net", "thing"] ["thing", "net"] kg_are_kindlings_thing_net kg_are_kindlings_thing_net := by
  obtain ⟨oc, od, kV, doc, pm, an, cdv, ct, osl, e, lk, hcd⟩ := T.are_kindlings.F.ex
  refine ⟨fun s us ws _ hl => ?_, fun {vs us zs ws} rv rz => ?_⟩
  · rw [e]
    match us, ws, hl with
    | [], [x0, x1], _ => exact BindsTo.of_eq rfl
  · cases rv with
    | cons _ _ => exact (show Vals [] [] from .nil)
    | nil =>
      cases rz with
      | nil => exact (show Vals [] [] from .nil)
      | cons r0 rz =>
        cases rz with
        | nil => exact (show Vals [] [] from .nil)
        | cons r1 rz =>
          cases rz with
          | cons _ _ => exact (show Vals [] [] from .nil)
          | nil => exact .cons r1 (.cons r0 (.nil))
/-! ### is_whole, is_pair, is_number_of_many, is_lamp_of_many: quiet -/
section
variable {c : Qc} {a : Ad} {S : List Addr} {v u : V} {d e : PyData}
theorem qf_is_whole (O : c.Ok) (T : Tx c.K c.mg a) (h : Dx S c.H v d) : QF c 1 a.a_is_whole a.f_is_whole ["thing"] [v] (.bl (isW d)) := by
  refine q_fun O T.is_whole.F sc_is_whole (by decide +kernel) rfl fun L cdv => ?_
  have e1 : isW d = (kindB d "int" && !kindB d "bool") := by cases d <;> rfl
  rw [e1]
  exact qb_ret (q_and2 (qe_isi (C := "int") O h (q_name rfl) rfl T.n_isinstance rfl T.n_int (by decide +kernel) (by decide)) fun _ => q_not (qe_isi (C := "bool") O h (q_name rfl) rfl T.n_isinstance rfl T.n_bool (by decide +kernel) (by decide)))
def pairB : PyData → Bool
  | .tuple ds => (ds.length : Int) == 2
  | _ => false
theorem qf_is_pair (O : c.Ok) (T : Tx c.K c.mg a) (h : Dx S c.H v d) : QF c 1 a.a_is_pair a.f_is_pair ["thing"] [v] (.bl (pairB d)) := by
  refine q_fun O T.is_pair.F sc_is_pair (by decide +kernel) rfl fun L cdv => ?_
  have h1 : ∀ {k p1 p2 p3 pos}, QE c k (envOfC "is_pair" (defScope s_is_pair) L a.a_is_pair cdv) [("thing", v)] (.Call (.Name "isinstance" p1) [.Name "thing" p2, .Name (Str.ofString "tuple") p3] [] pos) (.bl (kindB d "tuple")) :=
    qe_isi (C := "tuple") O h (q_name rfl) rfl T.n_isinstance rfl T.n_tuple (by decide +kernel) (by decide)
  have e1 : pairB d = (kindB d "tuple" && pairB d) := by cases d <;> rfl
  rw [e1]
  refine qb_ret (q_and2 h1 fun z => ?_)
  cases h with
  | tup n h r =>
    have := r.len
    show QE _ _ _ _ _ (.bl ((_ : Int) == 2))
    rw [← this]
    exact q_cmp qo_eq (q_callB O (qc_lenT (tupQ_of O h)) rfl T.n_len (by decide +kernel) (qa_cons (q_name rfl) qa_nil)) q_int rfl
  | non => cases z
  | bl b => cases z
  | int i => cases z
  | str y => cases z
  | lst n h r => cases z
  | dic n h => cases z
theorem qf_is_number_of_many {m : Nat} (O : c.Ok) (T : Tx c.K c.mg a) (h : Dx S c.H v d) : QF c 2 a.a_is_number_of_many a.f_is_number_of_many ["thing", "many"] [v, .int m] (.bl (numB m d)) := by
  refine q_fun O T.is_number_of_many.F sc_is_number_of_many (by decide +kernel) rfl fun L cdv => ?_
  have e1 : numB m d = (isW d && numB m d) := by cases d <;> rfl
  rw [e1]
  refine qb_ret (q_and2 (q_call O (qf_is_whole O T h) T.is_whole.b rfl rfl T.is_whole.g T.is_whole.F.kp (qa_cons (q_name rfl) qa_nil)) fun z => ?_)
  cases h with
  | int i => exact q_chain qo_le qo_lt q_int (q_name rfl) (q_name rfl)
  | non => cases z
  | bl b => cases z
  | tup n h r => cases z
  | str y => cases z
  | lst n h r => cases z
  | dic n h => cases z
theorem lampB_pair {m : Nat} (h : pairB d = false) : lampB m d = false := by
  cases d with
  | tuple ds =>
    match ds, h with
    | [], _ => rfl
    | [_], _ => rfl
    | [_, _], h => cases h
    | _ :: _ :: _ :: _, _ => rfl
  | _ => rfl
theorem qf_is_lamp_of_many {m : Nat} (O : c.Ok) (T : Tx c.K c.mg a) (h : Dx S c.H v d) : QF c 3 a.a_is_lamp_of_many a.f_is_lamp_of_many ["thing", "many"] [v, .int m] (.bl (lampB m d)) := by
  refine q_fun O T.is_lamp_of_many.F sc_is_lamp_of_many (by decide +kernel) rfl fun L cdv => ?_
  have hp : ∀ {N : Nm} {p1 p2 pos}, N.lookup ("thing" : Str) = some v → QE c 2 (envOfC "is_lamp_of_many" (defScope s_is_lamp_of_many) L a.a_is_lamp_of_many cdv) N (.Call (.Name "is_pair" p1) [.Name "thing" p2] [] pos) (.bl (pairB d)) := fun hN =>
    q_call O (fun A R args us s r => qf_is_pair O T h A R args us s (r.mono (by decide))) T.is_pair.b rfl rfl T.is_pair.g T.is_pair.F.kp (qa_cons (q_name hN) qa_nil)
  cases z : pairB d with
  | false =>
    rw [lampB_pair z]
    refine qb_ifT (qt_not (t := false) (qt_val ?_)) (qb_ret q_bool)
    rw [← z]
    exact hp rfl
  | true =>
    refine qb_ifF (qt_not (t := true) (qt_val ?_)) ?_
    · rw [← z]
      exact hp rfl
    cases h with
    | @tup ad xs ds n h r =>
      have hl : (ds.length : Int) = 2 := by simpa [pairB] using z
      match ds, r with
      | [d1, d2], .cons (v := v1) r1 (.cons (v := v2) r2 .nil) =>
        refine qb_two (q_name rfl) (tupQ_of O h) rfl rfl (fun y hy => ?_) ?_
        · by_cases e1 : y = "thing"
          · rw [e1]; rfl
          · by_cases e2 : y = "many"
            · rw [e2]; rfl
            · have q1 : (y == ("thing" : Str)) = false := by simpa using e1
              have q2 : (y == ("many" : Str)) = false := by simpa using e2
              simp [List.zip, List.zipWith, List.lookup, q1, q2] at hy
        · have hw : ∀ {N : Nm} {p1 p2 pos}, N.lookup ("length" : Str) = some v1 → QE c 2 (envOfC "is_lamp_of_many" (defScope s_is_lamp_of_many) L a.a_is_lamp_of_many cdv) N (.Call (.Name "is_whole" p1) [.Name "length" p2] [] pos) (.bl (isW d1)) := fun hN =>
            q_call O (fun A R args us s r => qf_is_whole O T r1 A R args us s (r.mono (by decide))) T.is_whole.b rfl rfl T.is_whole.g T.is_whole.F.kp (qa_cons (q_name hN) qa_nil)
          cases y1 : isW d1 with
          | false =>
            have e3 : lampB m (.tuple [d1, d2]) = false := by
              have : lenB d1 = false := by cases d1 <;> first | rfl | cases y1
              show (lenB d1 && _) = false
              rw [this]; rfl
            rw [e3]
            refine qb_ifT (qt_orT (qt_not (t := false) (qt_val ?_))) (qb_ret q_bool)
            rw [← y1]
            exact hw rfl
          | true =>
            cases r1 with
            | int i =>
              have h0 : ∀ {p1 p2 p3 p4}, QT c 2 (envOfC "is_lamp_of_many" (defScope s_is_lamp_of_many) L a.a_is_lamp_of_many cdv) (("onward", v2) :: ("length", .int i) :: [("thing", .ref ad), ("many", .int m)])
                  (.UnaryOp .Not (.Call (.Name "is_whole" p1) [.Name "length" p2] [] p3) p4) false := by
                refine qt_not (t := true) (qt_val ?_)
                exact hw rfl
              have e4 : lampB m (.tuple [.int i, d2]) = (!decide (i < 1) && nxB m d2) := rfl
              cases y2 : decide (i < 1) with
              | true =>
                rw [e4, y2]
                exact qb_ifT (qt_or2 h0 (y2 ▸ qt_cmp qo_lt (q_name rfl) q_int rfl)) (qb_ret q_bool)
              | false =>
                rw [e4, y2]
                refine qb_ifF (qt_or2 h0 (y2 ▸ qt_cmp qo_lt (q_name rfl) q_int rfl)) ?_
                have e5 : (!false && nxB m d2) = (decide (v2 = .non) || numB m d2) := by
                  cases r2 <;> first | rfl | (simp [nxB])
                rw [e5]
                refine qb_ret (q_or2 (q_isN (q_name rfl)) fun _ => ?_)
                exact q_call O (fun A R args us s r => qf_is_number_of_many O T r2 A R args us s (r.mono (by decide))) T.is_number_of_many.b rfl rfl T.is_number_of_many.g T.is_number_of_many.F.kp (qa_cons (q_name rfl) (qa_cons (q_name rfl) qa_nil))
            | non => cases y1
            | bl b => cases y1
            | tup n h r => cases y1
            | str y => cases y1
            | lst n h r => cases y1
            | dic n h => cases y1
    | non => cases z
    | bl b => cases z
    | int i => cases z
    | str y => cases z
    | lst n h r => cases z
    | dic n h => cases z
end
/-! ### is_net -/
section
variable {P : Program} {w : World} {K : PySem.W.Frag} {mg : Str → Option Value} {base : Heap} {a : Ad}
/-- is_net(thing), thing any data -/
def spIsNet (TB : Addr) : Sp := fun vs H Q _ => ∃ (S : List Addr) (v : V) (d : PyData), vs = [v] ∧ Dx S H v d ∧ GxR.TabG H TB ∧ ∀ H', Kp [] H H' → Q (.bl (netB d)) H'
theorem ok_is_net (T : Tx K mg a) (TB : GxR.TabB base mg a.cd_is_net a.tb_is_net) : FnOk P w K mg base CX0 6 a.a_is_net a.f_is_net ["thing"] (spIsNet a.tb_is_net) := by
  refine okC T.is_net.F T.code_is_net sc_is_net (fun vs H Q E h => ?_) (fun A outer s H vs Q E hr h => ?_)
  · obtain ⟨S, v, d, rfl, _⟩ := h
    rfl
  obtain ⟨S, v, d, rfl, hd, ht, q⟩ := h
  refine ⟨_, (pss_cons (ps_if (pt_not (pt_val (pe_callB call_isi (by rfl) T.n_isinstance (by decide +kernel) (pa_cons (pv 0) (pa_cons (pe_bltn (v := .ty "tuple") (by rfl) T.n_tuple (by decide +kernel) rfl) pa_nil))))) (pss_one (ps_ret pe_bl)) pss_nil)
      (pss_cons (ps_set (i := 1) sc_is_net.nd rfl (by first | exact .inl rfl | exact .inr rfl) (pe_callB call_len_seq (by rfl) T.n_len (by decide +kernel) (pa_cons (pv 0) pa_nil)))
      (pss_cons (ps_if (PW.pt (pw_or (pt_cmpR op_lt (pv 1) pe_int (nomark _)) (pw_or1 (pt_cmpR op_gt (pv 1) (pe_glob (v := .int 12) rfl T.c_MOST_LAMPS.choose_spec ⟨_, rfl⟩) (nomark _))))) (pss_one (ps_ret pe_bl)) pss_nil)
      (pss_one (ps_ret (pe_allQ (k := 1) (hr.mono (by decide)) (by rfl) T.n_all TB rfl ⟨rfl, rfl, by decide +kernel, by decide +kernel, by decide +kernel, free_by (by decide +kernel)⟩ (pv 0) (fun _ => rfl))))))), ?_⟩
  have hk : PySem.W.kitOne K (.type (kname d)) (.type "tuple") = some (kindB d "tuple") := kit_data (by decide)
  refine ⟨v, rfl, v, .ty "tuple", _, _, _, rfl, .ty _, tyx_of hd, hk, _, rfl, ?_⟩
  cases z : kindB d "tuple" with
  | false =>
    refine iteT ?_
    have e : netB d = false := by cases d <;> first | rfl | cases z
    have := q H Kp.rfl'
    rw [e] at this
    exact this
  | true =>
    refine iteF ?_
    cases hd with
    | @tup ad xs ds n h r =>
      have hl : (xs.length : Int) = (ds.length : Int) := by rw [r.len]
      -- many = len(thing)
      refine ⟨.ref ad, rfl, ad, xs, rfl, .inr (SqT.of h), ?_⟩
      rw [hl]
      -- if many < 1 or many > MOST_LAMPS
      refine ⟨.int ds.length, rfl, _, _, rfl, rfl, _, rfl, ?_⟩
      have e0 : netB (.tuple ds) = (!decide ((ds.length : Int) < 1) && !decide ((12 : Int) < (ds.length : Int)) && (ds.map (lampB ds.length)).all id) := rfl
      cases z1 : decide ((ds.length : Int) < 1) with
      | true =>
        refine iteT (iteT ?_)
        have := q H Kp.rfl'
        rw [e0, z1] at this
        exact this
      | false =>
        refine iteF ⟨.int ds.length, rfl, _, _, rfl, rfl, _, rfl, ?_⟩
        cases z2 : decide ((12 : Int) < (ds.length : Int)) with
        | true =>
          refine iteT ?_
          have := q H Kp.rfl'
          rw [e0, z1, z2] at this
          exact this
        | false =>
          refine iteF ?_
          -- return all(..)
          refine ⟨.ref ad, rfl, ad, xs, ds.map (lampB ds.length), [("many", .int ds.length)], rfl, .inl (SqT.of h), ht, fun y vy hy => ?_, ⟨by rw [List.length_map, r.len], fun hd env OK hsc j xv b hx hb => ?_⟩, fun H2 hT => ?_⟩
          · by_cases ey : y = "many"
            · subst ey
              have e2 : V.int ds.length = vy := by simpa [List.lookup] using hy
              subst e2
              exact ⟨by decide, by decide +kernel, by decide +kernel, 1, rfl, rfl, (by decide +kernel : (defScope s_is_net).names.lookup _ = some .cell)⟩
            · have ey' : (y == ("many" : Str)) = false := by simpa using ey
              simp [List.lookup, ey'] at hy
          · obtain ⟨dj, hdj, hxv⟩ := r.get hx
            rw [List.getElem?_map, hdj] at hb
            cases hb
            have OT : Tx (Qc.mk P w K mg (wipe H a.tb_is_net) hd).K (Qc.mk P w K mg (wipe H a.tb_is_net) hd).mg a := T
            have hw : Dx S (wipe H a.tb_is_net) xv dj := hxv.wiped ht
            refine q_call OK (qf_is_lamp_of_many OK OT hw) T.is_lamp_of_many.b rfl ?_ T.is_lamp_of_many.g T.is_lamp_of_many.F.kp (qa_cons (q_name rfl) (qa_cons (q_name rfl) qa_nil))
            show env.scope.names.lookup _ = _
            rw [hsc]
            decide +kernel
          · have := q H2 (Kp.tabbed ht hT)
            rw [e0, z1, z2] at this
            exact this
    | non => cases z
    | bl b => cases z
    | int i => cases z
    | str y => cases z
    | lst n h r => cases z
    | dic n h => cases z
end

/-! ### the law's draws -/
section
variable {P : Program} {w : World} {K : PySem.W.Frag} {mg : Str → Option Value} {base : Heap} {a : Ad}
/-- a wick: three numbers, at most n draws were made -/
def Wick (H : Hp) (p : Addr) (n : Nat) : Prop := ∃ x y z : Int, H p = some (.lst [.int x, .int y, .int z]) ∧ 0 ≤ x ∧ 0 ≤ y ∧ y < 2 ^ 160 ∧ 0 ≤ z ∧ z ≤ n
theorem Wick.mono {H : Hp} {p : Addr} {n m : Nat} (h : Wick H p n) (l : n ≤ m) : Wick H p m := by
  obtain ⟨x, y, z, e, h1, h2, h3, h4, h5⟩ := h
  exact ⟨x, y, z, e, h1, h2, h3, h4, by omega⟩
theorem Wick.kp {S : List Addr} {H H1 : Hp} {p : Addr} {n : Nat} (h : Wick H p n) (k : Kp S H H1) (hp : p ∉ S) : Wick H1 p n := by
  obtain ⟨x, y, z, e, r⟩ := h
  exact ⟨x, y, z, k.lst hp e, r⟩
theorem Wick.tr {H : Hp} {p : Addr} {n : Nat} (h : Wick H p n) : H p ≠ none := by
  obtain ⟨x, y, z, e, _⟩ := h
  rw [e]
  exact fun q => by cases q
def spWick : Sp := fun vs H Q _ => ∃ (c : Int) (k : Nat), vs = [.int c, .int k] ∧ k < 100 ∧ ∀ p, H p = none → ∀ H', Kp [] H H' → Wick H' p 0 → Q (.ref p) H'
theorem ok_law_wick (T : Tx K mg a) : FnOk P w K mg base CX0 1 a.a_law_wick a.f_law_wick ["cell", "k"] spWick := by
  refine T.law_wick.F.ok sc_law_wick (fun vs H Q E h => ?_) (fun cdv A outer s H vs Q E hr h => ?_)
  · obtain ⟨c, k, rfl, _⟩ := h
    rfl
  obtain ⟨c, k, rfl, hk, q⟩ := h
  refine ⟨_, (pss_one (ps_ret (pe_lst (pa_cons (pe_callB (call_max2 rfl) (by rfl) T.n_max (by decide +kernel) (pa_cons pe_int (pa_cons (pe_op op_sub (pv 0) (pe_op op_powW pe_int pe_int)) pa_nil))) (pa_cons (pe_op op_add (pe_op op_mod (pv 0) (pe_op op_add (pe_op op_powW pe_int pe_int) pe_int)) (pe_op op_mulW pe_int (pv 1))) (pa_cons pe_int pa_nil)))))), ?_⟩
  refine ⟨.int c, rfl, _, _, rfl, rfl, ⟨by decide, by decide⟩, _, _, rfl, rfl, _, _, rfl, ?_⟩
  refine ⟨.int c, rfl, _, _, rfl, rfl, ⟨by decide, by decide⟩, _, _, rfl, rfl, _, _, rfl, rfl, (by show (0 : Int) < _; decide), .int k, rfl, _, _, rfl, rfl, wide_mul (a := 13) (b := 8) (by decide) (by omega) (by decide) (by decide) (by decide), _, _, rfl, rfl, ?_⟩
  refine ⟨by show 3 ≤ sizeLine; decide, fun p np => q p np _ (Kp.new np) ⟨_, _, _, upd_same, ?_, ?_, ?_, Int.le_refl 0, Int.le_refl 0⟩⟩
  · split <;> omega
  · have := Int.emod_nonneg c (show ((10 : Int) ^ (44 : Int).toNat + 31) ≠ 0 by decide)
    omega
  · have := Int.emod_lt_of_pos c (show 0 < ((10 : Int) ^ (44 : Int).toNat + 31) by decide)
    have e : ((10 : Int) ^ (44 : Int).toNat + 31) + 8009 * 100 < 2 ^ 160 := by decide
    omega
def spPick : Sp := fun vs H Q _ => ∃ (p : Addr) (m : Int) (n : Nat), vs = [.ref p, .int m] ∧ 0 < m ∧ m < 2 ^ 8000 ∧ Wick H p n ∧ n < 100000 ∧ ∀ r H', 0 ≤ r → r < m → Kp [p] H H' → Wick H' p (n + 1) → Q (.int r) H'
theorem ok_law_pick (T : Tx K mg a) : FnOk P w K mg base CX0 1 a.a_law_pick a.f_law_pick ["wick", "many"] spPick := by
  refine T.law_pick.F.ok sc_law_pick (fun vs H Q E h => ?_) (fun cdv A outer s H vs Q E hr h => ?_)
  · obtain ⟨p, m, n, rfl, _⟩ := h
    rfl
  obtain ⟨p, m, n, rfl, hm, hm2, ⟨x, y, z, hp, hx, hy, hy2, hz, hz2⟩, hn, q⟩ := h
  refine ⟨_, (pss_cons (ps_if (pt_cmpR op_gt (pe_ix ix_list (pv 0) pe_int (fun _ _ => rfl)) pe_int (nomark _)) (pss_cons (ps_set (i := 2) sc_law_pick.nd rfl (by first | exact .inl rfl | exact .inr rfl) (pe_op op_mod (pe_ix ix_list (pv 0) pe_int (fun _ _ => rfl)) (pv 1)))
      (pss_cons (ps_asg (pe_op op_fdivW (pe_ix ix_list (pv 0) pe_int (fun _ _ => rfl)) (pv 1)) (pg_sub (pv 0) pe_int set_list))
      (pss_one (ps_ret (pv 2))))) pss_nil)
      (pss_cons (ps_augS (pv 0) pe_int pget_list pe_int ip_add set_list)
      (pss_cons (ps_set (i := 3) sc_law_pick.nd rfl (by first | exact .inl rfl | exact .inr rfl) (pe_op op_mod (pe_op op_powW (pe_op op_add (pe_ix ix_list (pv 0) pe_int (fun _ _ => rfl)) (pe_op op_mulW pe_int (pe_ix ix_list (pv 0) pe_int (fun _ _ => rfl)))) pe_int) (pe_op op_add (pe_op op_powW pe_int pe_int) pe_int)))
      (pss_cons (ps_set (i := 3) sc_law_pick.nd rfl (by first | exact .inl rfl | exact .inr rfl) (pe_op op_mod (pe_op op_powW (pe_op op_add (pv 3) (pe_op op_mulW (pe_op op_mulW pe_int (pe_ix ix_list (pv 0) pe_int (fun _ _ => rfl))) (pe_ix ix_list (pv 0) pe_int (fun _ _ => rfl)))) pe_int) (pe_op op_add (pe_op op_powW pe_int pe_int) pe_int)))
      (pss_one (ps_ret (pe_op op_mod (pe_op op_fdivW (pv 3) pe_int) (pv 1)))))))), ?_⟩
  have nt : ∀ ps, HO.lst [V.int x, .int y, .int z] ≠ .tbl ps := fun ps e => by cases e
  refine ⟨.ref p, rfl, p, _, 0, .int x, rfl, rfl, SqL.of hp, atI_nat (j := 0) rfl, _, _, rfl, rfl, _, rfl, ite2 (fun e => ?_) (fun e => ?_)⟩
  · have hx0 : 0 < x := of_decide_eq_true e
    refine ⟨.ref p, rfl, p, _, 0, .int x, rfl, rfl, SqL.of hp, atI_nat (j := 0) rfl, .int m, rfl, x, m, rfl, rfl, hm, ?_⟩
    refine ⟨.ref p, rfl, p, _, 0, .int x, rfl, rfl, SqL.of hp, atI_nat (j := 0) rfl, .int m, rfl, x, m, rfl, rfl, ⟨hm, big_log hm hm2⟩, ?_⟩
    refine ⟨.ref p, rfl, p, _, 0, 0, rfl, rfl, hp, rfl, ?_⟩
    refine ⟨.int (x % m), rfl, ?_⟩
    refine q _ _ (Int.emod_nonneg _ (by omega)) (Int.emod_lt_of_pos _ hm) (Kp.put (by simp) hp nt) ⟨x / m, y, z, upd_same, Int.ediv_nonneg hx (by omega), hy, hy2, hz, by omega⟩
  · have hx0 : x = 0 := by
      have : ¬ 0 < x := fun h => e (decide_eq_true h)
      omega
    -- wick[2] += 1
    refine ⟨.ref p, rfl, p, _, 2, .int z, rfl, rfl, SqL.of hp, rfl, z, 1, rfl, rfl, p, _, 2, 2, rfl, rfl, hp, rfl, ?_⟩
    obtain ⟨H1, e1⟩ : ∃ H1, H1 = upd H p (.lst [.int x, .int y, .int (z + 1)]) := ⟨_, rfl⟩
    have hp1 : H1 p = some (.lst [.int x, .int y, .int (z + 1)]) := by rw [e1]; exact upd_same
    have k1 : Kp [p] H H1 := e1 ▸ Kp.put (by simp) hp nt
    show tSeq _ _ _ _ (upd H p (.lst [.int x, .int y, .int (z + 1)]))
    rw [← e1]
    -- burnt = (wick[1] + 612977 * wick[2]) ** 5 % (10 ** 41 + 109)
    refine ⟨.ref p, rfl, p, _, 1, .int y, rfl, rfl, SqL.of hp1, atI_nat (j := 1) rfl, .ref p, rfl, p, _, 2, .int (z + 1), rfl, rfl, SqL.of hp1, atI_nat (j := 2) rfl, _, _, rfl, rfl, wide_mul (a := 20) (b := 20) (by decide) (by omega) (by decide) (by decide) (by decide), _, _, rfl, rfl, _, _, rfl, rfl, pow_ok (n := 200) (e := 5) (by omega) (by decide) (by decide), _, _, rfl, rfl, ⟨by decide, by decide⟩, _, _, rfl, rfl, _, _, rfl, rfl, (by show (0 : Int) < _; decide), ?_⟩
    have l1 := Int.emod_nonneg ((y + 612977 * (z + 1)) ^ (5 : Int).toNat) (show ((10 : Int) ^ (41 : Int).toNat + 109) ≠ 0 by decide)
    have l2 := Int.emod_lt_of_pos ((y + 612977 * (z + 1)) ^ (5 : Int).toNat) (show 0 < ((10 : Int) ^ (41 : Int).toNat + 109) by decide)
    have l3 : ((10 : Int) ^ (41 : Int).toNat + 109) < 2 ^ 140 := by decide
    obtain ⟨b1, eb⟩ : ∃ b1, b1 = (y + 612977 * (z + 1)) ^ (5 : Int).toNat % ((10 : Int) ^ (41 : Int).toNat + 109) := ⟨_, rfl⟩
    rw [← eb] at l1 l2
    -- burnt = (burnt + 32452843 * wick[2] * wick[2]) ** 3 % (10 ** 36 + 67)
    have l4 : 32452843 * (z + 1) < 2 ^ 50 := by omega
    have l5 : 0 ≤ 32452843 * (z + 1) := by omega
    have l6 : (32452843 * (z + 1) * (z + 1)).natAbs < 2 ^ (50 + 20) := wide_lt (by omega) (by omega)
    refine ⟨.int b1, by rw [eb]; rfl, .ref p, rfl, p, _, 2, .int (z + 1), rfl, rfl, SqL.of hp1, atI_nat (j := 2) rfl, _, _, rfl, rfl, wide_mul (a := 26) (b := 20) (by decide) (by omega) (by decide) (by decide) (by decide), .ref p, rfl, p, _, 2, .int (z + 1), rfl, rfl, SqL.of hp1, atI_nat (j := 2) rfl, _, _, rfl, rfl, wide_mul (a := 50) (b := 20) (by omega) (by omega) (by decide) (by decide) (by decide), _, _, rfl, rfl, _, _, rfl, rfl, pow_ok (n := 200) (e := 3) (by omega) (by decide) (by decide), _, _, rfl, rfl, ⟨by decide, by decide⟩, _, _, rfl, rfl, _, _, rfl, rfl, (by show (0 : Int) < _; decide), ?_⟩
    obtain ⟨b2, eb2⟩ : ∃ b2, b2 = (b1 + 32452843 * (z + 1) * (z + 1)) ^ (3 : Int).toNat % ((10 : Int) ^ (36 : Int).toNat + 67) := ⟨_, rfl⟩
    -- return burnt // 2048 % many
    refine ⟨.int b2, by rw [eb2]; rfl, _, _, rfl, rfl, ⟨by decide, by decide⟩, .int m, rfl, _, _, rfl, rfl, hm, ?_⟩
    exact q _ _ (Int.emod_nonneg _ (by omega)) (Int.emod_lt_of_pos _ hm) k1 ⟨x, y, z + 1, hp1, hx, hy, hy2, by omega, by omega⟩
def spBurns : Sp := fun vs H Q _ => ∃ (p : Addr) (n : Nat), vs = [.ref p] ∧ Wick H p n ∧ n < 99000 ∧ ∀ r H', 1 ≤ r → r < 10 ^ 60 → Kp [p] H H' → Wick H' p (n + 3) → Q (.int r) H'
theorem ok_law_burns (T : Tx K mg a) : FnOk P w K mg base CX0 2 a.a_law_burns a.f_law_burns ["wick"] spBurns := by
  have G_law_pick := ok_law_pick (P := P) (w := w) (base := base) T
  refine T.law_burns.F.ok sc_law_burns (fun vs H Q E h => ?_) (fun cdv A outer s H vs Q E hr h => ?_)
  · obtain ⟨p, n, rfl, _⟩ := h
    rfl
  obtain ⟨p, n, rfl, hw, hn, q⟩ := h
  refine ⟨_, (pss_one (ps_ret (pe_ix ix_list (pe_lst (pa_cons pe_int (pa_cons pe_int (pa_cons (pe_op op_add pe_int (pe_call G_law_pick (hr.mono (by decide)) (by rfl) T.law_pick.g T.law_pick.F.kp T.law_pick.b .nil pass0 (pa_cons (pv 0) (pa_cons pe_int pa_nil)))) (pa_cons (pe_op op_add pe_int (pe_call G_law_pick (hr.mono (by decide)) (by rfl) T.law_pick.g T.law_pick.F.kp T.law_pick.b .nil pass0 (pa_cons (pv 0) (pa_cons (pe_op op_powW pe_int pe_int) pa_nil)))) (pa_cons (pe_op op_sub (pe_op op_powW pe_int pe_int) pe_int) pa_nil)))))) (pe_call G_law_pick (hr.mono (by decide)) (by rfl) T.law_pick.g T.law_pick.F.kp T.law_pick.b .nil pass0 (pa_cons (pv 0) (pa_cons pe_int pa_nil))) (fun _ _ => rfl)))), ?_⟩
  refine ⟨.ref p, rfl, p, 9, n, rfl, by decide, by decide, hw, by omega, fun r1 H1 a1 b1 k1 w1 => ⟨_, _, rfl, rfl, ?_⟩⟩
  refine ⟨.ref p, rfl, _, _, rfl, rfl, ⟨by decide, by decide⟩, p, _, n + 1, rfl, by decide, by decide, w1, by omega, fun r2 H2 a2 b2 k2 w2 => ⟨_, _, rfl, rfl, ?_⟩⟩
  refine ⟨_, _, rfl, rfl, ⟨by decide, by decide⟩, _, _, rfl, rfl, by show 5 ≤ sizeLine; decide, fun l nl => ?_⟩
  have hlp : l ∉ [p] := by
    have : p ≠ l := fun e => w2.tr (e ▸ nl)
    simpa using this.symm
  refine ⟨.ref p, rfl, p, 5, n + 2, rfl, by decide, by decide, w2.kp (Kp.new (S := []) nl) (by simp), by omega, fun r3 H3 a3 b3 k3 w3 => ?_⟩
  obtain ⟨v, hv, hm⟩ := at_mem (xs := [.int 1, .int 2, .int (1 + r1), .int (1 + r2), .int (10 ^ (60 : Int).toNat - 1)]) a3 (by simpa using b3)
  refine ⟨l, _, r3, v, rfl, rfl, SqL.of (k3.lst hlp upd_same), hv, ?_⟩
  have kk : Kp [p] H H3 := k1.tr (k2.tr ((Kp.new nl).tr k3))
  have e60 : (10 : Int) ^ (60 : Int).toNat = 10 ^ 60 := by decide
  have e59 : (10 : Int) ^ (59 : Int).toNat < 10 ^ 60 - 1 := by decide
  simp only [List.mem_cons, List.not_mem_nil, or_false] at hm
  rcases hm with rfl | rfl | rfl | rfl | rfl
  · exact q _ _ (by decide) (by decide) kk w3
  · exact q _ _ (by decide) (by decide) kk w3
  · exact q _ _ (by omega) (by omega) kk w3
  · exact q _ _ (by omega) (by omega) kk w3
  · exact q _ _ (by decide) (by decide) kk w3
def spMesh : Sp := fun vs H Q _ => ∃ (p : Addr) (n : Nat), vs = [.ref p] ∧ Wick H p n ∧ n < 98000 ∧ ∀ v H' N, NetOk N → Short N → Nw H H' v (netD N) → Kp [p] H H' → Wick H' p (n + 200) → Q v H'
theorem ok_law_mesh (T : Tx K mg a) : FnOk P w K mg base CX0 3 a.a_law_mesh a.f_law_mesh ["wick"] spMesh := by
  have G_law_pick := ok_law_pick (P := P) (w := w) (base := base) T
  have G_law_burns := ok_law_burns (P := P) (w := w) (base := base) T
  refine T.law_mesh.F.ok sc_law_mesh (fun vs H Q E h => ?_) (fun cdv A outer s H vs Q E hr h => ?_)
  · obtain ⟨p, n, rfl, _⟩ := h
    rfl
  obtain ⟨p, n, rfl, hw, hn, q⟩ := h
  refine ⟨_, (pss_cons (ps_set (i := 1) sc_law_mesh.nd rfl (by first | exact .inl rfl | exact .inr rfl) (pe_ix ix_list (pe_lst (pa_cons (pe_op op_add pe_int (pe_call G_law_pick (hr.mono (by decide)) (by rfl) T.law_pick.g T.law_pick.F.kp T.law_pick.b .nil pass0 (pa_cons (pv 0) (pa_cons pe_int pa_nil)))) (pa_cons (pe_op op_add pe_int (pe_call G_law_pick (hr.mono (by decide)) (by rfl) T.law_pick.g T.law_pick.F.kp T.law_pick.b .nil pass0 (pa_cons (pv 0) (pa_cons pe_int pa_nil)))) (pa_cons pe_int pa_nil)))) (pe_call G_law_pick (hr.mono (by decide)) (by rfl) T.law_pick.g T.law_pick.F.kp T.law_pick.b .nil pass0 (pa_cons (pv 0) (pa_cons pe_int pa_nil))) (fun _ _ => rfl)))
      (pss_cons (ps_set (i := 2) sc_law_mesh.nd rfl (by first | exact .inl rfl | exact .inr rfl) (pe_call G_law_pick (hr.mono (by decide)) (by rfl) T.law_pick.g T.law_pick.F.kp T.law_pick.b .nil pass0 (pa_cons (pv 0) (pa_cons pe_int pa_nil))))
      (pss_cons (ps_set (i := 3) sc_law_mesh.nd rfl (by first | exact .inl rfl | exact .inr rfl) (pe_lst pa_nil))
      (pss_cons (ps_for PassesOwn.never rfl (pi_range1 (by rfl) T.n_range (pa_cons (pv 1) pa_nil)) (pg_name (i := 4) sc_law_mesh.nd rfl (by first | exact .inl rfl | exact .inr rfl)) (pss_cons (ps_set (i := 5) sc_law_mesh.nd rfl (by first | exact .inl rfl | exact .inr rfl) (pe_lst (pa_cons (pe_call G_law_pick (hr.mono (by decide)) (by rfl) T.law_pick.g T.law_pick.F.kp T.law_pick.b .nil pass0 (pa_cons (pv 0) (pa_cons (pv 1) pa_nil))) (pa_cons (pe_op op_mod (pe_op op_add (pv 4) pe_int) (pv 1)) (pa_cons (pe_ix ix_list (pe_lst (pa_cons (pv 4) (pa_cons pe_non pa_nil))) (pe_call G_law_pick (hr.mono (by decide)) (by rfl) T.law_pick.g T.law_pick.F.kp T.law_pick.b .nil pass0 (pa_cons (pv 0) (pa_cons pe_int pa_nil))) (fun _ _ => rfl)) (pa_cons (pe_call G_law_pick (hr.mono (by decide)) (by rfl) T.law_pick.g T.law_pick.F.kp T.law_pick.b .nil pass0 (pa_cons (pv 0) (pa_cons (pe_op op_add (pv 4) pe_int) pa_nil))) pa_nil))))))
      (pss_one (ps_expr (pe_bm PySem.F.plainAttrs_list PySem.F.slot_list_append PySem.F.type_list_append mt_append (pv 3) (pa_cons (pe_tup (pa_cons (pe_call G_law_burns (hr.mono (by decide)) (by rfl) T.law_burns.g T.law_burns.F.kp T.law_burns.b .nil pass0 (pa_cons (pv 0) pa_nil)) (pa_cons (pe_ix ix_list (pv 5) (pe_ix ix_list (pe_lst (pa_cons pe_int (pa_cons pe_int (pa_cons (pe_call G_law_pick (hr.mono (by decide)) (by rfl) T.law_pick.g T.law_pick.F.kp T.law_pick.b .nil pass0 (pa_cons (pv 0) (pa_cons pe_int pa_nil))) (pa_cons (pe_ix ix_list (pe_lst (pa_cons pe_int (pa_cons pe_int (pa_cons pe_int (pa_cons pe_int pa_nil))))) (pe_call G_law_pick (hr.mono (by decide)) (by rfl) T.law_pick.g T.law_pick.F.kp T.law_pick.b .nil pass0 (pa_cons (pv 0) (pa_cons pe_int pa_nil))) (fun _ _ => rfl)) pa_nil))))) (pv 2) (fun _ _ => rfl)) (fun _ _ => rfl)) pa_nil))) pa_nil))))))
      (pss_one (ps_ret (pe_callTy call_tuple_of (by rfl) T.n_tuple (by decide +kernel) (pa_cons (pv 3) pa_nil)))))))), ?_⟩
  -- many = [..][..]
  refine ⟨.ref p, rfl, p, 12, n, rfl, by decide, by decide, hw, by omega, fun r1 H1 a1 b1 k1 w1 => ⟨_, _, rfl, rfl, ?_⟩⟩
  refine ⟨.ref p, rfl, p, 4, n + 1, rfl, by decide, by decide, w1, by omega, fun r2 H2 a2 b2 k2 w2 => ⟨_, _, rfl, rfl, ?_⟩⟩
  refine ⟨by show 3 ≤ sizeLine; decide, fun l nl => ?_⟩
  have hlp : l ∉ [p] := by
    have : p ≠ l := fun e => w2.tr (e ▸ nl)
    simpa using this.symm
  refine ⟨.ref p, rfl, p, 3, n + 2, rfl, by decide, by decide, w2.kp (Kp.new (S := []) nl) (by simp), by omega, fun r3 H3 a3 b3 k3 w3 => ?_⟩
  obtain ⟨mv, hv, hm⟩ := at_mem (xs := [.int (1 + r1), .int (1 + r2), .int 12]) a3 (by simpa using b3)
  refine ⟨l, _, r3, mv, rfl, rfl, SqL.of (k3.lst hlp upd_same), hv, ?_⟩
  have kH3 : Kp [p] H H3 := k1.tr (k2.tr ((Kp.new nl).tr k3))
  obtain ⟨m, rfl, hm1, hm2⟩ : ∃ m : Nat, mv = .int (m : Int) ∧ 1 ≤ m ∧ m ≤ 12 := by
    simp only [List.mem_cons, List.not_mem_nil, or_false] at hm
    rcases hm with rfl | rfl | rfl
    · exact ⟨(1 + r1).toNat, by congr 1; omega, by omega, by omega⟩
    · exact ⟨(1 + r2).toNat, by congr 1; omega, by omega, by omega⟩
    · exact ⟨12, rfl, by decide, by decide⟩
  -- shape = _law_pick(wick, 4)
  refine ⟨.ref p, rfl, p, 4, n + 3, rfl, by decide, by decide, w3, by omega, fun sh H4 a4 b4 k4 w4 => ?_⟩
  -- found = []
  refine ⟨Nat.zero_le _, fun fp nf => ?_⟩
  obtain ⟨H5, e5⟩ : ∃ H5, H5 = upd H4 fp (.lst []) := ⟨_, rfl⟩
  have hf5 : H5 fp = some (.lst []) := by rw [e5]; exact upd_same
  have w5 : Wick H5 p (n + 4) := by rw [e5]; exact w4.kp (Kp.new (S := []) nf) (by simp)
  have kH5 : Kp [p] H H5 := kH3.tr (k4.tr (by rw [e5]; exact Kp.new nf))
  have hfp : fp ∉ [p] := by
    have : p ≠ fp := fun e => w4.tr (e ▸ nf)
    simpa using this.symm
  show (fun H0 => _) (upd H4 fp (.lst []))
  rw [← e5]
  have hp5 : H5 p ≠ none := w5.tr
  have hf5' : H5 fp ≠ none := by rw [hf5]; exact fun q => by cases q
  have hS0 : ∀ s ∈ [fp, p], H5 s ≠ none := fun s z => by
    simp only [List.mem_cons, List.not_mem_nil, or_false] at z
    rcases z with rfl | rfl
    · exact hf5'
    · exact hp5
  -- for k in range(many)
  refine ⟨.int m, rfl, m, rfl, by omega, by omega, for_range (n := m) (fun i σ H' => ∃ (k4 k5 : Option V) (vs : List V) (Nk : Net), σ = [some (.ref p), some (.int m), some (.int sh), some (.ref fp), k4, k5] ∧ H' fp = some (.lst vs) ∧ NwA H5 H' vs (Nk.map lampD) ∧ Nk.length = i ∧ (∀ z ∈ Nk, 1 ≤ z.1 ∧ z.1 < 10 ^ 60 ∧ ∀ y, z.2 = some y → y < m) ∧ Kp [fp, p] H5 H' ∧ Wick H' p (n + 4 + 8 * i)) ⟨none, none, [], [], rfl, hf5, .nil, rfl, fun z hz => (by cases hz), .rfl', w5⟩ (fun i σ H6 hi hP => ?_) (fun σ H6 hP => ?_)⟩
  · obtain ⟨o4, o5, vs, Nk, rfl, hf6, hv6, hl6, hN6, kH6, w6⟩ := hP
    -- some = [..]
    refine ⟨.ref p, rfl, .int m, rfl, p, m, _, rfl, by omega, by omega, w6, by omega, fun q1 H7 a7 b7 k7 w7 => ?_⟩
    refine ⟨.int (0 + i), rfl, _, _, rfl, rfl, .int m, rfl, _, _, rfl, rfl, by omega, ?_⟩
    refine ⟨.int (0 + i), rfl, by show 2 ≤ sizeLine; decide, fun l1 nl1 => ?_⟩
    have c7 : ∀ {b}, H7 b = none → b ∉ [p] := fun {b} nb => by
      have : p ≠ b := fun e => w7.tr (e ▸ nb)
      simpa using this.symm
    refine ⟨.ref p, rfl, p, 2, _, rfl, by decide, by decide, w7.kp (Kp.new (S := []) nl1) (by simp), by omega, fun q2 H8 a8 b8 k8 w8 => ?_⟩
    obtain ⟨v3, hv3, hm3⟩ := at_mem (xs := [.int (0 + i), .non]) a8 (by simpa using b8)
    refine ⟨l1, _, q2, v3, rfl, rfl, SqL.of (k8.lst (c7 nl1) upd_same), hv3, ?_⟩
    have k78 : Kp [p] H7 H8 := (Kp.new nl1).tr k8
    refine ⟨.ref p, rfl, .int (0 + i), rfl, _, _, rfl, rfl, p, _, _, rfl, by omega, by omega, w8, by omega, fun q4 H9 a9 b9 k9 w9 => ?_⟩
    refine ⟨by show 4 ≤ sizeLine; decide, fun sp_ nsp => ?_⟩
    obtain ⟨H10, e10⟩ : ∃ H10, H10 = upd H9 sp_ (.lst [.int q1, .int ((0 + i + 1) % m), v3, .int q4]) := ⟨_, rfl⟩
    rw [← e10]
    have hsp10 : H10 sp_ = some (.lst [.int q1, .int ((0 + i + 1) % m), v3, .int q4]) := by rw [e10]; exact upd_same
    have k910 : Kp [p] H9 H10 := e10 ▸ Kp.new nsp
    have k610 : Kp [p] H6 H10 := k7.tr (k78.tr (k9.tr k910))
    have hspp : sp_ ∉ [p] := by
      have : p ≠ sp_ := fun e => w9.tr (e ▸ nsp)
      simpa using this.symm
    have hf10 : H10 fp = some (.lst vs) := k610.lst hfp hf6
    have w10 : Wick H10 p (n + 4 + 8 * i + 3) := by rw [e10]; exact w9.kp (Kp.new (S := []) nsp) (by simp)
    -- every one of some is a number of a lamp, or none
    have hnx : ∀ v ∈ [V.int q1, .int ((0 + (i : Int) + 1) % m), v3, .int q4], ∃ o : Option Nat, v = nxV o ∧ ∀ y, o = some y → y < m := by
      intro v hv
      simp only [List.mem_cons, List.not_mem_nil, or_false] at hv hm3
      have fin : ∀ z : Int, 0 ≤ z → z < m → ∃ o : Option Nat, V.int z = nxV o ∧ ∀ y, o = some y → y < m := fun z h0 h1 =>
        ⟨some z.toNat, by show V.int z = V.int (z.toNat : Int); congr 1; omega, fun y e => by cases e; omega⟩
      rcases hv with rfl | rfl | rfl | rfl
      · exact fin _ a7 b7
      · exact fin _ (Int.emod_nonneg _ (by omega)) (Int.emod_lt_of_pos _ (by omega))
      · rcases hm3 with rfl | rfl
        · exact fin _ (by omega) (by omega)
        · exact ⟨none, rfl, fun y e => by cases e⟩
      · exact fin _ a9 (by omega)
    -- found.append((_law_burns(wick), some[..]))
    refine ⟨.ref fp, rfl, .inl ⟨rfl, _, SqL.of hf10⟩, ?_⟩
    refine ⟨.ref p, rfl, p, _, rfl, w10, by omega, fun b1 H11 a11 b11 k11 w11 => ?_⟩
    refine ⟨.ref sp_, rfl, ?_⟩
    refine ⟨.ref p, rfl, p, 4, _, rfl, by decide, by decide, w11, by omega, fun q5 H12 a12 b12 k12 w12 => ?_⟩
    refine ⟨by show 4 ≤ sizeLine; decide, fun l2 nl2 => ?_⟩
    have c12 : ∀ {b}, H12 b = none → b ∉ [p] := fun {b} nb => by
      have : p ≠ b := fun e => w12.tr (e ▸ nb)
      simpa using this.symm
    refine ⟨.ref p, rfl, p, 4, _, rfl, by decide, by decide, w12.kp (Kp.new (S := []) nl2) (by simp), by omega, fun q6 H13 a13 b13 k13 w13 => ?_⟩
    obtain ⟨v6, hv6', hm6⟩ := at_mem (xs := [.int 0, .int 0, .int 1, .int 3]) a13 (by simpa using b13)
    refine ⟨l2, _, q6, v6, rfl, rfl, SqL.of (k13.lst (c12 nl2) upd_same), hv6', ?_⟩
    refine ⟨by show 4 ≤ sizeLine; decide, fun l3 nl3 => ?_⟩
    obtain ⟨v7, hv7, hm7⟩ := at_mem (xs := [.int 0, .int 1, .int q5, v6]) a4 (by simpa using b4)
    refine ⟨.int sh, rfl, l3, _, sh, v7, rfl, rfl, SqL.of upd_same, hv7, ?_⟩
    obtain ⟨q7, rfl, a14, b14⟩ : ∃ q7, v7 = .int q7 ∧ 0 ≤ q7 ∧ q7 < 4 := by
      simp only [List.mem_cons, List.not_mem_nil, or_false] at hm6 hm7
      rcases hm7 with rfl | rfl | rfl | rfl
      · exact ⟨_, rfl, by decide, by decide⟩
      · exact ⟨_, rfl, by decide, by decide⟩
      · exact ⟨_, rfl, a12, b12⟩
      · rcases hm6 with rfl | rfl | rfl | rfl <;> exact ⟨_, rfl, by decide, by decide⟩
    obtain ⟨v8, hv8, hm8⟩ := at_mem (xs := [.int q1, .int ((0 + (i : Int) + 1) % m), v3, .int q4]) a14 (by simpa using b14)
    obtain ⟨o8, rfl, ho8⟩ := hnx v8 hm8
    have k1013 : Kp [p] H10 H13 := k11.tr (k12.tr ((Kp.new nl2).tr k13))
    obtain ⟨H14, e14⟩ : ∃ H14, H14 = upd H13 l3 (.lst [.int 0, .int 1, .int q5, v6]) := ⟨_, rfl⟩
    rw [← e14]
    have k1014 : Kp [p] H10 H14 := k1013.tr (e14 ▸ Kp.new nl3)
    have w14 : Wick H14 p (n + 4 + 8 * i + 3 + 3 + 1 + 1) := by rw [e14]; exact w13.kp (Kp.new (S := []) nl3) (by simp)
    refine ⟨sp_, _, q7, nxV o8, rfl, rfl, SqL.of (k1014.lst hspp hsp10), hv8, ?_⟩
    refine ⟨by show 2 ≤ sizeLine; decide, fun tp ntp => ?_⟩
    obtain ⟨H15, e15⟩ : ∃ H15, H15 = upd H14 tp (.tup [.int b1, nxV o8]) := ⟨_, rfl⟩
    rw [← e15]
    have k1415 : Kp [] H14 H15 := e15 ▸ Kp.new ntp
    have k615 : Kp [p] H6 H15 := k610.tr (k1014.tr k1415.of0)
    have hf15 : H15 fp = some (.lst vs) := k615.lst hfp hf6
    have lvs : vs.length = i := by
      have e := (hv6 [] (fun s z => by cases z)).len
      rw [List.length_map] at e
      omega
    refine ⟨fp, vs, .ref tp, rfl, rfl, hf15, Nat.lt_of_lt_of_le (show vs.length < 1000 by omega) (by decide), ?_⟩
    obtain ⟨H16, e16⟩ : ∃ H16, H16 = upd H15 fp (.lst (vs ++ [.ref tp])) := ⟨_, rfl⟩
    rw [← e16]
    have k1516 : Kp [fp] H15 H16 := e16 ▸ Kp.put (by simp) hf15 (fun ps e => by cases e)
    have k615' : Kp [fp, p] H6 H15 := k615.wk fun x z => by simp only [List.mem_cons, List.not_mem_nil, or_false] at z ⊢; exact .inr z
    have k1516' : Kp [fp, p] H15 H16 := k1516.wk fun x z => by simp only [List.mem_cons, List.not_mem_nil, or_false] at z ⊢; exact .inl z
    have k616 : Kp [fp, p] H6 H16 := k615'.tr k1516'
    have hpf : p ∉ [fp] := by
      have : p ≠ fp := fun e => hfp (by simp [e])
      simpa using this
    have trA : ∀ b, H5 b ≠ none → H14 b ≠ none := fun b h => k1014.tr_ b (k610.tr_ b (kH6.tr_ b h))
    have hnew : Nw H5 H16 (.ref tp) (lampD (b1, o8)) := by
      refine Nw.kpS (S0 := [fp, p]) ?_ k1516' hS0
      rw [e15]
      refine Nw.tup trA ntp (.cons (.int b1) (.cons ?_ .nil))
      cases o8 with
      | none => exact .non
      | some y => exact .int _
    refine ⟨some (.int (0 + i)), some (.ref sp_), vs ++ [.ref tp], Nk ++ [(b1, o8)], rfl, by rw [e16]; exact upd_same, ?_, by rw [List.length_append, hl6]; rfl, fun z hz => ?_, kH6.tr k616, ?_⟩
    · rw [List.map_append]
      exact (hv6.kpS k616 hS0).app (.cons hnew .nil)
    · rcases List.mem_append.mp hz with hz | hz
      · exact hN6 z hz
      · obtain rfl : z = (b1, o8) := by simpa using hz
        exact ⟨a11, b11, fun y e => ho8 y e⟩
    · exact ((w14.kp k1415 (by simp)).kp k1516 hpf).mono (by omega)
  · obtain ⟨o4, o5, vs, Nk, rfl, hf6, hv6, hl6, hN6, kH6, w6⟩ := hP
    refine ⟨.ref fp, rfl, fp, vs, rfl, .inl ⟨SqL.of hf6, fun tp ntp => ?_⟩⟩
    obtain ⟨H7, e7⟩ : ∃ H7, H7 = upd H6 tp (.tup vs) := ⟨_, rfl⟩
    rw [← e7]
    have k67 : Kp [] H6 H7 := e7 ▸ Kp.new ntp
    have okN : NetOk Nk := ⟨by omega, by omega, fun z hz => (hN6 z hz).1, fun z hz y e => by rw [hl6]; exact (hN6 z hz).2.2 y e⟩
    refine q (.ref tp) H7 Nk okN (fun z hz => (hN6 z hz).2.1) ?_ ?_ ?_
    · rw [e7]
      exact Nw.tup (fun b h => kH6.tr_ b (kH5.tr_ b h)) ntp (hv6.old kH5.tr_)
    · have hfH : H fp = none := by
        cases e : H fp with
        | none => rfl
        | some o => exact absurd nf ((kH3.tr k4).tr_ fp (by rw [e]; exact fun q => by cases q))
      exact Kp.drop hfH ((kH5.wk fun x z => List.mem_cons_of_mem _ z).tr (kH6.tr k67.of0))
    · exact (w6.kp k67 (by simp)).mono (by omega)
end

/-! ### is_kindling_of_many: quiet; are_kindlings -/
section
variable {c : Qc} {a : Ad} {S : List Addr} {v u : V} {d e : PyData}
theorem sparkB_pair {m : Nat} (h : pairB d = false) : sparkB m d = false := by
  cases d with
  | tuple ds =>
    match ds, h with
    | [], _ => rfl
    | [_], _ => rfl
    | [_, _], h => cases h
    | _ :: _ :: _ :: _, _ => rfl
  | _ => rfl
theorem qf_is_kindling_of_many {m : Nat} (O : c.Ok) (T : Tx c.K c.mg a) (h : Dx S c.H v d) : QF c 3 a.a_is_kindling_of_many a.f_is_kindling_of_many ["thing", "many"] [v, .int m] (.bl (sparkB m d)) := by
  refine q_fun O T.is_kindling_of_many.F sc_is_kindling_of_many (by decide +kernel) rfl fun L cdv => ?_
  have hp : ∀ {N : Nm} {p1 p2 pos}, N.lookup ("thing" : Str) = some v → QE c 2 (envOfC "is_kindling_of_many" (defScope s_is_kindling_of_many) L a.a_is_kindling_of_many cdv) N (.Call (.Name "is_pair" p1) [.Name "thing" p2] [] pos) (.bl (pairB d)) := fun hN =>
    q_call O (fun A R args us s r => qf_is_pair O T h A R args us s (r.mono (by decide))) T.is_pair.b rfl rfl T.is_pair.g T.is_pair.F.kp (qa_cons (q_name hN) qa_nil)
  cases z : pairB d with
  | false =>
    rw [sparkB_pair z]
    refine qb_ifT (qt_not (t := false) (qt_val ?_)) (qb_ret q_bool)
    rw [← z]
    exact hp rfl
  | true =>
    refine qb_ifF (qt_not (t := true) (qt_val ?_)) ?_
    · rw [← z]
      exact hp rfl
    cases h with
    | @tup ad xs ds n h r =>
      have hl : (ds.length : Int) = 2 := by simpa [pairB] using z
      match ds, r with
      | [d1, d2], .cons (v := v1) r1 (.cons (v := v2) r2 .nil) =>
        refine qb_two (q_name rfl) (tupQ_of O h) rfl rfl (fun y hy => ?_) ?_
        · by_cases e1 : y = "thing"
          · rw [e1]; rfl
          · by_cases e2 : y = "many"
            · rw [e2]; rfl
            · have q1 : (y == ("thing" : Str)) = false := by simpa using e1
              have q2 : (y == ("many" : Str)) = false := by simpa using e2
              simp [List.zip, List.zipWith, List.lookup, q1, q2] at hy
        · have hw : ∀ {N : Nm} {p1 p2 pos}, N.lookup ("beat" : Str) = some v1 → QE c 2 (envOfC "is_kindling_of_many" (defScope s_is_kindling_of_many) L a.a_is_kindling_of_many cdv) N (.Call (.Name "is_whole" p1) [.Name "beat" p2] [] pos) (.bl (isW d1)) := fun hN =>
            q_call O (fun A R args us s r => qf_is_whole O T r1 A R args us s (r.mono (by decide))) T.is_whole.b rfl rfl T.is_whole.g T.is_whole.F.kp (qa_cons (q_name hN) qa_nil)
          cases y1 : isW d1 with
          | false =>
            have e3 : sparkB m (.tuple [d1, d2]) = false := by
              have : beatB d1 = false := by cases d1 <;> first | rfl | cases y1
              show (beatB d1 && _) = false
              rw [this]; rfl
            rw [e3]
            refine qb_ifT (qt_orT (qt_not (t := false) (qt_val ?_))) (qb_ret q_bool)
            rw [← y1]
            exact hw rfl
          | true =>
            cases r1 with
            | int i =>
              have h0 : ∀ {p1 p2 p3 p4}, QT c 2 (envOfC "is_kindling_of_many" (defScope s_is_kindling_of_many) L a.a_is_kindling_of_many cdv) (("lamp", v2) :: ("beat", .int i) :: [("thing", .ref ad), ("many", .int m)])
                  (.UnaryOp .Not (.Call (.Name "is_whole" p1) [.Name "beat" p2] [] p3) p4) false := by
                refine qt_not (t := true) (qt_val ?_)
                exact hw rfl
              have e4 : sparkB m (.tuple [.int i, d2]) = (!decide (i < 0) && numB m d2) := rfl
              cases y2 : decide (i < 0) with
              | true =>
                rw [e4, y2]
                exact qb_ifT (qt_or2 h0 (y2 ▸ qt_cmp qo_lt (q_name rfl) q_int rfl)) (qb_ret q_bool)
              | false =>
                rw [e4, y2]
                refine qb_ifF (qt_or2 h0 (y2 ▸ qt_cmp qo_lt (q_name rfl) q_int rfl)) ?_
                have e5 : (!false && numB m d2) = numB m d2 := rfl
                rw [e5]
                exact qb_ret (q_call O (fun A R args us s r => qf_is_number_of_many O T r2 A R args us s (r.mono (by decide))) T.is_number_of_many.b rfl rfl T.is_number_of_many.g T.is_number_of_many.F.kp (qa_cons (q_name rfl) (qa_cons (q_name rfl) qa_nil)))
            | non => cases y1
            | bl b => cases y1
            | tup n h r => cases y1
            | str y => cases y1
            | lst n h r => cases y1
            | dic n h => cases y1
    | non => cases z
    | bl b => cases z
    | int i => cases z
    | str y => cases z
    | lst n h r => cases z
    | dic n h => cases z
end

section
variable {P : Program} {w : World} {K : PySem.W.Frag} {mg : Str → Option Value} {base : Heap} {a : Ad}
def spNeedNet (TB : Addr) : Sp := fun vs H Q _ => ∃ (S : List Addr) (v : V) (N : Net), vs = [v] ∧ Dx S H v (netD N) ∧ NetOk N ∧ GxR.TabG H TB ∧ ∀ H', Kp [] H H' → Q .non H'
theorem ok_need_net (T : Tx K mg a) (TB : GxR.TabB base mg a.cd_is_net a.tb_is_net) : FnOk P w K mg base CX0 7 a.a_need_net a.f_need_net ["net"] (spNeedNet a.tb_is_net) := by
  have G_is_net := ok_is_net (P := P) (w := w) (base := base) T TB
  refine T.need_net.F.ok sc_need_net (fun vs H Q E h => ?_) (fun cdv A outer s H vs Q E hr h => ?_)
  · obtain ⟨S, v, N, rfl, _⟩ := h
    rfl
  obtain ⟨S, v, N, rfl, hd, ok, ht, q⟩ := h
  refine ⟨_, (pss_one (ps_if (pt_not (pt_val (pe_call G_is_net (hr.mono (by decide)) (by rfl) T.is_net.g T.is_net.F.kp T.is_net.b .nil pass0 (pa_cons (pv 0) pa_nil)))) (pss_one ps_never) pss_nil)), ?_⟩
  refine ⟨v, rfl, S, v, netD N, rfl, hd, ht, fun H' k => ⟨true, by rw [netB_of ok], ?_⟩⟩
  exact iteF (q H' k)
def spAreK (TB TB2 : Addr) : Sp := fun vs H Q _ => ∃ (S : List Addr) (v u : V) (N : Net) (d : PyData), vs = [v, u] ∧ Dx S H v (netD N) ∧ NetOk N ∧ Dx S H u d ∧ GxR.TabG H TB ∧ GxR.TabG H TB2 ∧ ∀ H', Kp [] H H' → Q (.bl (sparksB N.length d)) H'
theorem ok_are_kindlings (T : Tx K mg a) (TB : GxR.TabB base mg a.cd_is_net a.tb_is_net) (TB2 : GxR.TabB base mg a.cd_are_kindlings a.tb_are_kindlings) : FnOk P w K mg base CX0 10 a.a_are_kindlings a.f_are_kindlings ["net", "thing"] (spAreK a.tb_is_net a.tb_are_kindlings) := by
  have G_need_net := ok_need_net (P := P) (w := w) (base := base) T TB
  refine okC T.are_kindlings.F T.code_are_kindlings sc_are_kindlings (fun vs H Q E h => ?_) (fun A outer s H vs Q E hr h => ?_)
  · obtain ⟨S, v, u, N, d, rfl, _⟩ := h
    rfl
  obtain ⟨S, v, u, N, d, rfl, hn, ok, hd, ht, ht2, q⟩ := h
  refine ⟨_, (pss_cons (ps_expr (pe_call G_need_net (hr.mono (by decide)) (by rfl) T.need_net.g T.need_net.F.kp T.need_net.b .nil pass0 (pa_cons (pv 0) pa_nil)))
      (pss_cons (ps_if (PW.pt (pw_or (pt_not (pt_val (pe_callB call_isi (by rfl) T.n_isinstance (by decide +kernel) (pa_cons (pv 1) (pa_cons (pe_bltn (v := .ty "list") (by rfl) T.n_list (by decide +kernel) rfl) pa_nil))))) (pw_or1 (pt_cmpR op_gt (pe_callB call_len_seq (by rfl) T.n_len (by decide +kernel) (pa_cons (pv 1) pa_nil)) (pe_glob (v := .int 40) rfl T.c_MOST_KINDLINGS.choose_spec ⟨_, rfl⟩) (nomark _))))) (pss_one (ps_ret pe_bl)) pss_nil)
      (pss_cons (ps_set (i := 2) sc_are_kindlings.nd rfl (by first | exact .inl rfl | exact .inr rfl) (pe_callB call_len_seq (by rfl) T.n_len (by decide +kernel) (pa_cons (pv 0) pa_nil)))
      (pss_one (ps_ret (pe_allQ (k := 1) (hr.mono (by decide)) (by rfl) T.n_all TB2 rfl ⟨rfl, rfl, by decide +kernel, by decide +kernel, by decide +kernel, free_by (by decide +kernel)⟩ (pv 1) (fun _ => rfl))))))), ?_⟩
  refine ⟨v, rfl, S, v, N, rfl, hn, ok, ht, fun Ha ka => ?_⟩
  have noS : ∀ {x : Addr}, x ∈ ([] : List Addr) → x ∈ S := fun z => by cases z
  have hna := hn.kp ka fun _ => noS
  have hda := hd.kp ka fun _ => noS
  have ht2a := ka.tab _ ht2
  obtain ⟨ad, xs0, rfl, _, hx0, hl0, _⟩ := net_at hna
  have hk : PySem.W.kitOne K (.type (kname d)) (.type "list") = some (kindB d "list") := kit_data (by decide)
  refine ⟨u, rfl, u, .ty "list", _, _, _, rfl, .ty _, tyx_of hda, hk, _, rfl, ?_⟩
  cases z : kindB d "list" with
  | false =>
    have e : sparksB N.length d = false := by cases d <;> first | rfl | cases z
    have := q Ha ka
    rw [e] at this
    exact iteT (iteT this)
  | true =>
    refine iteF ?_
    cases hda with
    | @lst la xs ds n h r =>
      have hl : (xs.length : Int) = (ds.length : Int) := by rw [r.len]
      have e0 : sparksB N.length (.list ds) = (!decide ((40 : Int) < (ds.length : Int)) && (ds.map (sparkB N.length)).all id) := rfl
      refine ⟨.ref la, rfl, la, xs, rfl, .inl (SqL.of h), ?_⟩
      rw [hl]
      refine ⟨_, _, rfl, rfl, _, rfl, ?_⟩
      cases z2 : decide ((40 : Int) < (ds.length : Int)) with
      | true =>
        have := q Ha ka
        rw [e0, z2] at this
        exact iteT this
      | false =>
        refine iteF ⟨.ref ad, rfl, ad, xs0, rfl, .inr (SqT.of hx0), ?_⟩
        rw [show (xs0.length : Int) = (N.length : Int) by rw [hl0]]
        refine ⟨.ref la, rfl, la, xs, ds.map (sparkB N.length), [("many", .int N.length)], rfl, .inr (SqL.of h), ht2a, fun y vy hy => ?_, ⟨by rw [List.length_map, r.len], fun hd env OK hsc j xv b hx hb => ?_⟩, fun H2 hT => ?_⟩
        · by_cases ey : y = "many"
          · subst ey
            have e2 : V.int N.length = vy := by simpa [List.lookup] using hy
            subst e2
            exact ⟨by decide, by decide +kernel, by decide +kernel, 2, rfl, rfl, (by decide +kernel : (defScope s_are_kindlings).names.lookup _ = some .cell)⟩
          · have ey' : (y == ("many" : Str)) = false := by simpa using ey
            simp [List.lookup, ey'] at hy
        · obtain ⟨dj, hdj, hxv⟩ := r.get hx
          rw [List.getElem?_map, hdj] at hb
          cases hb
          have OT : Tx (Qc.mk P w K mg (wipe Ha a.tb_are_kindlings) hd).K (Qc.mk P w K mg (wipe Ha a.tb_are_kindlings) hd).mg a := T
          have hw : Dx S (wipe Ha a.tb_are_kindlings) xv dj := hxv.wiped ht2a
          refine q_call OK (qf_is_kindling_of_many OK OT hw) T.is_kindling_of_many.b rfl ?_ T.is_kindling_of_many.g T.is_kindling_of_many.F.kp (qa_cons (q_name rfl) (qa_cons (q_name rfl) qa_nil))
          show env.scope.names.lookup _ = _
          rw [hsc]
          decide +kernel
        · have := q H2 (ka.tr (Kp.tabbed ht2a hT))
          rw [e0, z2] at this
          exact this
    | non => cases z
    | bl b => cases z
    | int i => cases z
    | str y => cases z
    | tup n h r => cases z
    | dic n h => cases z
end

/-! ### the law's own: which are nets -/
section
variable {P : Program} {w : World} {K : PySem.W.Frag} {mg : Str → Option Value} {base : Heap} {a : Ad}
def wholeB (low : Int) : PyData → Bool
  | .int i => decide (low ≤ i)
  | _ => false
def spWhole : Sp := fun vs H Q _ => ∃ (S : List Addr) (v : V) (d : PyData) (low : Int), vs = [v, .int low] ∧ Dx S H v d ∧ Q (.bl (wholeB low d)) H
theorem ok_law_whole (T : Tx K mg a) : FnOk P w K mg base CX0 1 a.a_law_whole a.f_law_whole ["what", "low"] spWhole := by
  refine T.law_whole.F.ok sc_law_whole (fun vs H Q E h => ?_) (fun cdv A outer s H vs Q E hr h => ?_)
  · obtain ⟨S, v, d, low, rfl, _⟩ := h
    rfl
  obtain ⟨S, v, d, low, rfl, hd, q⟩ := h
  refine ⟨_, (pss_one (ps_ret (pe_and (pe_callB call_isi (by rfl) T.n_isinstance (by decide +kernel) (pa_cons (pv 0) (pa_cons (pe_bltn (v := .ty "int") (by rfl) T.n_int (by decide +kernel) rfl) pa_nil))) (pe_and (pe_not (pe_callB call_isi (by rfl) T.n_isinstance (by decide +kernel) (pa_cons (pv 0) (pa_cons (pe_bltn (v := .ty "bool") (by rfl) T.n_bool (by decide +kernel) rfl) pa_nil)))) (pe_one (pe_cmpR op_le (pv 1) (pv 0) (nomark _))))))), ?_⟩
  have h1 : PySem.W.kitOne K (.type (kname d)) (.type "int") = some (kindB d "int") := kit_data (by decide)
  have h2 : PySem.W.kitOne K (.type (kname d)) (.type "bool") = some (kindB d "bool") := kit_data (by decide)
  refine ⟨v, rfl, v, .ty "int", _, _, _, rfl, .ty _, tyx_of hd, h1, ?_⟩
  cases z1 : kindB d "int" with
  | false =>
    have e : wholeB low d = false := by cases d <;> first | rfl | cases z1
    rw [e] at q
    exact ⟨_, rfl, iteF q⟩
  | true =>
    refine ⟨_, rfl, iteT ⟨v, rfl, v, .ty "bool", _, _, _, rfl, .ty _, tyx_of hd, h2, ?_⟩⟩
    cases hd with
    | bl b => exact ⟨_, rfl, _, rfl, iteF q⟩
    | int i => exact ⟨_, rfl, _, rfl, iteT ⟨.int low, rfl, .int i, rfl, low, i, rfl, rfl, q⟩⟩
    | non => cases z1
    | str y => cases z1
    | lst n h r => cases z1
    | tup n h r => cases z1
    | dic n h => cases z1
def spIsMesh : Sp := fun vs H Q _ => ∃ (S : List Addr) (v : V) (d : PyData), vs = [v] ∧ Dx S H v d ∧ Q (.bl (netB d)) H
theorem ok_law_is_mesh (T : Tx K mg a) : FnOk P w K mg base CX0 2 a.a_law_is_mesh a.f_law_is_mesh ["what"] spIsMesh := by
  have G_law_whole := ok_law_whole (P := P) (w := w) (base := base) T
  refine T.law_is_mesh.F.ok sc_law_is_mesh (fun vs H Q E h => ?_) (fun cdv A outer s H vs Q E hr h => ?_)
  · obtain ⟨S, v, d, rfl, _⟩ := h
    rfl
  obtain ⟨S, v, d, rfl, hd, q⟩ := h
  refine ⟨_, (pss_cons (ps_if (PW.pt (pw_or (pt_not (pt_val (pe_callB call_isi (by rfl) T.n_isinstance (by decide +kernel) (pa_cons (pv 0) (pa_cons (pe_bltn (v := .ty "tuple") (by rfl) T.n_tuple (by decide +kernel) rfl) pa_nil))))) (pw_or (pt_cmpR op_lt (pe_callB call_len_seq (by rfl) T.n_len (by decide +kernel) (pa_cons (pv 0) pa_nil)) pe_int (nomark _)) (pw_or1 (pt_cmpR op_gt (pe_callB call_len_seq (by rfl) T.n_len (by decide +kernel) (pa_cons (pv 0) pa_nil)) pe_int (nomark _)))))) (pss_one (ps_ret pe_bl)) pss_nil)
      (pss_cons (ps_for PassesOwn.never rfl (pi_tup (pv 0)) (pg_name (i := 1) sc_law_is_mesh.nd rfl (by first | exact .inl rfl | exact .inr rfl)) (pss_cons (ps_if (PW.pt (pw_or (pt_not (pt_val (pe_callB call_isi (by rfl) T.n_isinstance (by decide +kernel) (pa_cons (pv 1) (pa_cons (pe_bltn (v := .ty "tuple") (by rfl) T.n_tuple (by decide +kernel) rfl) pa_nil))))) (pw_or (pt_cmpR op_ne (pe_callB call_len_seq (by rfl) T.n_len (by decide +kernel) (pa_cons (pv 1) pa_nil)) pe_int (nomark _)) (pw_or1 (pt_not (pt_val (pe_call G_law_whole (hr.mono (by decide)) (by rfl) T.law_whole.g T.law_whole.F.kp T.law_whole.b .nil pass0 (pa_cons (pe_ix ix_tup (pv 1) pe_int (fun _ _ => rfl)) (pa_cons pe_int pa_nil))))))))) (pss_one (ps_ret pe_bl)) pss_nil)
      (pss_one (ps_if (PW.pt (pw_and (pt_cmpR op_notN (pe_ix ix_tup (pv 1) pe_int (fun _ _ => rfl)) pe_non (nomark _)) (pw_and1 (PW.pt (pw_or (pt_not (pt_val (pe_call G_law_whole (hr.mono (by decide)) (by rfl) T.law_whole.g T.law_whole.F.kp T.law_whole.b .nil pass0 (pa_cons (pe_ix ix_tup (pv 1) pe_int (fun _ _ => rfl)) (pa_cons pe_int pa_nil))))) (pw_or1 (pt_cmpR op_ge (pe_ix ix_tup (pv 1) pe_int (fun _ _ => rfl)) (pe_callB call_len_seq (by rfl) T.n_len (by decide +kernel) (pa_cons (pv 0) pa_nil)) (nomark _)))))))) (pss_one (ps_ret pe_bl)) pss_nil))))
      (pss_one (ps_ret pe_bl)))), ?_⟩
  have h1 : PySem.W.kitOne K (.type (kname d)) (.type "tuple") = some (kindB d "tuple") := kit_data (by decide)
  refine ⟨v, rfl, v, .ty "tuple", _, _, _, rfl, .ty _, tyx_of hd, h1, _, rfl, ?_⟩
  cases z : kindB d "tuple" with
  | false =>
    refine iteT (iteT ?_)
    have e : netB d = false := by cases d <;> first | rfl | cases z
    rw [e] at q
    exact q
  | true =>
    refine iteF ?_
    cases hd with
    | @tup ad xs ds n h r =>
      have hl : (xs.length : Int) = (ds.length : Int) := by rw [r.len]
      have e0 : netB (.tuple ds) = (!decide ((ds.length : Int) < 1) && !decide ((12 : Int) < (ds.length : Int)) && (ds.map (lampB ds.length)).all id) := rfl
      refine ⟨.ref ad, rfl, ad, xs, rfl, .inr (SqT.of h), ?_⟩
      rw [hl]
      refine ⟨_, _, rfl, rfl, _, rfl, ?_⟩
      cases z1 : decide ((ds.length : Int) < 1) with
      | true =>
        rw [e0, z1] at q
        exact iteT (iteT q)
      | false =>
        refine iteF ⟨.ref ad, rfl, ad, xs, rfl, .inr (SqT.of h), ?_⟩
        rw [hl]
        refine ⟨_, _, rfl, rfl, _, rfl, ?_⟩
        cases z2 : decide ((12 : Int) < (ds.length : Int)) with
        | true =>
          rw [e0, z1, z2] at q
          exact iteT q
        | false =>
          rw [e0, z1, z2] at q
          refine iteF ?_
          -- for one in what
          have bad : ∀ (i : Nat) (d : PyData), ds[i]? = some d → lampB ds.length d = false → Q (.bl false) H := fun i d hi hb => by
            have : (ds.map (lampB ds.length)).all id = false := by
              rw [List.all_eq_false]
              exact ⟨false, List.mem_map.mpr ⟨d, List.mem_of_getElem? hi, hb⟩, by simp⟩
            rw [this] at q
            exact q
          refine ⟨.ref ad, rfl, ad, rfl, ⟨_, SqT.of h⟩, for_tup (xs := xs) (fun i σ H' => ∃ o1, σ = [some (.ref ad), o1] ∧ H' = H ∧ (ds.take i).all (lampB ds.length) = true) ⟨none, rfl, rfl, rfl⟩ (fun i σ H' _ hP => ?_) (fun i x σ H' hx hP => ?_) (fun σ H' hP => ?_)⟩
          · obtain ⟨_, _, rfl, _⟩ := hP
            exact SqT.of h
          · obtain ⟨o1, rfl, rfl, hall⟩ := hP
            obtain ⟨d, hdi, hxd⟩ := r.get hx
            have next : lampB ds.length d = true → ∃ o1, [some (V.ref ad), some x] = [some (V.ref ad), o1] ∧ H' = H' ∧ (ds.take (i + 1)).all (lampB ds.length) = true := fun e => ⟨_, rfl, rfl, by
              rw [List.take_add_one, hdi, List.all_append, hall]
              simp [e]⟩
            have hk : PySem.W.kitOne K (.type (kname d)) (.type "tuple") = some (kindB d "tuple") := kit_data (by decide)
            refine ⟨x, rfl, x, .ty "tuple", _, _, _, rfl, .ty _, tyx_of hxd, hk, _, rfl, ?_⟩
            cases w1 : kindB d "tuple" with
            | false =>
              have e : lampB ds.length d = false := by cases d <;> first | rfl | cases w1
              exact iteT (iteT (bad i d hdi e))
            | true =>
              refine iteF ?_
              cases hxd with
              | @tup la ys es m hh rr =>
                have ll : (ys.length : Int) = (es.length : Int) := by rw [rr.len]
                refine ⟨.ref la, rfl, la, ys, rfl, .inr (SqT.of hh), ?_⟩
                rw [ll]
                refine ⟨rfl, _, rfl, ?_⟩
                match es, rr with
                | [], .nil => exact iteT (bad i _ hdi rfl)
                | [_], .cons _ .nil => exact iteT (bad i _ hdi rfl)
                | e1 :: e2 :: e3 :: et, .cons _ (.cons _ (.cons _ _)) =>
                  have hne : decide (V.int ((e1 :: e2 :: e3 :: et).length : Nat) = V.int 2) = false := decide_eq_false fun z => by
                    have := V.int.inj z
                    simp only [List.length_cons] at this
                    omega
                  rw [hne]
                  exact iteT (bad i _ hdi rfl)
                | [l, o], @DxA.cons _ _ vl _ _ _ hl_ (@DxA.cons _ _ vo _ _ _ ho_ .nil) =>
                  refine iteF ⟨.ref la, rfl, la, _, 0, vl, rfl, rfl, SqT.of hh, atI_nat (j := 0) rfl, S, vl, l, 1, rfl, hl_, _, rfl, ?_⟩
                  have eL : lampB ds.length (.tuple [l, o]) = (wholeB 1 l && nxB ds.length o) := by
                    show (lenB l && _) = _
                    have : lenB l = wholeB 1 l := by
                      cases l <;> first | rfl | skip
                      rename_i i
                      show (!decide (i < 1)) = decide (1 ≤ i)
                      by_cases hi : i < 1
                      · rw [decide_eq_true hi, decide_eq_false (by omega)]; rfl
                      · rw [decide_eq_false hi, decide_eq_true (by omega)]; rfl
                    rw [this]
                  cases wl : wholeB 1 l with
                  | false => exact iteT (bad i _ hdi (by rw [eL, wl]; rfl))
                  | true =>
                    rw [wl] at eL
                    refine iteF ⟨.ref la, rfl, la, _, 1, vo, rfl, rfl, SqT.of hh, atI_nat (j := 1) rfl, rfl, _, rfl, ?_⟩
                    by_cases hvo : vo = .non
                    · subst hvo
                      cases ho_
                      rw [decide_eq_true (Eq.refl V.non)]
                      exact iteF (next eL)
                    · rw [decide_eq_false hvo]
                      refine iteT ⟨.ref la, rfl, la, _, 1, vo, rfl, rfl, SqT.of hh, atI_nat (j := 1) rfl, S, vo, o, 0, rfl, ho_, _, rfl, ?_⟩
                      cases wo : wholeB 0 o with
                      | false =>
                        have e : nxB ds.length o = false := by
                          cases o with
                          | none => cases ho_; exact absurd rfl hvo
                          | int j =>
                            have : ¬ (0 : Int) ≤ j := of_decide_eq_false wo
                            show (decide ((0 : Int) ≤ j) && _) = false
                            rw [decide_eq_false this]; rfl
                          | bool _ => rfl
                          | str _ => rfl
                          | list _ => rfl
                          | tuple _ => rfl
                          | dict _ => rfl
                        exact iteT (bad i _ hdi (by rw [eL, e]; rfl))
                      | true =>
                        obtain ⟨j, rfl⟩ : ∃ j, o = .int j := by
                          cases o <;> first | exact ⟨_, rfl⟩ | cases wo
                        cases ho_
                        refine iteF ⟨.ref la, rfl, la, _, 1, .int j, rfl, rfl, SqT.of hh, atI_nat (j := 1) rfl, .ref ad, rfl, ad, xs, rfl, .inr (SqT.of h), ?_⟩
                        rw [hl]
                        refine ⟨_, _, rfl, rfl, _, rfl, ?_⟩
                        have hj : (0 : Int) ≤ j := of_decide_eq_true wo
                        have e : nxB ds.length (.int j) = decide (j < (ds.length : Int)) := by
                          show (decide ((0 : Int) ≤ j) && decide (j < (ds.length : Int))) = _
                          rw [decide_eq_true hj]; rfl
                        by_cases hjm : (ds.length : Int) ≤ j
                        · rw [decide_eq_true hjm]
                          exact iteT (bad i _ hdi (by rw [eL, e, decide_eq_false (by omega)]; rfl))
                        · rw [decide_eq_false hjm]
                          exact iteF (next (by rw [eL, e, decide_eq_true (by omega)]; rfl))
              | non => cases w1
              | bl b => cases w1
              | int i => cases w1
              | str y => cases w1
              | lst n h r => cases w1
              | dic n h => cases w1
          · obtain ⟨_, rfl, rfl, hall⟩ := hP
            have : (ds.map (lampB ds.length)).all id = true := by
              rw [r.len, List.take_length] at hall
              rw [List.all_map]
              exact hall
            rw [this] at q
            exact q
    | non => cases z
    | bl b => cases z
    | int i => cases z
    | str y => cases z
    | lst n h r => cases z
    | dic n h => cases z
end

/-! ### the law's own: which are kindlings; kindlings drawn -/
section
variable {P : Program} {w : World} {K : PySem.W.Frag} {mg : Str → Option Value} {base : Heap} {a : Ad}
def spAreS : Sp := fun vs H Q _ => ∃ (S : List Addr) (v u : V) (N : Net) (d : PyData), vs = [v, u] ∧ Dx S H v (netD N) ∧ Dx S H u d ∧ Q (.bl (sparksB N.length d)) H
theorem ok_law_are_sparks (T : Tx K mg a) : FnOk P w K mg base CX0 2 a.a_law_are_sparks a.f_law_are_sparks ["mesh", "what"] spAreS := by
  have G_law_whole := ok_law_whole (P := P) (w := w) (base := base) T
  refine T.law_are_sparks.F.ok sc_law_are_sparks (fun vs H Q E h => ?_) (fun cdv A outer s H vs Q E hr h => ?_)
  · obtain ⟨S, v, u, N, d, rfl, _⟩ := h
    rfl
  obtain ⟨S, v, u, N, d, rfl, hn, hd, q⟩ := h
  refine ⟨_, (pss_cons (ps_if (PW.pt (pw_or (pt_not (pt_val (pe_callB call_isi (by rfl) T.n_isinstance (by decide +kernel) (pa_cons (pv 1) (pa_cons (pe_bltn (v := .ty "list") (by rfl) T.n_list (by decide +kernel) rfl) pa_nil))))) (pw_or1 (pt_cmpR op_gt (pe_callB call_len_seq (by rfl) T.n_len (by decide +kernel) (pa_cons (pv 1) pa_nil)) pe_int (nomark _))))) (pss_one (ps_ret pe_bl)) pss_nil)
      (pss_cons (ps_for PassesOwn.never rfl (pi_list (pv 1)) (pg_name (i := 2) sc_law_are_sparks.nd rfl (by first | exact .inl rfl | exact .inr rfl)) (pss_cons (ps_if (PW.pt (pw_or (pt_not (pt_val (pe_callB call_isi (by rfl) T.n_isinstance (by decide +kernel) (pa_cons (pv 2) (pa_cons (pe_bltn (v := .ty "tuple") (by rfl) T.n_tuple (by decide +kernel) rfl) pa_nil))))) (pw_or (pt_cmpR op_ne (pe_callB call_len_seq (by rfl) T.n_len (by decide +kernel) (pa_cons (pv 2) pa_nil)) pe_int (nomark _)) (pw_or1 (pt_not (pt_val (pe_call G_law_whole (hr.mono (by decide)) (by rfl) T.law_whole.g T.law_whole.F.kp T.law_whole.b .nil pass0 (pa_cons (pe_ix ix_tup (pv 2) pe_int (fun _ _ => rfl)) (pa_cons pe_int pa_nil))))))))) (pss_one (ps_ret pe_bl)) pss_nil)
      (pss_one (ps_if (PW.pt (pw_or (pt_not (pt_val (pe_call G_law_whole (hr.mono (by decide)) (by rfl) T.law_whole.g T.law_whole.F.kp T.law_whole.b .nil pass0 (pa_cons (pe_ix ix_tup (pv 2) pe_int (fun _ _ => rfl)) (pa_cons pe_int pa_nil))))) (pw_or1 (pt_cmpR op_ge (pe_ix ix_tup (pv 2) pe_int (fun _ _ => rfl)) (pe_callB call_len_seq (by rfl) T.n_len (by decide +kernel) (pa_cons (pv 0) pa_nil)) (nomark _))))) (pss_one (ps_ret pe_bl)) pss_nil))))
      (pss_one (ps_ret pe_bl)))), ?_⟩
  obtain ⟨am, xm, rfl, _, hxm, hlm, _⟩ := net_at hn
  have h1 : PySem.W.kitOne K (.type (kname d)) (.type "list") = some (kindB d "list") := kit_data (by decide)
  refine ⟨u, rfl, u, .ty "list", _, _, _, rfl, .ty _, tyx_of hd, h1, _, rfl, ?_⟩
  cases z : kindB d "list" with
  | false =>
    refine iteT (iteT ?_)
    have e : sparksB N.length d = false := by cases d <;> first | rfl | cases z
    rw [e] at q
    exact q
  | true =>
    refine iteF ?_
    cases hd with
    | @lst ad xs ds n h r =>
      have hl : (xs.length : Int) = (ds.length : Int) := by rw [r.len]
      have e0 : sparksB N.length (.list ds) = (!decide ((40 : Int) < (ds.length : Int)) && (ds.map (sparkB N.length)).all id) := rfl
      refine ⟨.ref ad, rfl, ad, xs, rfl, .inl (SqL.of h), ?_⟩
      rw [hl]
      refine ⟨_, _, rfl, rfl, _, rfl, ?_⟩
      cases z2 : decide ((40 : Int) < (ds.length : Int)) with
      | true =>
        rw [e0, z2] at q
        exact iteT q
      | false =>
        rw [e0, z2] at q
        refine iteF ?_
        have bad : ∀ (i : Nat) (d : PyData), ds[i]? = some d → sparkB N.length d = false → Q (.bl false) H := fun i d hi hb => by
          have : (ds.map (sparkB N.length)).all id = false := by
            rw [List.all_eq_false]
            exact ⟨false, List.mem_map.mpr ⟨d, List.mem_of_getElem? hi, hb⟩, by simp⟩
          rw [this] at q
          exact q
        refine ⟨.ref ad, rfl, ad, rfl, ⟨_, SqL.of h⟩, for_list (xs := xs) (fun i σ H' => ∃ o1, σ = [some (.ref am), some (.ref ad), o1] ∧ H' = H ∧ (ds.take i).all (sparkB N.length) = true) ⟨none, rfl, rfl, rfl⟩ (fun i σ H' _ hP => ?_) (fun i x σ H' hx hP => ?_) (fun σ H' hP => ?_)⟩
        · obtain ⟨_, _, rfl, _⟩ := hP
          exact SqL.of h
        · obtain ⟨o1, rfl, rfl, hall⟩ := hP
          obtain ⟨d, hdi, hxd⟩ := r.get hx
          have next : sparkB N.length d = true → ∃ o1, [some (V.ref am), some (V.ref ad), some x] = [some (V.ref am), some (V.ref ad), o1] ∧ H' = H' ∧ (ds.take (i + 1)).all (sparkB N.length) = true := fun e => ⟨_, rfl, rfl, by
            rw [List.take_add_one, hdi, List.all_append, hall]
            simp [e]⟩
          have hk : PySem.W.kitOne K (.type (kname d)) (.type "tuple") = some (kindB d "tuple") := kit_data (by decide)
          refine ⟨x, rfl, x, .ty "tuple", _, _, _, rfl, .ty _, tyx_of hxd, hk, _, rfl, ?_⟩
          cases w1 : kindB d "tuple" with
          | false =>
            have e : sparkB N.length d = false := by cases d <;> first | rfl | cases w1
            exact iteT (iteT (bad i d hdi e))
          | true =>
            refine iteF ?_
            cases hxd with
            | @tup la ys es m hh rr =>
              have ll : (ys.length : Int) = (es.length : Int) := by rw [rr.len]
              refine ⟨.ref la, rfl, la, ys, rfl, .inr (SqT.of hh), ?_⟩
              rw [ll]
              refine ⟨rfl, _, rfl, ?_⟩
              match es, rr with
              | [], .nil => exact iteT (bad i _ hdi rfl)
              | [_], .cons _ .nil => exact iteT (bad i _ hdi rfl)
              | e1 :: e2 :: e3 :: et, .cons _ (.cons _ (.cons _ _)) =>
                have hne : decide (V.int ((e1 :: e2 :: e3 :: et).length : Nat) = V.int 2) = false := decide_eq_false fun z => by
                  have := V.int.inj z
                  simp only [List.length_cons] at this
                  omega
                rw [hne]
                exact iteT (bad i _ hdi rfl)
              | [l, o], @DxA.cons _ _ vl _ _ _ hl_ (@DxA.cons _ _ vo _ _ _ ho_ .nil) =>
                refine iteF ⟨.ref la, rfl, la, _, 0, vl, rfl, rfl, SqT.of hh, atI_nat (j := 0) rfl, S, vl, l, 0, rfl, hl_, _, rfl, ?_⟩
                have eL : sparkB N.length (.tuple [l, o]) = (wholeB 0 l && numB N.length o) := by
                  show (beatB l && _) = _
                  have : beatB l = wholeB 0 l := by
                    cases l <;> first | rfl | skip
                    rename_i i
                    show (!decide (i < 0)) = decide (0 ≤ i)
                    by_cases hi : i < 0
                    · rw [decide_eq_true hi, decide_eq_false (by omega)]; rfl
                    · rw [decide_eq_false hi, decide_eq_true (by omega)]; rfl
                  rw [this]
                cases wl : wholeB 0 l with
                | false => exact iteT (bad i _ hdi (by rw [eL, wl]; rfl))
                | true =>
                  rw [wl] at eL
                  refine iteF ⟨.ref la, rfl, la, _, 1, vo, rfl, rfl, SqT.of hh, atI_nat (j := 1) rfl, S, vo, o, 0, rfl, ho_, _, rfl, ?_⟩
                  cases wo : wholeB 0 o with
                  | false =>
                    have e : numB N.length o = false := by
                      cases o with
                      | int j =>
                        have : ¬ (0 : Int) ≤ j := of_decide_eq_false wo
                        show (decide ((0 : Int) ≤ j) && _) = false
                        rw [decide_eq_false this]; rfl
                      | none => rfl
                      | bool _ => rfl
                      | str _ => rfl
                      | list _ => rfl
                      | tuple _ => rfl
                      | dict _ => rfl
                    exact iteT (iteT (bad i _ hdi (by rw [eL, e]; rfl)))
                  | true =>
                    obtain ⟨j, rfl⟩ : ∃ j, o = .int j := by
                      cases o <;> first | exact ⟨_, rfl⟩ | cases wo
                    cases ho_
                    refine iteF ⟨.ref la, rfl, la, _, 1, .int j, rfl, rfl, SqT.of hh, atI_nat (j := 1) rfl, .ref am, rfl, am, xm, rfl, .inr (SqT.of hxm), ?_⟩
                    rw [show (xm.length : Int) = (N.length : Int) by rw [hlm]]
                    refine ⟨_, _, rfl, rfl, _, rfl, ?_⟩
                    have hj : (0 : Int) ≤ j := of_decide_eq_true wo
                    have e : numB N.length (.int j) = decide (j < (N.length : Int)) := by
                      show (decide ((0 : Int) ≤ j) && decide (j < (N.length : Int))) = _
                      rw [decide_eq_true hj]; rfl
                    by_cases hjm : (N.length : Int) ≤ j
                    · rw [decide_eq_true hjm]
                      exact iteT (bad i _ hdi (by rw [eL, e, decide_eq_false (by omega)]; rfl))
                    · rw [decide_eq_false hjm]
                      exact iteF (next (by rw [eL, e, decide_eq_true (by omega)]; rfl))
            | non => cases w1
            | bl b => cases w1
            | int i => cases w1
            | str y => cases w1
            | lst n h r => cases w1
            | dic n h => cases w1
        · obtain ⟨_, rfl, rfl, hall⟩ := hP
          have : (ds.map (sparkB N.length)).all id = true := by
            rw [r.len, List.take_length] at hall
            rw [List.all_map]
            exact hall
          rw [this] at q
          exact q
    | non => cases z
    | bl b => cases z
    | int i => cases z
    | str y => cases z
    | tup n h r => cases z
    | dic n h => cases z
def spSparks : Sp := fun vs H Q _ => ∃ (p : Addr) (v : V) (N : Net) (n : Nat), vs = [.ref p, v] ∧ Wick H p n ∧ n < 90000 ∧ Dx [p] H v (netD N) ∧ NetOk N ∧ ∀ u H' L, SpOk N.length L → Dx [p] H' u (sparksD L) → Kp [p] H H' → Wick H' p (n + 200) → Q u H'
theorem ok_law_sparks (T : Tx K mg a) : FnOk P w K mg base CX0 2 a.a_law_sparks a.f_law_sparks ["wick", "mesh"] spSparks := by
  have G_law_pick := ok_law_pick (P := P) (w := w) (base := base) T
  refine T.law_sparks.F.ok sc_law_sparks (fun vs H Q E h => ?_) (fun cdv A outer s H vs Q E hr h => ?_)
  · obtain ⟨p, v, N, n, rfl, _⟩ := h
    rfl
  obtain ⟨p, v, N, n, rfl, hw, hn, hd, okN, q⟩ := h
  refine ⟨_, (pss_cons (ps_set (i := 2) sc_law_sparks.nd rfl (by first | exact .inl rfl | exact .inr rfl) (pe_ix ix_list (pe_lst (pa_cons (pe_call G_law_pick (hr.mono (by decide)) (by rfl) T.law_pick.g T.law_pick.F.kp T.law_pick.b .nil pass0 (pa_cons (pv 0) (pa_cons pe_int pa_nil))) (pa_cons (pe_call G_law_pick (hr.mono (by decide)) (by rfl) T.law_pick.g T.law_pick.F.kp T.law_pick.b .nil pass0 (pa_cons (pv 0) (pa_cons pe_int pa_nil))) (pa_cons pe_int (pa_cons pe_int pa_nil))))) (pe_call G_law_pick (hr.mono (by decide)) (by rfl) T.law_pick.g T.law_pick.F.kp T.law_pick.b .nil pass0 (pa_cons (pv 0) (pa_cons pe_int pa_nil))) (fun _ _ => rfl)))
      (pss_cons (ps_set (i := 3) sc_law_sparks.nd rfl (by first | exact .inl rfl | exact .inr rfl) (pe_lst pa_nil))
      (pss_cons (ps_for PassesOwn.never rfl (pi_range1 (by rfl) T.n_range (pa_cons (pv 2) pa_nil)) (pg_name (i := 4) sc_law_sparks.nd rfl (by first | exact .inl rfl | exact .inr rfl)) (pss_cons (ps_set (i := 5) sc_law_sparks.nd rfl (by first | exact .inl rfl | exact .inr rfl) (pe_ix ix_list (pe_lst (pa_cons pe_int (pa_cons (pe_call G_law_pick (hr.mono (by decide)) (by rfl) T.law_pick.g T.law_pick.F.kp T.law_pick.b .nil pass0 (pa_cons (pv 0) (pa_cons pe_int pa_nil))) (pa_cons (pe_call G_law_pick (hr.mono (by decide)) (by rfl) T.law_pick.g T.law_pick.F.kp T.law_pick.b .nil pass0 (pa_cons (pv 0) (pa_cons (pe_op op_powW pe_int pe_int) pa_nil))) (pa_cons (pe_op op_sub (pe_op op_powW pe_int pe_int) pe_int) pa_nil))))) (pe_call G_law_pick (hr.mono (by decide)) (by rfl) T.law_pick.g T.law_pick.F.kp T.law_pick.b .nil pass0 (pa_cons (pv 0) (pa_cons pe_int pa_nil))) (fun _ _ => rfl)))
      (pss_one (ps_expr (pe_bm PySem.F.plainAttrs_list PySem.F.slot_list_append PySem.F.type_list_append mt_append (pv 3) (pa_cons (pe_tup (pa_cons (pv 5) (pa_cons (pe_call G_law_pick (hr.mono (by decide)) (by rfl) T.law_pick.g T.law_pick.F.kp T.law_pick.b .nil pass0 (pa_cons (pv 0) (pa_cons (pe_callB call_len_seq (by rfl) T.n_len (by decide +kernel) (pa_cons (pv 1) pa_nil)) pa_nil))) pa_nil))) pa_nil))))))
      (pss_one (ps_ret (pv 3)))))), ?_⟩
  have hlo := okN.lo
  have hhi := okN.hi
  -- many
  refine ⟨.ref p, rfl, p, 5, n, rfl, by decide, by decide, hw, by omega, fun r1 H1 a1 b1 k1 w1 => ?_⟩
  refine ⟨.ref p, rfl, p, 41, n + 1, rfl, by decide, by decide, w1, by omega, fun r2 H2 a2 b2 k2 w2 => ?_⟩
  refine ⟨by show 4 ≤ sizeLine; decide, fun l nl => ?_⟩
  have hlp : l ∉ [p] := by
    have : p ≠ l := fun e => w2.tr (e ▸ nl)
    simpa using this.symm
  refine ⟨.ref p, rfl, p, 4, n + 2, rfl, by decide, by decide, w2.kp (Kp.new (S := []) nl) (by simp), by omega, fun r3 H3 a3 b3 k3 w3 => ?_⟩
  obtain ⟨mv, hv, hm⟩ := at_mem (xs := [.int r1, .int r2, .int 40, .int 0]) a3 (by simpa using b3)
  refine ⟨l, _, r3, mv, rfl, rfl, SqL.of (k3.lst hlp upd_same), hv, ?_⟩
  have kH3 : Kp [p] H H3 := k1.tr (k2.tr ((Kp.new nl).tr k3))
  obtain ⟨m, rfl, hm2⟩ : ∃ m : Nat, mv = .int (m : Int) ∧ m ≤ 40 := by
    simp only [List.mem_cons, List.not_mem_nil, or_false] at hm
    rcases hm with rfl | rfl | rfl | rfl
    · exact ⟨r1.toNat, by congr 1; omega, by omega⟩
    · exact ⟨r2.toNat, by congr 1; omega, by omega⟩
    · exact ⟨40, rfl, by decide⟩
    · exact ⟨0, rfl, by decide⟩
  -- found = []
  refine ⟨Nat.zero_le _, fun fp nf => ?_⟩
  obtain ⟨H5, e5⟩ : ∃ H5, H5 = upd H3 fp (.lst []) := ⟨_, rfl⟩
  rw [← e5]
  have k5 : Kp [] H3 H5 := e5 ▸ Kp.new nf
  have hf5 : H5 fp = some (.lst []) := by rw [e5]; exact upd_same
  have w5 := w3.kp k5 (by simp)
  have hfp : fp ∉ [p] := by
    have : p ≠ fp := fun e => w3.tr (e ▸ nf)
    simpa using this.symm
  have hpf : p ∉ [fp] := by
    have : p ≠ fp := fun e => hfp (by simp [e])
    simpa using this
  have hd3 := hd.kp kH3 fun _ z => z
  have hd5 : Dx [fp, p] H5 v (netD N) := (hd3.ap nf).kp k5 fun _ z => by cases z
  have hS5 : ∀ s ∈ [fp, p], H5 s ≠ none := fun s z => by
    simp only [List.mem_cons, List.not_mem_nil, or_false] at z
    rcases z with rfl | rfl
    · rw [hf5]; exact fun q => by cases q
    · exact w5.tr
  have memP : ∀ {x : Addr}, x ∈ [p] → x ∈ [fp, p] := fun z => List.mem_cons_of_mem _ z
  have memF : ∀ {x : Addr}, x ∈ [fp] → x ∈ [fp, p] := fun z => by
    obtain rfl := List.mem_singleton.mp z
    exact List.mem_cons_self
  have mem0 : ∀ {x : Addr}, x ∈ ([] : List Addr) → x ∈ [fp, p] := fun z => by cases z
  obtain ⟨ad, xs, rfl, _, hx5, hl5, _⟩ := net_at hd5
  refine ⟨.int m, rfl, m, rfl, by omega, by omega, for_range (n := m) (fun i σ H' => ∃ (o4 o5 : Option V) (vs : List V) (L : Sparks), σ = [some (.ref p), some (.ref ad), some (.int m), some (.ref fp), o4, o5] ∧ H' fp = some (.lst vs) ∧ DxA [fp, p] H' vs (L.map sparkD) ∧ L.length = i ∧ SpOk N.length L ∧ Kp [fp, p] H5 H' ∧ Wick H' p (n + 3 + 4 * i)) ⟨none, none, [], [], rfl, hf5, .nil, rfl, ⟨by decide, fun p z => (by cases z), fun p z => (by cases z), fun p z => (by cases z)⟩, .rfl', w5.mono (by omega)⟩ (fun i σ H6 hi hP => ?_) (fun σ H6 hP => ?_)⟩
  · obtain ⟨o4, o5, vs, L, rfl, hf6, hv6, hl6, ok6, kH6, w6⟩ := hP
    -- beat
    refine ⟨.ref p, rfl, p, 10, _, rfl, by decide, by decide, w6, by omega, fun q1 H7 a7 b7 k7 w7 => ?_⟩
    refine ⟨.ref p, rfl, _, _, rfl, rfl, ⟨by decide, by decide⟩, p, _, _, rfl, by decide, by decide, w7, by omega, fun q2 H8 a8 b8 k8 w8 => ?_⟩
    refine ⟨_, _, rfl, rfl, ⟨by decide, by decide⟩, _, _, rfl, rfl, by show 4 ≤ sizeLine; decide, fun l2 nl2 => ?_⟩
    have l2p : l2 ∉ [p] := by
      have : p ≠ l2 := fun e => w8.tr (e ▸ nl2)
      simpa using this.symm
    refine ⟨.ref p, rfl, p, 4, _, rfl, by decide, by decide, w8.kp (Kp.new (S := []) nl2) (by simp), by omega, fun q3 H9 a9 b9 k9 w9 => ?_⟩
    obtain ⟨bv, hbv, mbv⟩ := at_mem (xs := [.int 0, .int q1, .int q2, .int (10 ^ (60 : Int).toNat - 1)]) a9 (by simpa using b9)
    refine ⟨l2, _, q3, bv, rfl, rfl, SqL.of (k9.lst l2p upd_same), hbv, ?_⟩
    obtain ⟨b, rfl, hb0, hb1⟩ : ∃ b : Int, bv = .int b ∧ 0 ≤ b ∧ b < 10 ^ 60 := by
      have e60 : (10 : Int) ^ (60 : Int).toNat = 10 ^ 60 := by decide
      have e59 : (10 : Int) ^ (59 : Int).toNat < 10 ^ 60 := by decide
      simp only [List.mem_cons, List.not_mem_nil, or_false] at mbv
      rcases mbv with rfl | rfl | rfl | rfl
      · exact ⟨_, rfl, by decide, by decide⟩
      · exact ⟨_, rfl, a7, by omega⟩
      · exact ⟨_, rfl, a8, by omega⟩
      · exact ⟨_, rfl, by decide, by decide⟩
    have k69 : Kp [p] H6 H9 := k7.tr (k8.tr ((Kp.new nl2).tr k9))
    have hf9 := k69.lst hfp hf6
    have hd9 := (hd5.kp kH6 fun _ z => z).kp k69 fun _ => memP
    obtain ⟨ad9, xs9, e9, _, hx9, hl9, _⟩ := net_at hd9
    cases e9
    refine ⟨.ref fp, rfl, .inl ⟨rfl, _, SqL.of hf9⟩, .int b, rfl, .ref p, rfl, .ref ad, rfl, ad, xs9, rfl, .inr (SqT.of hx9), p, N.length, _, by rw [hl9]; rfl, by omega, by omega, w9, by omega, fun q5 H10 a10 b10 k10 w10 => ?_⟩
    refine ⟨by show 2 ≤ sizeLine; decide, fun t nt => ?_⟩
    obtain ⟨H11, e11⟩ : ∃ H11, H11 = upd H10 t (.tup [.int b, .int q5]) := ⟨_, rfl⟩
    rw [← e11]
    have k11 : Kp [] H10 H11 := e11 ▸ Kp.new nt
    have k611 : Kp [p] H6 H11 := k69.tr (k10.tr k11.of0)
    have hf11 := k611.lst hfp hf6
    have lvs : vs.length = i := by
      have e := hv6.len
      rw [List.length_map] at e
      omega
    refine ⟨fp, vs, .ref t, rfl, rfl, hf11, Nat.lt_of_lt_of_le (show vs.length < 1000 by omega) (by decide), ?_⟩
    obtain ⟨H12, e12⟩ : ∃ H12, H12 = upd H11 fp (.lst (vs ++ [.ref t])) := ⟨_, rfl⟩
    rw [← e12]
    have k12 : Kp [fp] H11 H12 := e12 ▸ Kp.put (by simp) hf11 (fun ps e => by cases e)
    have k612 : Kp [fp, p] H6 H12 := (k611.wk fun _ => memP).tr (k12.wk fun _ => memF)
    have hS10 : ∀ s ∈ [fp, p], H10 s ≠ none := fun s z => (k69.tr k10).tr_ s (kH6.tr_ s (hS5 s z))
    have hq5 : q5 = ((q5.toNat : Nat) : Int) := by omega
    have dt : Dx [fp, p] H12 (.ref t) (sparkD (b, q5.toNat)) := by
      refine Dx.kp k12 (fun _ => memF) ?_
      rw [e11, hq5]
      exact Dx.newT hS10 nt (.cons (.int _) (.cons (.int _) .nil))
    refine ⟨_, _, vs ++ [.ref t], L ++ [(b, q5.toNat)], rfl, by rw [e12]; exact upd_same, ?_, by rw [List.length_append, hl6]; rfl, ⟨?_, fun z hz => ?_, fun z hz => ?_, fun z hz => ?_⟩, kH6.tr k612, ?_⟩
    · rw [List.map_append]
      exact (hv6.kp k612 fun _ z => z).app (.cons dt .nil)
    · rw [List.length_append]
      show L.length + 1 ≤ 40
      omega
    · rcases List.mem_append.mp hz with hz | hz
      · exact ok6.lo z hz
      · obtain rfl := List.mem_singleton.mp hz
        exact hb0
    · rcases List.mem_append.mp hz with hz | hz
      · exact ok6.hi z hz
      · obtain rfl := List.mem_singleton.mp hz
        exact hb1
    · rcases List.mem_append.mp hz with hz | hz
      · exact ok6.at_ z hz
      · obtain rfl := List.mem_singleton.mp hz
        show q5.toNat < N.length
        omega
    · exact ((w10.kp k11 (by simp)).kp k12 hpf).mono (by omega)
  · obtain ⟨o4, o5, vs, L, rfl, hf6, hv6, hl6, ok6, kH6, w6⟩ := hP
    have hfH : H fp = none := by
      cases e : H fp with
      | none => rfl
      | some o => exact absurd nf (kH3.tr_ fp (by rw [e]; exact fun q => by cases q))
    have kEnd : Kp [fp, p] H H6 := (kH3.wk fun _ => memP).tr ((k5.wk fun _ => mem0).tr kH6)
    exact ⟨.ref fp, rfl, q _ _ L ok6 (.lst hfp hf6 (hv6.wk fun _ => memP)) (Kp.drop hfH kEnd) (w6.mono (by omega))⟩
end

/-! ### kindlings bent somewhere -/
section
variable {P : Program} {w : World} {K : PySem.W.Frag} {mg : Str → Option Value} {base : Heap} {a : Ad}
/-- data within bounds, apart from S -/
def OkV (S : List Addr) (w k : Nat) (H : Hp) (v : V) : Prop := ∃ d, Dx S H v d ∧ Fit w k d
theorem OkV.kp {S T : List Addr} {w k : Nat} {H H1 : Hp} {v : V} (h : OkV S w k H v) (q : Kp T H H1) (hs : ∀ x ∈ T, x ∈ S) : OkV S w k H1 v := by
  obtain ⟨d, h1, h2⟩ := h
  exact ⟨d, h1.kp q hs, h2⟩
theorem OkV.int {S : List Addr} {w k : Nat} {H : Hp} {i : Int} (h : i.natAbs < 10 ^ 60) (hw : 200 ≤ w) : OkV S w k H (.int i) := ⟨_, .int i, fit_int h hw⟩
theorem OkV.non {S : List Addr} {w k : Nat} {H : Hp} : OkV S w k H .non := ⟨_, .non, fit_non⟩
theorem OkV.bl {S : List Addr} {w k : Nat} {H : Hp} (b : Bool) : OkV S w k H (.bl b) := ⟨_, .bl b, fit_bool b⟩
theorem okv_all {S : List Addr} {w k : Nat} {H : Hp} : ∀ {vs : List V}, (∀ v ∈ vs, OkV S w k H v) → ∃ ds, DxA S H vs ds ∧ ∀ d ∈ ds, Fit w k d
  | [], _ => ⟨[], .nil, fun d z => by cases z⟩
  | v :: vs, h => by
    obtain ⟨d, h1, h2⟩ := h v List.mem_cons_self
    obtain ⟨ds, h3, h4⟩ := okv_all fun u hu => h u (List.mem_cons_of_mem _ hu)
    exact ⟨d :: ds, .cons h1 h3, fun e he => by
      rcases List.mem_cons.mp he with rfl | he
      · exact h2
      · exact h4 e he⟩
theorem OkV.tup {S : List Addr} {w k n : Nat} {H : Hp} {p : Addr} {vs : List V} (hS : ∀ s ∈ S, H s ≠ none) (np : H p = none) (h : ∀ v ∈ vs, OkV S w k H v) (hn : vs.length ≤ n) : OkV S ((w + 1) * n) (k + 1) (upd H p (.tup vs)) (.ref p) := by
  obtain ⟨ds, h1, h2⟩ := okv_all h
  exact ⟨_, Dx.newT hS np h1, fit_tup h2 (by rw [← h1.len]; exact hn)⟩
theorem OkV.lst {S : List Addr} {w k n : Nat} {H : Hp} {p : Addr} {vs : List V} (hS : ∀ s ∈ S, H s ≠ none) (np : H p = none) (h : ∀ v ∈ vs, OkV S w k H v) (hn : vs.length ≤ n) : OkV S ((w + 1) * n) (k + 1) (upd H p (.lst vs)) (.ref p) := by
  obtain ⟨ds, h1, h2⟩ := okv_all h
  exact ⟨_, Dx.newL hS np h1, fit_lst h2 (by rw [← h1.len]; exact hn)⟩
theorem OkV.mono {S : List Addr} {w k w' k' : Nat} {H : Hp} {v : V} (h : OkV S w k H v) (hw : w ≤ w') (hk : k ≤ k') : OkV S w' k' H v := by
  obtain ⟨d, h1, h2⟩ := h
  exact ⟨d, h1, h2.mono hw hk⟩
def OkX (S : List Addr) (H : Hp) (v : V) : Prop := ∃ d, Dx S H v d ∧ (Fit 60000 50 d ∨ d = .dict [])
def spBent : Sp := fun vs H Q _ => ∃ (p : Addr) (v u : V) (N : Net) (L : Sparks) (n : Nat), vs = [.ref p, v, u] ∧ Wick H p n ∧ n < 90000 ∧ Dx [p] H v (netD N) ∧ NetOk N ∧ Dx [p] H u (sparksD L) ∧ SpOk N.length L ∧ ∀ v' H' d, Dx [p] H' v' d → (Fit 60000 50 d ∨ d = .dict []) → Kp [p] H H' → Wick H' p (n + 7) → Q v' H'
theorem ok_law_bent (T : Tx K mg a) : FnOk P w K mg base CX0 2 a.a_law_bent a.f_law_bent ["wick", "mesh", "sparks"] spBent := by
  have G_law_pick := ok_law_pick (P := P) (w := w) (base := base) T
  refine T.law_bent.F.ok sc_law_bent (fun vs H Q E h => ?_) (fun cdv A outer s H0 vs Q E hr h => ?_)
  · obtain ⟨p, v, u, N, L, n, rfl, _⟩ := h
    rfl
  obtain ⟨p, v, u, N, L, n, rfl, w0, hn, hd0, okN, hs0, okL, q⟩ := h
  refine ⟨_, (pss_cons (ps_set (i := 3) sc_law_bent.nd rfl (by first | exact .inl rfl | exact .inr rfl) (pe_call G_law_pick (hr.mono (by decide)) (by rfl) T.law_pick.g T.law_pick.F.kp T.law_pick.b .nil pass0 (pa_cons (pv 0) (pa_cons (pe_op op_add (pe_callB call_len_seq (by rfl) T.n_len (by decide +kernel) (pa_cons (pv 2) pa_nil)) pe_int) pa_nil))))
      (pss_cons (ps_asg (pe_ix ix_list (pe_op op_catL (pv 2) (pe_lst (pa_cons (pe_tup (pa_cons pe_int (pa_cons pe_int pa_nil))) pa_nil))) (pv 3) (fun _ _ => rfl)) (pg_tup (by rfl) (pgs_cons (pg_name (i := 4) sc_law_bent.nd rfl (by first | exact .inl rfl | exact .inr rfl)) (pgs_cons (pg_name (i := 5) sc_law_bent.nd rfl (by first | exact .inl rfl | exact .inr rfl)) pgs_nil))))
      (pss_cons (ps_set (i := 6) sc_law_bent.nd rfl (by first | exact .inl rfl | exact .inr rfl) (pe_ix ix_list (pe_lst (pa_cons (pe_un un_neg pe_int) (pa_cons (pe_op op_fdivW (pv 4) pe_int) (pa_cons pe_int (pa_cons pe_bl (pa_cons pe_non (pa_cons pe_str (pa_cons (pe_tup (pa_cons pe_int pa_nil)) (pa_cons (pe_op op_powW pe_int pe_int) pa_nil))))))))) (pe_call G_law_pick (hr.mono (by decide)) (by rfl) T.law_pick.g T.law_pick.F.kp T.law_pick.b .nil pass0 (pa_cons (pv 0) (pa_cons pe_int pa_nil))) (fun _ _ => rfl)))
      (pss_cons (ps_set (i := 7) sc_law_bent.nd rfl (by first | exact .inl rfl | exact .inr rfl) (pe_ix ix_list (pe_lst (pa_cons (pe_un un_neg pe_int) (pa_cons (pe_callB call_len_seq (by rfl) T.n_len (by decide +kernel) (pa_cons (pv 1) pa_nil)) (pa_cons (pe_op op_sub (pe_callB call_len_seq (by rfl) T.n_len (by decide +kernel) (pa_cons (pv 1) pa_nil)) pe_int) (pa_cons pe_int (pa_cons pe_bl (pa_cons pe_non (pa_cons pe_str (pa_cons (pe_lst (pa_cons pe_int pa_nil)) pa_nil))))))))) (pe_call G_law_pick (hr.mono (by decide)) (by rfl) T.law_pick.g T.law_pick.F.kp T.law_pick.b .nil pass0 (pa_cons (pv 0) (pa_cons pe_int pa_nil))) (fun _ _ => rfl)))
      (pss_cons (ps_set (i := 8) sc_law_bent.nd rfl (by first | exact .inl rfl | exact .inr rfl) (pe_ix ix_list (pe_lst (pa_cons (pe_tup (pa_cons (pv 6) (pa_cons (pv 5) pa_nil))) (pa_cons (pe_tup (pa_cons (pv 4) (pa_cons (pv 7) pa_nil))) (pa_cons (pe_lst (pa_cons (pv 4) (pa_cons (pv 5) pa_nil))) (pa_cons (pe_tup (pa_cons (pv 4) pa_nil)) (pa_cons (pe_tup (pa_cons (pv 4) (pa_cons (pv 5) (pa_cons pe_int pa_nil)))) (pa_cons pe_non (pa_cons (pv 4) pa_nil)))))))) (pe_call G_law_pick (hr.mono (by decide)) (by rfl) T.law_pick.g T.law_pick.F.kp T.law_pick.b .nil pass0 (pa_cons (pv 0) (pa_cons pe_int pa_nil))) (fun _ _ => rfl)))
      (pss_cons (ps_set (i := 9) sc_law_bent.nd rfl (by first | exact .inl rfl | exact .inr rfl) (pe_lst (pa_cons (pe_op op_catL (pe_op op_catL (pe_slice sl_list (pv 2) po_none (po_some (pv 3))) (pe_lst (pa_cons (pv 8) pa_nil))) (pe_slice sl_list (pv 2) (po_some (pe_op op_add (pv 3) pe_int)) po_none)) (pa_cons (pe_op op_catL (pe_op op_catL (pe_slice sl_list (pv 2) po_none (po_some (pv 3))) (pe_lst (pa_cons (pe_tup (pa_cons (pv 4) (pa_cons (pv 7) pa_nil))) pa_nil))) (pe_slice sl_list (pv 2) (po_some (pv 3)) po_none)) (pa_cons (pe_op op_catL (pe_slice sl_list (pv 2) po_none (po_some (pv 3))) (pe_slice sl_list (pv 2) (po_some (pe_op op_add (pv 3) pe_int)) po_none)) pa_nil)))))
      (pss_cons (ps_set (i := 9) sc_law_bent.nd rfl (by first | exact .inl rfl | exact .inr rfl) (pe_op op_catL (pv 9) (pe_lst (pa_cons (pe_op op_rep (pe_op op_catL (pv 2) (pe_lst (pa_cons (pe_tup (pa_cons (pv 4) (pa_cons (pv 5) pa_nil))) pa_nil))) pe_int) (pa_cons (pe_slice sl_list (pe_op op_rep (pe_lst (pa_cons (pe_tup (pa_cons (pv 4) (pa_cons (pv 5) pa_nil))) pa_nil)) pe_int) po_none (po_some (pe_op op_add pe_int (pe_call G_law_pick (hr.mono (by decide)) (by rfl) T.law_pick.g T.law_pick.F.kp T.law_pick.b .nil pass0 (pa_cons (pv 0) (pa_cons pe_int pa_nil)))))) (pa_cons (pe_revL (pv 2)) pa_nil))))))
      (pss_cons (ps_expr (pe_bm PySem.F.plainAttrs_list PySem.F.slot_list_append PySem.F.type_list_append mt_append (pv 9) (pa_cons (pe_ix ix_list (pe_lst (pa_cons (pe_callTy call_tuple_of (by rfl) T.n_tuple (by decide +kernel) (pa_cons (pv 2) pa_nil)) (pa_cons pe_non (pa_cons pe_int (pa_cons pe_bl (pa_cons pe_str (pa_cons (pe_tup pa_nil) (pa_cons pe_dnewK (pa_cons (pe_lst (pa_cons (pe_lst pa_nil) pa_nil)) (pa_cons (pe_lst (pa_cons (pe_tup pa_nil) pa_nil)) (pa_cons (pe_op op_catL (pv 2) (pe_lst (pa_cons (pv 2) pa_nil))) pa_nil))))))))))) (pe_call G_law_pick (hr.mono (by decide)) (by rfl) T.law_pick.g T.law_pick.F.kp T.law_pick.b .nil pass0 (pa_cons (pv 0) (pa_cons pe_int pa_nil))) (fun _ _ => rfl)) pa_nil)))
      (pss_one (ps_ret (pe_ix ix_list (pv 9) (pe_ix ix_list (pe_lst (pa_cons pe_int (pa_cons pe_int (pa_cons pe_int (pa_cons pe_int (pa_cons pe_int (pa_cons pe_int (pa_cons pe_int (pa_cons pe_int (pa_cons pe_int pa_nil)))))))))) (pe_call G_law_pick (hr.mono (by decide)) (by rfl) T.law_pick.g T.law_pick.F.kp T.law_pick.b .nil pass0 (pa_cons (pv 0) (pa_cons pe_int pa_nil))) (fun _ _ => rfl)) (fun _ _ => rfl)))))))))))), ?_⟩
  have h1 := okN.lo
  have h12 := okN.hi
  have h40 := okL.len
  have memp : ∀ {x : Addr}, x ∈ ([] : List Addr) → x ∈ [p] := fun z => by cases z
  have tx : ∀ {x : Addr}, x ∈ [p] → x ∈ [p] := fun z => z
  have hS0 : ∀ s ∈ [p], H0 s ≠ none := fun s z => by
    obtain rfl := List.mem_singleton.mp z
    exact w0.tr
  obtain ⟨sa, ys, rfl, hsa0⟩ : ∃ (sa : Addr) (ys : List V), u = .ref sa ∧ H0 sa = some (.lst ys) := by
    cases hs0 with
    | lst n h r => exact ⟨_, _, rfl, h⟩
  obtain ⟨ad, xs0, rfl, _, hx0, hl0, _⟩ := net_at hd0
  have lys : ys.length = L.length := by
    cases hs0 with
    | lst n h r =>
      rw [hsa0] at h
      cases h
      rw [r.len, List.length_map]
  have fL := spark_fit h12 okL
  refine ⟨.ref p, rfl, .ref sa, rfl, sa, ys, rfl, .inl (SqL.of hsa0), _, _, rfl, rfl, p, _, n, rfl, by omega, by omega, w0, by omega, fun kk H1 a1 b1 k1 w1 => ?_⟩
  have hS1 : ∀ s ∈ [p], H1 s ≠ none := fun s z => k1.tr_ s (hS0 s z)
  have hd1 := hd0.kp k1 fun _ => tx
  have hs1 := hs0.kp k1 fun _ => tx
  obtain ⟨k, rfl⟩ : ∃ k : Nat, kk = (k : Int) := ⟨kk.toNat, by omega⟩
  have hk : k < L.length + 1 := by omega
  refine ⟨.ref sa, rfl, by show 2 ≤ sizeLine; decide, fun t0 nt0 => ?_⟩
  obtain ⟨H2, e2⟩ : ∃ H2, H2 = upd H1 t0 (.tup [.int 3, .int 0]) := ⟨_, rfl⟩
  rw [← e2]
  have k2 : Kp [] H1 H2 := e2 ▸ Kp.new nt0
  have hS2 : ∀ s ∈ [p], H2 s ≠ none := fun s z => k2.tr_ s (hS1 s z)
  have hd2 := hd1.kp k2 fun _ => memp
  have hs2 := hs1.kp k2 fun _ => memp
  have w2 := w1.kp k2 (by simp)
  have xt0 : Dx [p] H2 (.ref t0) (sparkD (3, 0)) := e2 ▸ Dx.newT hS1 nt0 (.cons (.int 3) (.cons (.int 0) .nil))
  refine ⟨by show 1 ≤ sizeLine; decide, fun l0 nl0 => ?_⟩
  obtain ⟨H3, e3⟩ : ∃ H3, H3 = upd H2 l0 (.lst [.ref t0]) := ⟨_, rfl⟩
  rw [← e3]
  have k3 : Kp [] H2 H3 := e3 ▸ Kp.new nl0
  have hS3 : ∀ s ∈ [p], H3 s ≠ none := fun s z => k3.tr_ s (hS2 s z)
  have hd3 := hd2.kp k3 fun _ => memp
  have hs3 := hs2.kp k3 fun _ => memp
  have w3 := w2.kp k3 (by simp)
  have xl0 : Dx [p] H3 (.ref l0) (.list [sparkD (3, 0)]) := e3 ▸ Dx.newL hS2 nl0 (.cons (xt0) .nil)
  refine dxl_cat (ds := L.map sparkD) (es := [sparkD (3, 0)]) hS3 hs3 xl0 (Nat.le_trans (m := 41) (by rw [List.length_map]; show L.length + 1 ≤ 41; omega) (by decide)) (fun v1 H4 k4 xv1 => ?_)
  have hS4 : ∀ s ∈ [p], H4 s ≠ none := fun s z => k4.tr_ s (hS3 s z)
  have hd4 := hd3.kp k4 fun _ => memp
  have hs4 := hs3.kp k4 fun _ => memp
  have w4 := w3.kp k4 (by simp)
  obtain ⟨pr, hpr⟩ : ∃ pr, (L ++ [(3, 0)])[k]? = some pr := ⟨(L ++ [(3, 0)])[k]'(by rw [List.length_append]; exact hk), List.getElem?_eq_getElem _⟩
  have hpm : 0 ≤ pr.1 ∧ pr.1 < 10 ^ 60 ∧ pr.2 ≤ 12 := by
    rcases List.mem_append.mp (List.mem_of_getElem? hpr) with z | z
    · exact ⟨okL.lo pr z, okL.hi pr z, by have := okL.at_ pr z; omega⟩
    · obtain rfl := List.mem_singleton.mp z
      exact ⟨by decide, by decide, by decide⟩
  obtain ⟨hpl, hph, hps⟩ := hpm
  obtain ⟨a1_, xs1, la, rfl, hx1_, hxl1, hla1⟩ : ∃ (a1_ : Addr) (xs1 : List V) (la : Addr), v1 = .ref a1_ ∧ H4 a1_ = some (.lst xs1) ∧ xs1[k]? = some (.ref la) ∧ H4 la = some (.tup [.int pr.1, .int (pr.2 : Nat)]) := by
    have hx := xv1
    cases hx with
    | @lst b zs _ n h r =>
      obtain ⟨w, hw, hx⟩ := r.get' (i := k) (d := sparkD pr) (by
        have : L.map sparkD ++ [sparkD (3, 0)] = (L ++ [(3, 0)]).map sparkD := by rw [List.map_append]; rfl
        rw [this, List.getElem?_map, hpr]; rfl)
      cases hx with
      | @tup la _ _ m h2 r2 =>
        cases r2 with
        | cons q1 r2 =>
          cases q1
          cases r2 with
          | cons q2 r3 =>
            cases q2
            cases r3
            exact ⟨b, zs, la, rfl, h, hw, h2⟩
  refine ⟨.int k, rfl, a1_, xs1, k, .ref la, rfl, rfl, SqL.of hx1_, atI_nat hxl1, la, _, rfl, SqT.of hla1, rfl, _, _, rfl, _, _, rfl, rfl, ?_⟩
  refine ⟨1, rfl, .int pr.1, rfl, _, _, rfl, rfl, ⟨by decide, by decide⟩, by show 1 ≤ sizeLine; decide, fun t1 nt1 => ?_⟩
  obtain ⟨H5, e5⟩ : ∃ H5, H5 = upd H4 t1 (.tup [.int 0]) := ⟨_, rfl⟩
  rw [← e5]
  have k5 : Kp [] H4 H5 := e5 ▸ Kp.new nt1
  have hS5 : ∀ s ∈ [p], H5 s ≠ none := fun s z => k5.tr_ s (hS4 s z)
  have hd5 := hd4.kp k5 fun _ => memp
  have hs5 := hs4.kp k5 fun _ => memp
  have w5 := w4.kp k5 (by simp)
  have ok_t1 : OkV [p] ((200 + 1) * 1) (0 + 1) H5 (.ref t1) := e5 ▸ OkV.tup (w := 200) (k := 0) (n := 1) hS4 nt1 (fun v z => by
    simp only [List.mem_cons, List.not_mem_nil, or_false] at z
    subst z
    exact OkV.int (by decide) (by decide)
    ) (Nat.le_refl _)
  refine ⟨_, _, rfl, rfl, ⟨by decide, by decide⟩, by show 8 ≤ sizeLine; decide, fun l2 nl2 => ?_⟩
  show (fun p' => _) l2
  obtain ⟨od, hod⟩ : ∃ od, od = ([.int (-1), .int (pr.1 / 2), .int 0, .bl true, .non, .str "0", .ref t1, .int (10 ^ (59 : Int).toNat)] : List V) := ⟨_, rfl⟩
  have lod : od.length = 8 := by rw [hod]; rfl
  have aod : ∀ v ∈ od, OkV [p] 201 1 H5 v := by
    rw [hod]
    intro v hv
    simp only [List.mem_cons, List.not_mem_nil, or_false] at hv
    rcases hv with rfl | rfl | rfl | rfl | rfl | rfl | rfl | rfl
    · exact OkV.int (by decide) (by decide)
    · exact OkV.int (by omega) (by decide)
    · exact OkV.int (by decide) (by decide)
    · exact OkV.bl _
    · exact OkV.non
    · exact ⟨_, .str _, ⟨by decide, by decide, Nat.zero_le _⟩⟩
    · exact ok_t1
    · exact OkV.int (by decide) (by decide)
  rw [show ([.int (-1), .int (pr.1 / 2), .int 0, .bl true, .non, .str "0", .ref t1, .int (10 ^ (59 : Int).toNat)] : List V) = od from hod.symm]
  have hp_l2 : l2 ∉ [p] := by
    have : p ≠ l2 := fun e => w5.tr (e ▸ nl2)
    simpa using this.symm
  refine ⟨.ref p, rfl, p, 8, _, rfl, by decide, by decide, w5.kp (Kp.new (S := []) nl2) (by simp), by omega, fun r6 H6 a6 b6 kk6 w6 => ?_⟩
  obtain ⟨ov, hov, mov⟩ := at_mem (xs := od) a6 (by rw [lod]; exact b6)
  refine ⟨l2, _, r6, ov, rfl, rfl, SqL.of (kk6.lst hp_l2 upd_same), hov, ?_⟩
  have k6 : Kp [p] H5 H6 := (Kp.new nl2).tr kk6
  have hS6 : ∀ s ∈ [p], H6 s ≠ none := fun s z => k6.tr_ s (hS5 s z)
  have hd6 := hd5.kp k6 fun _ => tx
  have hs6 := hs5.kp k6 fun _ => tx
  have ok_ov : OkV [p] 201 1 H6 ov := (aod ov mov).kp k6 fun _ => tx
  obtain ⟨ad4, xs4, e4', _, hx4, hl4, _⟩ := net_at hd6
  cases e4'
  refine ⟨1, rfl, .ref ad, rfl, ad, xs4, rfl, .inr (SqT.of hx4), .ref ad, rfl, ad, xs4, rfl, .inr (SqT.of hx4), _, _, rfl, rfl, by show 1 ≤ sizeLine; decide, fun t2 nt2 => ?_⟩
  obtain ⟨H7, e7⟩ : ∃ H7, H7 = upd H6 t2 (.lst [.int 0]) := ⟨_, rfl⟩
  rw [← e7]
  have k7 : Kp [] H6 H7 := e7 ▸ Kp.new nt2
  have hS7 : ∀ s ∈ [p], H7 s ≠ none := fun s z => k7.tr_ s (hS6 s z)
  have hd7 := hd6.kp k7 fun _ => memp
  have hs7 := hs6.kp k7 fun _ => memp
  have w7 := w6.kp k7 (by simp)
  have ok_t2 : OkV [p] ((200 + 1) * 1) (0 + 1) H7 (.ref t2) := e7 ▸ OkV.lst (w := 200) (k := 0) (n := 1) hS6 nt2 (fun v z => by
    simp only [List.mem_cons, List.not_mem_nil, or_false] at z
    subst z
    exact OkV.int (by decide) (by decide)
    ) (Nat.le_refl _)
  refine ⟨by show 8 ≤ sizeLine; decide, fun l3 nl3 => ?_⟩
  show (fun p' => _) l3
  obtain ⟨td, htd⟩ : ∃ td, td = ([.int (-1), .int xs4.length, .int (xs4.length - 1), .int 12, .bl true, .non, .str "0", .ref t2] : List V) := ⟨_, rfl⟩
  have ltd : td.length = 8 := by rw [htd]; rfl
  have atd : ∀ v ∈ td, OkV [p] 201 1 H7 v := by
    rw [htd]
    intro v hv
    simp only [List.mem_cons, List.not_mem_nil, or_false] at hv
    rcases hv with rfl | rfl | rfl | rfl | rfl | rfl | rfl | rfl
    · exact OkV.int (by decide) (by decide)
    · exact OkV.int (by omega) (by decide)
    · exact OkV.int (by omega) (by decide)
    · exact OkV.int (by decide) (by decide)
    · exact OkV.bl _
    · exact OkV.non
    · exact ⟨_, .str _, ⟨by decide, by decide, Nat.zero_le _⟩⟩
    · exact ok_t2
  rw [show ([.int (-1), .int xs4.length, .int (xs4.length - 1), .int 12, .bl true, .non, .str "0", .ref t2] : List V) = td from htd.symm]
  have hp_l3 : l3 ∉ [p] := by
    have : p ≠ l3 := fun e => w7.tr (e ▸ nl3)
    simpa using this.symm
  refine ⟨.ref p, rfl, p, 8, _, rfl, by decide, by decide, w7.kp (Kp.new (S := []) nl3) (by simp), by omega, fun r8 H8 a8 b8 kk8 w8 => ?_⟩
  obtain ⟨tv, htv, mtv⟩ := at_mem (xs := td) a8 (by rw [ltd]; exact b8)
  refine ⟨l3, _, r8, tv, rfl, rfl, SqL.of (kk8.lst hp_l3 upd_same), htv, ?_⟩
  have k8 : Kp [p] H7 H8 := (Kp.new nl3).tr kk8
  have hS8 : ∀ s ∈ [p], H8 s ≠ none := fun s z => k8.tr_ s (hS7 s z)
  have hd8 := hd7.kp k8 fun _ => tx
  have hs8 := hs7.kp k8 fun _ => tx
  have ok_tv : OkV [p] 201 1 H8 tv := (atd tv mtv).kp k8 fun _ => tx
  have okb : ∀ {w' k' : Nat} {H' : Hp}, 200 ≤ w' → OkV [p] w' k' H' (.int pr.1) := fun h => OkV.int (by omega) h
  have oks : ∀ {w' k' : Nat} {H' : Hp}, 200 ≤ w' → OkV [p] w' k' H' (.int (pr.2 : Nat)) := fun h => OkV.int (by omega) h
  refine ⟨ov, rfl, .int (pr.2 : Nat), rfl, by show 2 ≤ sizeLine; decide, fun u1 nu1 => ?_⟩
  obtain ⟨H9, e9⟩ : ∃ H9, H9 = upd H8 u1 (.tup [ov, .int (pr.2 : Nat)]) := ⟨_, rfl⟩
  rw [← e9]
  have k9 : Kp [] H8 H9 := e9 ▸ Kp.new nu1
  have hS9 : ∀ s ∈ [p], H9 s ≠ none := fun s z => k9.tr_ s (hS8 s z)
  have hd9 := hd8.kp k9 fun _ => memp
  have hs9 := hs8.kp k9 fun _ => memp
  have w9 := w8.kp k9 (by simp)
  have ok_u1 : OkV [p] ((201 + 1) * 2) (1 + 1) H9 (.ref u1) := e9 ▸ OkV.tup (w := 201) (k := 1) (n := 2) hS8 nu1 (fun v z => by
    simp only [List.mem_cons, List.not_mem_nil, or_false] at z
    rcases z with rfl | rfl
    · exact ((ok_ov.kp k7 fun _ => memp).kp k8 fun _ => tx)
    · exact oks (by decide)
    ) (Nat.le_refl _)
  refine ⟨.int pr.1, rfl, tv, rfl, by show 2 ≤ sizeLine; decide, fun u2 nu2 => ?_⟩
  obtain ⟨H10, e10⟩ : ∃ H10, H10 = upd H9 u2 (.tup [.int pr.1, tv]) := ⟨_, rfl⟩
  rw [← e10]
  have k10 : Kp [] H9 H10 := e10 ▸ Kp.new nu2
  have hS10 : ∀ s ∈ [p], H10 s ≠ none := fun s z => k10.tr_ s (hS9 s z)
  have hd10 := hd9.kp k10 fun _ => memp
  have hs10 := hs9.kp k10 fun _ => memp
  have w10 := w9.kp k10 (by simp)
  have ok_u2 : OkV [p] ((201 + 1) * 2) (1 + 1) H10 (.ref u2) := e10 ▸ OkV.tup (w := 201) (k := 1) (n := 2) hS9 nu2 (fun v z => by
    simp only [List.mem_cons, List.not_mem_nil, or_false] at z
    rcases z with rfl | rfl
    · exact okb (by decide)
    · exact (ok_tv.kp k9 fun _ => memp)
    ) (Nat.le_refl _)
  refine ⟨.int pr.1, rfl, .int (pr.2 : Nat), rfl, by show 2 ≤ sizeLine; decide, fun u3 nu3 => ?_⟩
  obtain ⟨H11, e11⟩ : ∃ H11, H11 = upd H10 u3 (.lst [.int pr.1, .int (pr.2 : Nat)]) := ⟨_, rfl⟩
  rw [← e11]
  have k11 : Kp [] H10 H11 := e11 ▸ Kp.new nu3
  have hS11 : ∀ s ∈ [p], H11 s ≠ none := fun s z => k11.tr_ s (hS10 s z)
  have hd11 := hd10.kp k11 fun _ => memp
  have hs11 := hs10.kp k11 fun _ => memp
  have w11 := w10.kp k11 (by simp)
  have ok_u3 : OkV [p] ((201 + 1) * 2) (1 + 1) H11 (.ref u3) := e11 ▸ OkV.lst (w := 201) (k := 1) (n := 2) hS10 nu3 (fun v z => by
    simp only [List.mem_cons, List.not_mem_nil, or_false] at z
    rcases z with rfl | rfl
    · exact okb (by decide)
    · exact oks (by decide)
    ) (Nat.le_refl _)
  refine ⟨.int pr.1, rfl, by show 1 ≤ sizeLine; decide, fun u4 nu4 => ?_⟩
  obtain ⟨H12, e12⟩ : ∃ H12, H12 = upd H11 u4 (.tup [.int pr.1]) := ⟨_, rfl⟩
  rw [← e12]
  have k12 : Kp [] H11 H12 := e12 ▸ Kp.new nu4
  have hS12 : ∀ s ∈ [p], H12 s ≠ none := fun s z => k12.tr_ s (hS11 s z)
  have hd12 := hd11.kp k12 fun _ => memp
  have hs12 := hs11.kp k12 fun _ => memp
  have w12 := w11.kp k12 (by simp)
  have ok_u4 : OkV [p] ((201 + 1) * 1) (1 + 1) H12 (.ref u4) := e12 ▸ OkV.tup (w := 201) (k := 1) (n := 1) hS11 nu4 (fun v z => by
    simp only [List.mem_cons, List.not_mem_nil, or_false] at z
    subst z
    exact okb (by decide)
    ) (Nat.le_refl _)
  refine ⟨.int pr.1, rfl, .int (pr.2 : Nat), rfl, by show 3 ≤ sizeLine; decide, fun u5 nu5 => ?_⟩
  obtain ⟨H13, e13⟩ : ∃ H13, H13 = upd H12 u5 (.tup [.int pr.1, .int (pr.2 : Nat), .int 0]) := ⟨_, rfl⟩
  rw [← e13]
  have k13 : Kp [] H12 H13 := e13 ▸ Kp.new nu5
  have hS13 : ∀ s ∈ [p], H13 s ≠ none := fun s z => k13.tr_ s (hS12 s z)
  have hd13 := hd12.kp k13 fun _ => memp
  have hs13 := hs12.kp k13 fun _ => memp
  have w13 := w12.kp k13 (by simp)
  have ok_u5 : OkV [p] ((201 + 1) * 3) (1 + 1) H13 (.ref u5) := e13 ▸ OkV.tup (w := 201) (k := 1) (n := 3) hS12 nu5 (fun v z => by
    simp only [List.mem_cons, List.not_mem_nil, or_false] at z
    rcases z with rfl | rfl | rfl
    · exact okb (by decide)
    · exact oks (by decide)
    · exact OkV.int (by decide) (by decide)
    ) (Nat.le_refl _)
  refine ⟨.int pr.1, rfl, by show 7 ≤ sizeLine; decide, fun l4 nl4 => ?_⟩
  show (fun p' => _) l4
  obtain ⟨on, hon⟩ : ∃ on, on = ([.ref u1, .ref u2, .ref u3, .ref u4, .ref u5, .non, .int pr.1] : List V) := ⟨_, rfl⟩
  have lon : on.length = 7 := by rw [hon]; rfl
  have aon : ∀ v ∈ on, OkV [p] 610 2 H13 v := by
    rw [hon]
    intro v hv
    simp only [List.mem_cons, List.not_mem_nil, or_false] at hv
    rcases hv with rfl | rfl | rfl | rfl | rfl | rfl | rfl
    · exact ((((ok_u1.kp k10 fun _ => memp).kp k11 fun _ => memp).kp k12 fun _ => memp).kp k13 fun _ => memp).mono (by decide) (by decide)
    · exact (((ok_u2.kp k11 fun _ => memp).kp k12 fun _ => memp).kp k13 fun _ => memp).mono (by decide) (by decide)
    · exact ((ok_u3.kp k12 fun _ => memp).kp k13 fun _ => memp).mono (by decide) (by decide)
    · exact (ok_u4.kp k13 fun _ => memp).mono (by decide) (by decide)
    · exact ok_u5.mono (by decide) (by decide)
    · exact OkV.non
    · exact okb (by decide)
  rw [show ([.ref u1, .ref u2, .ref u3, .ref u4, .ref u5, .non, .int pr.1] : List V) = on from hon.symm]
  have hp_l4 : l4 ∉ [p] := by
    have : p ≠ l4 := fun e => w13.tr (e ▸ nl4)
    simpa using this.symm
  refine ⟨.ref p, rfl, p, 7, _, rfl, by decide, by decide, w13.kp (Kp.new (S := []) nl4) (by simp), by omega, fun r14 H14 a14 b14 kk14 w14 => ?_⟩
  obtain ⟨vA, hvA, mvA⟩ := at_mem (xs := on) a14 (by rw [lon]; exact b14)
  refine ⟨l4, _, r14, vA, rfl, rfl, SqL.of (kk14.lst hp_l4 upd_same), hvA, ?_⟩
  have k14 : Kp [p] H13 H14 := (Kp.new nl4).tr kk14
  have hS14 : ∀ s ∈ [p], H14 s ≠ none := fun s z => k14.tr_ s (hS13 s z)
  have hd14 := hd13.kp k14 fun _ => tx
  have hs14 := hs13.kp k14 fun _ => tx
  have ok_vA : OkV [p] 610 2 H14 vA := (aon vA mvA).kp k14 fun _ => tx
  have lc : ∀ lo hi, (cutD (L.map sparkD) lo hi).length ≤ 40 := fun lo hi => by
    have := cutD_len (L.map sparkD) lo hi
    rw [List.length_map] at this
    omega
  have big : ∀ {ds : List PyData}, (∀ d ∈ ds, d ∈ L.map sparkD ∨ Fit 610 2 d) → ds.length ≤ 90 → Fit 60000 50 (.list ds) := fun {ds} h hl => (fit_lst (w := 610) (k := 2) (n := 90) (fun d hd => (h d hd).elim (fun z => (fL d z).mono (by decide) (by decide)) id) hl).mono (by decide) (by decide)
  refine ⟨.ref sa, rfl, .int k, rfl, _, rfl, ?_⟩
  refine dxl_slice (ds := L.map sparkD) hS14 hs14 (fun A1 H15 k15 xA1 => ?_)
  have hS15 : ∀ s ∈ [p], H15 s ≠ none := fun s z => k15.tr_ s (hS14 s z)
  have hd15 := hd14.kp k15 fun _ => memp
  have hs15 := hs14.kp k15 fun _ => memp
  have w15 := w14.kp k15 (by simp)
  obtain ⟨dA, xdA, fA⟩ := (ok_vA.kp k15 fun _ => memp)
  refine ⟨vA, rfl, by show 1 ≤ sizeLine; decide, fun tA ntA => ?_⟩
  obtain ⟨H16, e16⟩ : ∃ H16, H16 = upd H15 tA (.lst [vA]) := ⟨_, rfl⟩
  rw [← e16]
  have k16 : Kp [] H15 H16 := e16 ▸ Kp.new ntA
  have hS16 : ∀ s ∈ [p], H16 s ≠ none := fun s z => k16.tr_ s (hS15 s z)
  have hd16 := hd15.kp k16 fun _ => memp
  have hs16 := hs15.kp k16 fun _ => memp
  have w16 := w15.kp k16 (by simp)
  have xtA : Dx [p] H16 (.ref tA) (.list [dA]) := e16 ▸ Dx.newL hS15 ntA (.cons xdA .nil)
  refine dxl_cat (ds := cutD (L.map sparkD) none (some (k : Int))) (es := [dA]) hS16 (xA1.kp k16 fun _ => memp) xtA (Nat.le_trans (m := 90) (by have q1 := lc none (some (k : Int)); have q2 := lc (some ((k : Int) + 1)) none; have q3 := lc (some (k : Int)) none; (try simp only [List.length_append, List.length_map, List.length_cons, List.length_nil]); omega) (by decide)) (fun A2 H17 k17 xA2 => ?_)
  have hS17 : ∀ s ∈ [p], H17 s ≠ none := fun s z => k17.tr_ s (hS16 s z)
  have hd17 := hd16.kp k17 fun _ => memp
  have hs17 := hs16.kp k17 fun _ => memp
  have w17 := w16.kp k17 (by simp)
  refine ⟨.ref sa, rfl, .int k, rfl, _, _, rfl, rfl, _, rfl, ?_⟩
  try delta tNoPart
  refine dxl_slice (ds := L.map sparkD) hS17 hs17 (fun A3 H18 k18 xA3 => ?_)
  have hS18 : ∀ s ∈ [p], H18 s ≠ none := fun s z => k18.tr_ s (hS17 s z)
  have hd18 := hd17.kp k18 fun _ => memp
  have hs18 := hs17.kp k18 fun _ => memp
  have w18 := w17.kp k18 (by simp)
  refine dxl_cat (ds := cutD (L.map sparkD) none (some (k : Int)) ++ [dA]) (es := cutD (L.map sparkD) (some ((k : Int) + 1)) none) hS18 (xA2.kp k18 fun _ => memp) xA3 (Nat.le_trans (m := 90) (by have q1 := lc none (some (k : Int)); have q2 := lc (some ((k : Int) + 1)) none; have q3 := lc (some (k : Int)) none; (try simp only [List.length_append, List.length_map, List.length_cons, List.length_nil]); omega) (by decide)) (fun A4 H19 k19 xA4 => ?_)
  have hS19 : ∀ s ∈ [p], H19 s ≠ none := fun s z => k19.tr_ s (hS18 s z)
  have hd19 := hd18.kp k19 fun _ => memp
  have hs19 := hs18.kp k19 fun _ => memp
  have w19 := w18.kp k19 (by simp)
  have okA : OkV [p] 60000 50 H19 A4 := ⟨_, xA4, big (fun d hd => by
    simp only [List.mem_append, List.mem_singleton] at hd
    rcases hd with (hd | rfl) | hd
    · exact .inl (cutD_mem hd)
    · exact .inr fA
    · exact .inl (cutD_mem hd)) (by have q1 := lc none (some (k : Int)); have q2 := lc (some ((k : Int) + 1)) none; have q3 := lc (some (k : Int)) none; (try simp only [List.length_append, List.length_map, List.length_cons, List.length_nil]); omega)⟩
  refine ⟨.ref sa, rfl, .int k, rfl, _, rfl, ?_⟩
  refine dxl_slice (ds := L.map sparkD) hS19 hs19 (fun B1 H20 k20 xB1 => ?_)
  have hS20 : ∀ s ∈ [p], H20 s ≠ none := fun s z => k20.tr_ s (hS19 s z)
  have hd20 := hd19.kp k20 fun _ => memp
  have hs20 := hs19.kp k20 fun _ => memp
  have w20 := w19.kp k20 (by simp)
  obtain ⟨dT, xdT, fT⟩ := ((((((((((((ok_tv.kp k9 fun _ => memp).kp k10 fun _ => memp).kp k11 fun _ => memp).kp k12 fun _ => memp).kp k13 fun _ => memp).kp k14 fun _ => tx).kp k15 fun _ => memp).kp k16 fun _ => memp).kp k17 fun _ => memp).kp k18 fun _ => memp).kp k19 fun _ => memp).kp k20 fun _ => memp)
  refine ⟨.int pr.1, rfl, tv, rfl, by show 2 ≤ sizeLine; decide, fun tB ntB => ?_⟩
  obtain ⟨H21, e21⟩ : ∃ H21, H21 = upd H20 tB (.tup [.int pr.1, tv]) := ⟨_, rfl⟩
  rw [← e21]
  have k21 : Kp [] H20 H21 := e21 ▸ Kp.new ntB
  have hS21 : ∀ s ∈ [p], H21 s ≠ none := fun s z => k21.tr_ s (hS20 s z)
  have hd21 := hd20.kp k21 fun _ => memp
  have hs21 := hs20.kp k21 fun _ => memp
  have w21 := w20.kp k21 (by simp)
  have xtB : Dx [p] H21 (.ref tB) (.tuple [.int pr.1, dT]) := e21 ▸ Dx.newT hS20 ntB (.cons (.int _) (.cons xdT .nil))
  refine ⟨by show 1 ≤ sizeLine; decide, fun tB2 ntB2 => ?_⟩
  obtain ⟨H22, e22⟩ : ∃ H22, H22 = upd H21 tB2 (.lst [.ref tB]) := ⟨_, rfl⟩
  rw [← e22]
  have k22 : Kp [] H21 H22 := e22 ▸ Kp.new ntB2
  have hS22 : ∀ s ∈ [p], H22 s ≠ none := fun s z => k22.tr_ s (hS21 s z)
  have hd22 := hd21.kp k22 fun _ => memp
  have hs22 := hs21.kp k22 fun _ => memp
  have w22 := w21.kp k22 (by simp)
  have xtB2 : Dx [p] H22 (.ref tB2) (.list [.tuple [.int pr.1, dT]]) := e22 ▸ Dx.newL hS21 ntB2 (.cons xtB .nil)
  have fTB : Fit 610 2 (.tuple [.int pr.1, dT]) := (fit_tup (w := 201) (k := 1) (n := 2) (fun d hd => by
    simp only [List.mem_cons, List.not_mem_nil, or_false] at hd
    rcases hd with rfl | rfl
    · exact fit_int (by omega) (by decide)
    · exact fT) (Nat.le_refl _)).mono (by decide) (by decide)
  refine dxl_cat (ds := cutD (L.map sparkD) none (some (k : Int))) (es := [.tuple [.int pr.1, dT]]) hS22 ((xB1.kp k21 fun _ => memp).kp k22 fun _ => memp) xtB2 (Nat.le_trans (m := 90) (by have q1 := lc none (some (k : Int)); have q2 := lc (some ((k : Int) + 1)) none; have q3 := lc (some (k : Int)) none; (try simp only [List.length_append, List.length_map, List.length_cons, List.length_nil]); omega) (by decide)) (fun B2 H23 k23 xB2 => ?_)
  have hS23 : ∀ s ∈ [p], H23 s ≠ none := fun s z => k23.tr_ s (hS22 s z)
  have hd23 := hd22.kp k23 fun _ => memp
  have hs23 := hs22.kp k23 fun _ => memp
  have w23 := w22.kp k23 (by simp)
  refine ⟨.ref sa, rfl, .int k, rfl, _, rfl, ?_⟩
  try delta tNoPart
  refine dxl_slice (ds := L.map sparkD) hS23 hs23 (fun B3 H24 k24 xB3 => ?_)
  have hS24 : ∀ s ∈ [p], H24 s ≠ none := fun s z => k24.tr_ s (hS23 s z)
  have hd24 := hd23.kp k24 fun _ => memp
  have hs24 := hs23.kp k24 fun _ => memp
  have w24 := w23.kp k24 (by simp)
  refine dxl_cat (ds := cutD (L.map sparkD) none (some (k : Int)) ++ [.tuple [.int pr.1, dT]]) (es := cutD (L.map sparkD) (some (k : Int)) none) hS24 (xB2.kp k24 fun _ => memp) xB3 (Nat.le_trans (m := 90) (by have q1 := lc none (some (k : Int)); have q2 := lc (some ((k : Int) + 1)) none; have q3 := lc (some (k : Int)) none; (try simp only [List.length_append, List.length_map, List.length_cons, List.length_nil]); omega) (by decide)) (fun B4 H25 k25 xB4 => ?_)
  have hS25 : ∀ s ∈ [p], H25 s ≠ none := fun s z => k25.tr_ s (hS24 s z)
  have hd25 := hd24.kp k25 fun _ => memp
  have hs25 := hs24.kp k25 fun _ => memp
  have w25 := w24.kp k25 (by simp)
  have okB : OkV [p] 60000 50 H25 B4 := ⟨_, xB4, big (fun d hd => by
    simp only [List.mem_append, List.mem_singleton] at hd
    rcases hd with (hd | rfl) | hd
    · exact .inl (cutD_mem hd)
    · exact .inr fTB
    · exact .inl (cutD_mem hd)) (by have q1 := lc none (some (k : Int)); have q2 := lc (some ((k : Int) + 1)) none; have q3 := lc (some (k : Int)) none; (try simp only [List.length_append, List.length_map, List.length_cons, List.length_nil]); omega)⟩
  refine ⟨.ref sa, rfl, .int k, rfl, _, rfl, ?_⟩
  refine dxl_slice (ds := L.map sparkD) hS25 hs25 (fun C1 H26 k26 xC1 => ?_)
  have hS26 : ∀ s ∈ [p], H26 s ≠ none := fun s z => k26.tr_ s (hS25 s z)
  have hd26 := hd25.kp k26 fun _ => memp
  have hs26 := hs25.kp k26 fun _ => memp
  have w26 := w25.kp k26 (by simp)
  refine ⟨.ref sa, rfl, .int k, rfl, _, _, rfl, rfl, _, rfl, ?_⟩
  try delta tNoPart
  refine dxl_slice (ds := L.map sparkD) hS26 hs26 (fun C2 H27 k27 xC2 => ?_)
  have hS27 : ∀ s ∈ [p], H27 s ≠ none := fun s z => k27.tr_ s (hS26 s z)
  have hd27 := hd26.kp k27 fun _ => memp
  have hs27 := hs26.kp k27 fun _ => memp
  have w27 := w26.kp k27 (by simp)
  refine dxl_cat (ds := cutD (L.map sparkD) none (some (k : Int))) (es := cutD (L.map sparkD) (some ((k : Int) + 1)) none) hS27 (xC1.kp k27 fun _ => memp) xC2 (Nat.le_trans (m := 90) (by have q1 := lc none (some (k : Int)); have q2 := lc (some ((k : Int) + 1)) none; have q3 := lc (some (k : Int)) none; (try simp only [List.length_append, List.length_map, List.length_cons, List.length_nil]); omega) (by decide)) (fun C3 H28 k28 xC3 => ?_)
  have hS28 : ∀ s ∈ [p], H28 s ≠ none := fun s z => k28.tr_ s (hS27 s z)
  have hd28 := hd27.kp k28 fun _ => memp
  have hs28 := hs27.kp k28 fun _ => memp
  have w28 := w27.kp k28 (by simp)
  have okC : OkV [p] 60000 50 H28 C3 := ⟨_, xC3, big (fun d hd => by
    rcases List.mem_append.mp hd with hd | hd
    · exact .inl (cutD_mem hd)
    · exact .inl (cutD_mem hd)) (by have q1 := lc none (some (k : Int)); have q2 := lc (some ((k : Int) + 1)) none; have q3 := lc (some (k : Int)) none; (try simp only [List.length_append, List.length_map, List.length_cons, List.length_nil]); omega)⟩
  refine ⟨by show 3 ≤ sizeLine; decide, fun s1 ns1 => ?_⟩
  obtain ⟨H29, e29⟩ : ∃ H29, H29 = upd H28 s1 (.lst [A4, B4, C3]) := ⟨_, rfl⟩
  rw [← e29]
  have k29 : Kp [] H28 H29 := e29 ▸ Kp.new ns1
  have hS29 : ∀ s ∈ [p], H29 s ≠ none := fun s z => k29.tr_ s (hS28 s z)
  have hd29 := hd28.kp k29 fun _ => memp
  have hs29 := hs28.kp k29 fun _ => memp
  have w29 := w28.kp k29 (by simp)
  have hs1_ : H29 s1 = some (.lst [A4, B4, C3]) := by rw [e29]; exact upd_same
  have s1p : s1 ∉ [p] := by
    have : p ≠ s1 := fun e => w28.tr (e ▸ ns1)
    simpa using this.symm
  refine ⟨.ref s1, rfl, ?_⟩
  refine ⟨.ref sa, rfl, .int pr.1, rfl, .int (pr.2 : Nat), rfl, by show 2 ≤ sizeLine; decide, fun tD ntD => ?_⟩
  obtain ⟨H30, e30⟩ : ∃ H30, H30 = upd H29 tD (.tup [.int pr.1, .int (pr.2 : Nat)]) := ⟨_, rfl⟩
  rw [← e30]
  have k30 : Kp [] H29 H30 := e30 ▸ Kp.new ntD
  have hS30 : ∀ s ∈ [p], H30 s ≠ none := fun s z => k30.tr_ s (hS29 s z)
  have hd30 := hd29.kp k30 fun _ => memp
  have hs30 := hs29.kp k30 fun _ => memp
  have w30 := w29.kp k30 (by simp)
  have xtD : Dx [p] H30 (.ref tD) (sparkD pr) := e30 ▸ Dx.newT hS29 ntD (.cons (.int _) (.cons (.int _) .nil))
  refine ⟨by show 1 ≤ sizeLine; decide, fun tD2 ntD2 => ?_⟩
  obtain ⟨H31, e31⟩ : ∃ H31, H31 = upd H30 tD2 (.lst [.ref tD]) := ⟨_, rfl⟩
  rw [← e31]
  have k31 : Kp [] H30 H31 := e31 ▸ Kp.new ntD2
  have hS31 : ∀ s ∈ [p], H31 s ≠ none := fun s z => k31.tr_ s (hS30 s z)
  have hd31 := hd30.kp k31 fun _ => memp
  have hs31 := hs30.kp k31 fun _ => memp
  have w31 := w30.kp k31 (by simp)
  have xtD2 : Dx [p] H31 (.ref tD2) (.list [sparkD pr]) := e31 ▸ Dx.newL hS30 ntD2 (.cons xtD .nil)
  refine dxl_cat (ds := L.map sparkD) (es := [sparkD pr]) hS31 hs31 xtD2 (Nat.le_trans (m := 90) (by have q1 := lc none (some (k : Int)); have q2 := lc (some ((k : Int) + 1)) none; have q3 := lc (some (k : Int)) none; (try simp only [List.length_append, List.length_map, List.length_cons, List.length_nil]); omega) (by decide)) (fun D1 H32 k32 xD1 => ?_)
  have hS32 : ∀ s ∈ [p], H32 s ≠ none := fun s z => k32.tr_ s (hS31 s z)
  have hd32 := hd31.kp k32 fun _ => memp
  have hs32 := hs31.kp k32 fun _ => memp
  have w32 := w31.kp k32 (by simp)
  try delta tC
  refine dxl_rep (ds := L.map sparkD ++ [sparkD pr]) (k := 41) hS32 xD1 (by decide) (by decide) (by have q1 := lc none (some (k : Int)); have q2 := lc (some ((k : Int) + 1)) none; have q3 := lc (some (k : Int)) none; (try simp only [List.length_append, List.length_map, List.length_cons, List.length_nil]); omega) (fun D2 H33 k33 xD2 => ?_)
  have hS33 : ∀ s ∈ [p], H33 s ≠ none := fun s z => k33.tr_ s (hS32 s z)
  have hd33 := hd32.kp k33 fun _ => memp
  have hs33 := hs32.kp k33 fun _ => memp
  have w33 := w32.kp k33 (by simp)
  have fpr : Fit 2 1 (sparkD pr) := spark_fit1 (by omega) hps
  have lenD : ((List.replicate (41 : Int).toNat (L.map sparkD ++ [sparkD pr])).flatten).length ≤ 1681 := by
    rw [List.length_flatten, List.map_replicate, List.sum_replicate_nat, List.length_append, List.length_map]
    show 41 * (L.length + 1) ≤ 1681
    omega
  have okD_ : OkV [p] 60000 50 H33 D2 := ⟨_, xD2, (fit_lst (w := 2) (k := 1) (n := 1681) (fun d hd => by
    rcases List.mem_append.mp (rep_mem hd) with hd | hd
    · exact fL d hd
    · obtain rfl := List.mem_singleton.mp hd
      exact fpr) lenD).mono (by decide) (by decide)⟩
  refine ⟨.int pr.1, rfl, .int (pr.2 : Nat), rfl, by show 2 ≤ sizeLine; decide, fun tE ntE => ?_⟩
  obtain ⟨H34, e34⟩ : ∃ H34, H34 = upd H33 tE (.tup [.int pr.1, .int (pr.2 : Nat)]) := ⟨_, rfl⟩
  rw [← e34]
  have k34 : Kp [] H33 H34 := e34 ▸ Kp.new ntE
  have hS34 : ∀ s ∈ [p], H34 s ≠ none := fun s z => k34.tr_ s (hS33 s z)
  have hd34 := hd33.kp k34 fun _ => memp
  have hs34 := hs33.kp k34 fun _ => memp
  have w34 := w33.kp k34 (by simp)
  have xtE : Dx [p] H34 (.ref tE) (sparkD pr) := e34 ▸ Dx.newT hS33 ntE (.cons (.int _) (.cons (.int _) .nil))
  refine ⟨by show 1 ≤ sizeLine; decide, fun tE2 ntE2 => ?_⟩
  obtain ⟨H35, e35⟩ : ∃ H35, H35 = upd H34 tE2 (.lst [.ref tE]) := ⟨_, rfl⟩
  rw [← e35]
  have k35 : Kp [] H34 H35 := e35 ▸ Kp.new ntE2
  have hS35 : ∀ s ∈ [p], H35 s ≠ none := fun s z => k35.tr_ s (hS34 s z)
  have hd35 := hd34.kp k35 fun _ => memp
  have hs35 := hs34.kp k35 fun _ => memp
  have w35 := w34.kp k35 (by simp)
  have xtE2 : Dx [p] H35 (.ref tE2) (.list [sparkD pr]) := e35 ▸ Dx.newL hS34 ntE2 (.cons xtE .nil)
  try delta tC
  refine dxl_rep (ds := [sparkD pr]) (k := 41) hS35 xtE2 (by decide) (by decide) (by show 1 ≤ 1000; decide) (fun E1 H36 k36 xE1 => ?_)
  have hS36 : ∀ s ∈ [p], H36 s ≠ none := fun s z => k36.tr_ s (hS35 s z)
  have hd36 := hd35.kp k36 fun _ => memp
  have hs36 := hs35.kp k36 fun _ => memp
  have w36 := w35.kp k36 (by simp)
  try delta tNoPart
  refine ⟨.ref p, rfl, p, 3, _, rfl, by decide, by decide, w36, by omega, fun r37 H37 a37 b37 k37 w37 => ?_⟩
  have hS37 : ∀ s ∈ [p], H37 s ≠ none := fun s z => k37.tr_ s (hS36 s z)
  have hd37 := hd36.kp k37 fun _ => tx
  have hs37 := hs36.kp k37 fun _ => tx
  refine ⟨_, _, rfl, rfl, _, rfl, ?_⟩
  obtain ⟨cE, hcE, hcE2⟩ : ∃ cE : Nat, (39 + r37 : Int) = (cE : Int) ∧ cE ≤ 41 := ⟨(39 + r37).toNat, by omega, by omega⟩
  rw [hcE]
  refine dxl_slice (ds := (List.replicate (41 : Int).toNat [sparkD pr]).flatten) hS37 (xE1.kp k37 fun _ => tx) (fun E2 H38 k38 xE2 => ?_)
  have hS38 : ∀ s ∈ [p], H38 s ≠ none := fun s z => k38.tr_ s (hS37 s z)
  have hd38 := hd37.kp k38 fun _ => memp
  have hs38 := hs37.kp k38 fun _ => memp
  have w38 := w37.kp k38 (by simp)
  have okE : OkV [p] 60000 50 H38 E2 := ⟨_, xE2, (fit_lst (w := 2) (k := 1) (n := 41) (fun d hd => by
    obtain rfl := List.mem_singleton.mp (rep_mem (cutD_mem hd))
    exact fpr) (Nat.le_trans (cutD_to _ cE) hcE2)).mono (by decide) (by decide)⟩
  obtain ⟨zsF, hzF, rzF⟩ := rev_at (ds := L.map sparkD) hs38
  refine ⟨.ref sa, rfl, sa, zsF, rfl, SqL.of hzF, fun F0 nF0 => ?_⟩
  obtain ⟨H39, e39⟩ : ∃ H39, H39 = upd H38 F0 (.lst zsF.reverse) := ⟨_, rfl⟩
  rw [← e39]
  have k39 : Kp [] H38 H39 := e39 ▸ Kp.new nF0
  have hS39 : ∀ s ∈ [p], H39 s ≠ none := fun s z => k39.tr_ s (hS38 s z)
  have hd39 := hd38.kp k39 fun _ => memp
  have hs39 := hs38.kp k39 fun _ => memp
  have w39 := w38.kp k39 (by simp)
  have xF1 : Dx [p] H39 (.ref F0) (.list (L.map sparkD).reverse) := e39 ▸ Dx.newL hS38 nF0 (revA rzF)
  have okF : OkV [p] 60000 50 H39 (.ref F0) := ⟨_, xF1, big (fun d hd => .inl (List.mem_reverse.mp hd)) (by rw [List.length_reverse, List.length_map]; omega)⟩
  refine ⟨by show 3 ≤ sizeLine; decide, fun s2 ns2 => ?_⟩
  obtain ⟨H40, e40⟩ : ∃ H40, H40 = upd H39 s2 (.lst [D2, E2, .ref F0]) := ⟨_, rfl⟩
  rw [← e40]
  have k40 : Kp [] H39 H40 := e40 ▸ Kp.new ns2
  have hS40 : ∀ s ∈ [p], H40 s ≠ none := fun s z => k40.tr_ s (hS39 s z)
  have hd40 := hd39.kp k40 fun _ => memp
  have hs40 := hs39.kp k40 fun _ => memp
  have w40 := w39.kp k40 (by simp)
  have hs2_ : H40 s2 = some (.lst [D2, E2, .ref F0]) := by rw [e40]; exact upd_same
  refine ⟨s1, s2, _, _, rfl, rfl, SqL.of (k40.lst (by simp) (k39.lst (by simp) (k38.lst (by simp) (k37.lst s1p (k36.lst (by simp) (k35.lst (by simp) (k34.lst (by simp) (k33.lst (by simp) (k32.lst (by simp) (k31.lst (by simp) (k30.lst (by simp) hs1_))))))))))), SqL.of hs2_, by show 6 ≤ sizeLine; decide, fun sm nsm => ?_⟩
  have hall6 : ∀ v ∈ [A4, B4, C3, D2, E2, V.ref F0], OkV [p] 60000 50 H40 v := by
    intro v hv
    simp only [List.mem_cons, List.not_mem_nil, or_false] at hv
    rcases hv with rfl | rfl | rfl | rfl | rfl | rfl
    · exact (((((((((((((((((((((okA.kp k20 fun _ => memp).kp k21 fun _ => memp).kp k22 fun _ => memp).kp k23 fun _ => memp).kp k24 fun _ => memp).kp k25 fun _ => memp).kp k26 fun _ => memp).kp k27 fun _ => memp).kp k28 fun _ => memp).kp k29 fun _ => memp).kp k30 fun _ => memp).kp k31 fun _ => memp).kp k32 fun _ => memp).kp k33 fun _ => memp).kp k34 fun _ => memp).kp k35 fun _ => memp).kp k36 fun _ => memp).kp k37 fun _ => tx).kp k38 fun _ => memp).kp k39 fun _ => memp).kp k40 fun _ => memp)
    · exact (((((((((((((((okB.kp k26 fun _ => memp).kp k27 fun _ => memp).kp k28 fun _ => memp).kp k29 fun _ => memp).kp k30 fun _ => memp).kp k31 fun _ => memp).kp k32 fun _ => memp).kp k33 fun _ => memp).kp k34 fun _ => memp).kp k35 fun _ => memp).kp k36 fun _ => memp).kp k37 fun _ => tx).kp k38 fun _ => memp).kp k39 fun _ => memp).kp k40 fun _ => memp)
    · exact ((((((((((((okC.kp k29 fun _ => memp).kp k30 fun _ => memp).kp k31 fun _ => memp).kp k32 fun _ => memp).kp k33 fun _ => memp).kp k34 fun _ => memp).kp k35 fun _ => memp).kp k36 fun _ => memp).kp k37 fun _ => tx).kp k38 fun _ => memp).kp k39 fun _ => memp).kp k40 fun _ => memp)
    · exact (((((((okD_.kp k34 fun _ => memp).kp k35 fun _ => memp).kp k36 fun _ => memp).kp k37 fun _ => tx).kp k38 fun _ => memp).kp k39 fun _ => memp).kp k40 fun _ => memp)
    · exact ((okE.kp k39 fun _ => memp).kp k40 fun _ => memp)
    · exact (okF.kp k40 fun _ => memp)
  have ap6 : ∀ v ∈ [A4, B4, C3, D2, E2, V.ref F0], OkV [sm, p] 60000 50 H40 v := fun v hv => by
    obtain ⟨d, h1, h2⟩ := hall6 v hv
    exact ⟨d, h1.ap nsm, h2⟩
  have hsS := hs40.ap nsm
  obtain ⟨M0, eM0⟩ : ∃ M0, M0 = upd H40 sm (.lst [A4, B4, C3, D2, E2, V.ref F0]) := ⟨_, rfl⟩
  show (fun h' => _) (upd H40 sm (.lst [A4, B4, C3, D2, E2, V.ref F0]))
  rw [← eM0]
  have kM0 : Kp [] H40 M0 := eM0 ▸ Kp.new nsm
  have hsm0 : M0 sm = some (.lst [A4, B4, C3, D2, E2, V.ref F0]) := by rw [eM0]; exact upd_same
  have wM0 : Wick M0 p (n + 5) := w40.kp kM0 (by simp)
  have smp : sm ∉ [p] := by
    have : p ≠ sm := fun e => w40.tr (e ▸ nsm)
    simpa using this.symm
  have hSM : ∀ s ∈ [sm, p], M0 s ≠ none := fun s z => by
    simp only [List.mem_cons, List.not_mem_nil, or_false] at z
    rcases z with rfl | rfl
    · rw [hsm0]; exact fun q => by cases q
    · exact wM0.tr
  have qAll : Kp [p] H0 H40 := by
    have q1 := k1
    have q2 := q1.tr k2.of0
    have q3 := q2.tr k3.of0
    have q4 := q3.tr k4.of0
    have q5 := q4.tr k5.of0
    have q6 := q5.tr k6
    have q7 := q6.tr k7.of0
    have q8 := q7.tr k8
    have q9 := q8.tr k9.of0
    have q10 := q9.tr k10.of0
    have q11 := q10.tr k11.of0
    have q12 := q11.tr k12.of0
    have q13 := q12.tr k13.of0
    have q14 := q13.tr k14
    have q15 := q14.tr k15.of0
    have q16 := q15.tr k16.of0
    have q17 := q16.tr k17.of0
    have q18 := q17.tr k18.of0
    have q19 := q18.tr k19.of0
    have q20 := q19.tr k20.of0
    have q21 := q20.tr k21.of0
    have q22 := q21.tr k22.of0
    have q23 := q22.tr k23.of0
    have q24 := q23.tr k24.of0
    have q25 := q24.tr k25.of0
    have q26 := q25.tr k26.of0
    have q27 := q26.tr k27.of0
    have q28 := q27.tr k28.of0
    have q29 := q28.tr k29.of0
    have q30 := q29.tr k30.of0
    have q31 := q30.tr k31.of0
    have q32 := q31.tr k32.of0
    have q33 := q32.tr k33.of0
    have q34 := q33.tr k34.of0
    have q35 := q34.tr k35.of0
    have q36 := q35.tr k36.of0
    have q37 := q36.tr k37
    have q38 := q37.tr k38.of0
    have q39 := q38.tr k39.of0
    have q40 := q39.tr k40.of0
    exact q40
  have kAll : Kp [p] H0 M0 := qAll.tr kM0.of0
  have memS : ∀ {x : Addr}, x ∈ ([] : List Addr) → x ∈ [sm, p] := fun z => by cases z
  have memP : ∀ {x : Addr}, x ∈ [p] → x ∈ [sm, p] := fun z => List.mem_cons_of_mem _ z
  have memM : ∀ {x : Addr}, x ∈ [sm] → x ∈ [sm, p] := fun z => by
    obtain rfl := List.mem_singleton.mp z
    exact List.mem_cons_self
  have pm : p ∉ [sm] := by
    have : p ≠ sm := fun e => smp (by simp [e])
    simpa using this
  have hsmH : H0 sm = none := by
    cases e : H0 sm with
    | none => rfl
    | some o => exact absurd nsm (qAll.tr_ sm (by rw [e]; exact fun q => by cases q))
  have hsM0 : Dx [sm, p] M0 (.ref sa) (sparksD L) := hsS.kp kM0 fun _ => memS
  have apM0 : ∀ v ∈ [A4, B4, C3, D2, E2, V.ref F0], OkV [sm, p] 60000 50 M0 v := fun v hv => (ap6 v hv).kp kM0 fun _ => memS
  have okx : ∀ {H' : Hp} {v : V}, OkV [sm, p] 60000 50 H' v → OkX [sm, p] H' v := fun ⟨d, h1, h2⟩ => ⟨d, h1, .inl h2⟩
  have okxk : ∀ {T : List Addr} {H' H'' : Hp} {v : V}, OkX [sm, p] H' v → Kp T H' H'' → (∀ x ∈ T, x ∈ [sm, p]) → OkX [sm, p] H'' v := fun ⟨d, h1, h2⟩ k h => ⟨d, h1.kp k h, h2⟩
  have hSM0 := hSM
  refine ⟨.ref sm, rfl, .inl ⟨rfl, _, SqL.of hsm0⟩, ?_⟩
  obtain ⟨zs, hzs, rzs⟩ := rev_at (ds := L.map sparkD) hsM0
  refine ⟨.ref sa, rfl, sa, zs, rfl, .inl ⟨SqL.of hzs, fun b1_ nb1_ => ?_⟩⟩
  obtain ⟨M1, eM1⟩ : ∃ M1, M1 = upd M0 b1_ (.tup zs) := ⟨_, rfl⟩
  rw [← eM1]
  have kM1 : Kp [] M0 M1 := eM1 ▸ Kp.new nb1_
  have hSM1 : ∀ s ∈ [sm, p], M1 s ≠ none := fun s z => kM1.tr_ s (hSM0 s z)
  have hsM1 := hsM0.kp kM1 fun _ => memS
  have db1 : OkX [sm, p] M1 (.ref b1_) := ⟨.tuple (L.map sparkD), eM1 ▸ Dx.newT hSM0 nb1_ rzs, .inl ((fit_tup (w := 2) (k := 1) (n := 40) fL (by rw [List.length_map]; exact h40)).mono (by decide) (by decide))⟩
  refine ⟨Nat.zero_le _, fun b2_ nb2_ => ?_⟩
  obtain ⟨M2, eM2⟩ : ∃ M2, M2 = upd M1 b2_ (.tup []) := ⟨_, rfl⟩
  rw [← eM2]
  have kM2 : Kp [] M1 M2 := eM2 ▸ Kp.new nb2_
  have hSM2 : ∀ s ∈ [sm, p], M2 s ≠ none := fun s z => kM2.tr_ s (hSM1 s z)
  have hsM2 := hsM1.kp kM2 fun _ => memS
  have db2 : OkX [sm, p] M2 (.ref b2_) := ⟨.tuple [], eM2 ▸ Dx.newT hSM1 nb2_ .nil, .inl ⟨rfl, Nat.zero_le _, by decide⟩⟩
  intro b3_ nb3_
  obtain ⟨M3, eM3⟩ : ∃ M3, M3 = upd M2 b3_ (.dK []) := ⟨_, rfl⟩
  rw [← eM3]
  have kM3 : Kp [] M2 M3 := eM3 ▸ Kp.new nb3_
  have hSM3 : ∀ s ∈ [sm, p], M3 s ≠ none := fun s z => kM3.tr_ s (hSM2 s z)
  have hsM3 := hsM2.kp kM3 fun _ => memS
  have db3 : OkX [sm, p] M3 (.ref b3_) := ⟨.dict [], .dic (fun z => hSM2 _ z nb3_) (by rw [eM3]; exact upd_same), .inr rfl⟩
  refine ⟨Nat.zero_le _, fun b4_ nb4_ => ?_⟩
  obtain ⟨M4, eM4⟩ : ∃ M4, M4 = upd M3 b4_ (.lst []) := ⟨_, rfl⟩
  rw [← eM4]
  have kM4 : Kp [] M3 M4 := eM4 ▸ Kp.new nb4_
  have hSM4 : ∀ s ∈ [sm, p], M4 s ≠ none := fun s z => kM4.tr_ s (hSM3 s z)
  have hsM4 := hsM3.kp kM4 fun _ => memS
  have d4 : Dx [sm, p] M4 (.ref b4_) (.list []) := eM4 ▸ Dx.newL hSM3 nb4_ .nil
  refine ⟨by show 1 ≤ sizeLine; decide, fun b5_ nb5_ => ?_⟩
  obtain ⟨M5, eM5⟩ : ∃ M5, M5 = upd M4 b5_ (.lst [.ref b4_]) := ⟨_, rfl⟩
  rw [← eM5]
  have kM5 : Kp [] M4 M5 := eM5 ▸ Kp.new nb5_
  have hSM5 : ∀ s ∈ [sm, p], M5 s ≠ none := fun s z => kM5.tr_ s (hSM4 s z)
  have hsM5 := hsM4.kp kM5 fun _ => memS
  have db5 : OkX [sm, p] M5 (.ref b5_) := ⟨.list [.list []], eM5 ▸ Dx.newL hSM4 nb5_ (.cons d4 .nil), .inl ⟨by decide, by decide, by decide⟩⟩
  refine ⟨Nat.zero_le _, fun b6_ nb6_ => ?_⟩
  obtain ⟨M6, eM6⟩ : ∃ M6, M6 = upd M5 b6_ (.tup []) := ⟨_, rfl⟩
  rw [← eM6]
  have kM6 : Kp [] M5 M6 := eM6 ▸ Kp.new nb6_
  have hSM6 : ∀ s ∈ [sm, p], M6 s ≠ none := fun s z => kM6.tr_ s (hSM5 s z)
  have hsM6 := hsM5.kp kM6 fun _ => memS
  have d6 : Dx [sm, p] M6 (.ref b6_) (.tuple []) := eM6 ▸ Dx.newT hSM5 nb6_ .nil
  refine ⟨by show 1 ≤ sizeLine; decide, fun b7_ nb7_ => ?_⟩
  obtain ⟨M7, eM7⟩ : ∃ M7, M7 = upd M6 b7_ (.lst [.ref b6_]) := ⟨_, rfl⟩
  rw [← eM7]
  have kM7 : Kp [] M6 M7 := eM7 ▸ Kp.new nb7_
  have hSM7 : ∀ s ∈ [sm, p], M7 s ≠ none := fun s z => kM7.tr_ s (hSM6 s z)
  have hsM7 := hsM6.kp kM7 fun _ => memS
  have db7 : OkX [sm, p] M7 (.ref b7_) := ⟨.list [.tuple []], eM7 ▸ Dx.newL hSM6 nb7_ (.cons d6 .nil), .inl ⟨by decide, by decide, by decide⟩⟩
  refine ⟨.ref sa, rfl, ?_⟩
  refine ⟨.ref sa, rfl, by show 1 ≤ sizeLine; decide, fun b8_ nb8_ => ?_⟩
  obtain ⟨M8, eM8⟩ : ∃ M8, M8 = upd M7 b8_ (.lst [.ref sa]) := ⟨_, rfl⟩
  rw [← eM8]
  have kM8 : Kp [] M7 M8 := eM8 ▸ Kp.new nb8_
  have hSM8 : ∀ s ∈ [sm, p], M8 s ≠ none := fun s z => kM8.tr_ s (hSM7 s z)
  have hsM8 := hsM7.kp kM8 fun _ => memS
  have d8 : Dx [sm, p] M8 (.ref b8_) (.list [sparksD L]) := eM8 ▸ Dx.newL hSM7 nb8_ (.cons hsM7 .nil)
  refine dxl_cat (ds := L.map sparkD) (es := [sparksD L]) hSM8 hsM8 d8 (Nat.le_trans (m := 41) (by rw [List.length_map]; show L.length + 1 ≤ 41; omega) (by decide)) (fun v9 M9 kM9 x9 => ?_)
  have hSM9 : ∀ s ∈ [sm, p], M9 s ≠ none := fun s z => kM9.tr_ s (hSM8 s z)
  have hsM9 := hsM8.kp kM9 fun _ => memS
  have fS : Fit 130 2 (sparksD L) := (fit_lst (w := 2) (k := 1) (n := 40) fL (by rw [List.length_map]; exact h40)).mono (by decide) (by decide)
  have db9 : OkX [sm, p] M9 v9 := ⟨_, x9, .inl ((fit_lst (w := 130) (k := 2) (n := 41) (fun d hd => by
    rcases List.mem_append.mp hd with hd | hd
    · exact (fL d hd).mono (by decide) (by decide)
    · obtain rfl := List.mem_singleton.mp hd
      exact fS) (by rw [List.length_append, List.length_map]; show L.length + 1 ≤ 41; omega)).mono (by decide) (by decide))⟩
  have kME : Kp [] M0 M9 := kM1.tr (kM2.tr (kM3.tr (kM4.tr (kM5.tr (kM6.tr (kM7.tr (kM8.tr (kM9))))))))
  refine ⟨by show 10 ≤ sizeLine; decide, fun lb nlb => ?_⟩
  obtain ⟨bd, hbd⟩ : ∃ bd, bd = ([V.ref b1_, .non, .int 0, .bl true, .str "", .ref b2_, .ref b3_, .ref b5_, .ref b7_, v9] : List V) := ⟨_, rfl⟩
  have lbd : bd.length = 10 := by rw [hbd]; rfl
  have abd : ∀ v ∈ bd, OkX [sm, p] M9 v := by
    rw [hbd]
    intro v hv
    simp only [List.mem_cons, List.not_mem_nil, or_false] at hv
    rcases hv with rfl | rfl | rfl | rfl | rfl | rfl | rfl | rfl | rfl | rfl
    · exact (okxk (okxk (okxk (okxk (okxk (okxk (okxk (okxk db1 kM2 fun _ => memS) kM3 fun _ => memS) kM4 fun _ => memS) kM5 fun _ => memS) kM6 fun _ => memS) kM7 fun _ => memS) kM8 fun _ => memS) kM9 fun _ => memS)
    · exact okx OkV.non
    · exact okx (OkV.int (by decide) (by decide))
    · exact okx (OkV.bl _)
    · exact ⟨_, .str _, .inl ⟨by decide, by decide, Nat.zero_le _⟩⟩
    · exact (okxk (okxk (okxk (okxk (okxk (okxk (okxk db2 kM3 fun _ => memS) kM4 fun _ => memS) kM5 fun _ => memS) kM6 fun _ => memS) kM7 fun _ => memS) kM8 fun _ => memS) kM9 fun _ => memS)
    · exact (okxk (okxk (okxk (okxk (okxk (okxk db3 kM4 fun _ => memS) kM5 fun _ => memS) kM6 fun _ => memS) kM7 fun _ => memS) kM8 fun _ => memS) kM9 fun _ => memS)
    · exact (okxk (okxk (okxk (okxk db5 kM6 fun _ => memS) kM7 fun _ => memS) kM8 fun _ => memS) kM9 fun _ => memS)
    · exact (okxk (okxk db7 kM8 fun _ => memS) kM9 fun _ => memS)
    · exact db9
  show (fun p' => _) lb
  rw [show ([V.ref b1_, .non, .int 0, .bl true, .str "", .ref b2_, .ref b3_, .ref b5_, .ref b7_, v9] : List V) = bd from hbd.symm]
  have wME := wM0.kp kME (by simp)
  have hsmE := kME.lst (by simp) hsm0
  have lbp : lb ∉ [p] := by
    have : p ≠ lb := fun e => wME.tr (e ▸ nlb)
    simpa using this.symm
  refine ⟨.ref p, rfl, p, 10, _, rfl, by decide, by decide, wME.kp (Kp.new (S := []) nlb) (by simp), by omega, fun rb N1 ab bb kkb wN1 => ?_⟩
  obtain ⟨yv, hyv, myv⟩ := at_mem (xs := bd) ab (by rw [lbd]; exact bb)
  refine ⟨lb, _, rb, yv, rfl, rfl, SqL.of (kkb.lst lbp upd_same), hyv, ?_⟩
  have kN1 : Kp [p] M9 N1 := (Kp.new nlb).tr kkb
  have k0N : Kp [p] M0 N1 := kME.of0.tr kN1
  have hsmN := k0N.lst smp hsm0
  refine ⟨sm, _, yv, rfl, rfl, hsmN, by show 6 < sizeLine; decide, ?_⟩
  obtain ⟨fv, hfv⟩ : ∃ fv, fv = ([A4, B4, C3, D2, E2, .ref F0] ++ [yv] : List V) := ⟨_, rfl⟩
  rw [← hfv]
  obtain ⟨N2, eN2⟩ : ∃ N2, N2 = upd N1 sm (.lst fv) := ⟨_, rfl⟩
  rw [← eN2]
  have kN2 : Kp [sm] N1 N2 := eN2 ▸ Kp.put (by simp) hsmN (fun ps e => by cases e)
  have hsmN2 : N2 sm = some (.lst fv) := by rw [eN2]; exact upd_same
  have lfv : fv.length = 7 := by rw [hfv]; rfl
  have afv : ∀ v ∈ fv, OkX [sm, p] N2 v := by
    rw [hfv]
    intro v hv
    rcases List.mem_append.mp hv with hv | hv
    · exact okxk (okxk (okx (apM0 v hv)) k0N fun _ => memP) kN2 fun _ => memM
    · obtain rfl := List.mem_singleton.mp hv
      exact okxk (okxk (abd _ myv) kN1 fun _ => memP) kN2 fun _ => memM
  have wN2 := wN1.kp kN2 pm
  -- return some[[..][..]]
  refine ⟨.ref sm, rfl, by show 9 ≤ sizeLine; decide, fun lc_ nlc => ?_⟩
  have lcp : lc_ ∉ [p] := by
    have : p ≠ lc_ := fun e => wN2.tr (e ▸ nlc)
    simpa using this.symm
  refine ⟨.ref p, rfl, p, 9, _, rfl, by decide, by decide, wN2.kp (Kp.new (S := []) nlc) (by simp), by omega, fun rc N3 ac bc kkc wN3 => ?_⟩
  obtain ⟨zv, hzv, mzv⟩ := at_mem (xs := [.int 0, .int 0, .int 1, .int 2, .int 3, .int 4, .int 5, .int 6, .int 6]) ac (by simpa using bc)
  refine ⟨lc_, _, rc, zv, rfl, rfl, SqL.of (kkc.lst lcp upd_same), hzv, ?_⟩
  have kN3 : Kp [p] N2 N3 := (Kp.new nlc).tr kkc
  obtain ⟨zi, rfl, za, zb⟩ : ∃ zi : Int, zv = .int zi ∧ 0 ≤ zi ∧ zi < 7 := by
    simp only [List.mem_cons, List.not_mem_nil, or_false] at mzv
    rcases mzv with rfl | rfl | rfl | rfl | rfl | rfl | rfl | rfl | rfl <;> exact ⟨_, rfl, by decide, by decide⟩
  obtain ⟨xv, hxv, mxv⟩ := at_mem (xs := fv) za (by rw [lfv]; exact zb)
  refine ⟨sm, _, zi, xv, rfl, rfl, SqL.of (kN3.lst smp hsmN2), hxv, ?_⟩
  obtain ⟨d, hd', hf'⟩ := okxk (afv xv mxv) kN3 fun _ => memP
  have kEnd : Kp [sm, p] H0 N3 := (kAll.wk fun _ => memP).tr ((k0N.wk fun _ => memP).tr ((kN2.wk fun _ => memM).tr (kN3.wk fun _ => memP)))
  exact q xv N3 d (hd'.wk fun _ => memP) hf' (Kp.drop hsmH kEnd) (wN3.mono (by omega))
def spRight (TB TB2 : Addr) : Sp := fun vs H Q _ => ∃ (p : Addr), vs = [.ref p] ∧ Wick H p 0 ∧ GxR.TabG H TB ∧ GxR.TabG H TB2 ∧ ∀ H', Kp [p] H H' → Q (.bl true) H'
theorem ok_law_right (T : Tx K mg a) (TB : GxR.TabB base mg a.cd_is_net a.tb_is_net) (TB2 : GxR.TabB base mg a.cd_are_kindlings a.tb_are_kindlings) : FnG P w K mg base CX0 11 a.a_law_right a.f_law_right ["wick"] (spRight a.tb_is_net a.tb_are_kindlings) := by
  have G_law_pick := ok_law_pick (P := P) (w := w) (base := base) T
  have G_law_mesh := ok_law_mesh (P := P) (w := w) (base := base) T
  have G_law_sparks := ok_law_sparks (P := P) (w := w) (base := base) T
  have G_law_are_sparks := ok_law_are_sparks (P := P) (w := w) (base := base) T
  have G_law_bent := ok_law_bent (P := P) (w := w) (base := base) T
  have G_are_kindlings := ok_are_kindlings (P := P) (w := w) (base := base) T TB TB2
  refine okG0 T.law_right.F sc_law_right (fun vs H Q E h => ?_) (fun cdv A outer s H vs Q E hG hr h => ?_)
  · obtain ⟨p, rfl, _⟩ := h
    rfl
  obtain ⟨p, rfl, hw, ht, ht2, q⟩ := h
  refine ⟨_, (pss_cons (ps_set (i := 1) sc_law_right.nd rfl (by first | exact .inl rfl | exact .inr rfl) (pe_call G_law_mesh (hr.mono (by decide)) (by rfl) T.law_mesh.g T.law_mesh.F.kp T.law_mesh.b .nil pass0 (pa_cons (pv 0) pa_nil)))
      (pss_cons (ps_set (i := 2) sc_law_right.nd rfl (by first | exact .inl rfl | exact .inr rfl) (pe_call G_law_sparks (hr.mono (by decide)) (by rfl) T.law_sparks.g T.law_sparks.F.kp T.law_sparks.b .nil pass0 (pa_cons (pv 0) (pa_cons (pv 1) pa_nil))))
      (pss_cons (ps_for PassesOwn.never rfl (pi_range1 (by rfl) T.n_range (pa_cons (pe_ix ix_list (pe_lst (pa_cons pe_int (pa_cons pe_int (pa_cons pe_int (pa_cons pe_int pa_nil))))) (pe_call G_law_pick (hr.mono (by decide)) (by rfl) T.law_pick.g T.law_pick.F.kp T.law_pick.b .nil pass0 (pa_cons (pv 0) (pa_cons pe_int pa_nil))) (fun _ _ => rfl)) pa_nil)) (pg_name (i := 3) sc_law_right.nd rfl (by first | exact .inl rfl | exact .inr rfl)) (pss_one (ps_if (pt_val (pe_call G_law_are_sparks (hr.mono (by decide)) (by rfl) T.law_are_sparks.g T.law_are_sparks.F.kp T.law_are_sparks.b .nil pass0 (pa_cons (pv 1) (pa_cons (pv 2) pa_nil)))) (pss_one (ps_set (i := 2) sc_law_right.nd rfl (by first | exact .inl rfl | exact .inr rfl) (pe_call G_law_bent (hr.mono (by decide)) (by rfl) T.law_bent.g T.law_bent.F.kp T.law_bent.b .nil pass0 (pa_cons (pv 0) (pa_cons (pv 1) (pa_cons (pv 2) pa_nil)))))) pss_nil)))
      (pss_cons (ps_set (i := 4) sc_law_right.nd rfl (by first | exact .inl rfl | exact .inr rfl) (pe_callB (call_reprPair hG hr) (by rfl) T.n_repr (by decide +kernel) (pa_cons (pe_lstX (pa_cons (pv 1) (pa_cons (pv 2) pa_nil))) pa_nil)))
      (pss_cons (ps_set (i := 5) sc_law_right.nd rfl (by first | exact .inl rfl | exact .inr rfl) (pe_call G_law_are_sparks (hr.mono (by decide)) (by rfl) T.law_are_sparks.g T.law_are_sparks.F.kp T.law_are_sparks.b .nil pass0 (pa_cons (pv 1) (pa_cons (pv 2) pa_nil))))
      (pss_cons (ps_for PassesOwn.never rfl (pi_list (pe_lst (pa_cons (pe_call G_are_kindlings (hr.mono (by decide)) (by rfl) T.are_kindlings.g T.are_kindlings.F.kp T.are_kindlings.b .nil pass0 (pa_cons (pv 1) (pa_cons (pv 2) pa_nil))) (pa_cons (pe_kwG (FnG.of G_are_kindlings) hG (hr.mono (by decide)) (by rfl) T.are_kindlings.g T.are_kindlings.F.kp (kb_are_kindlings_thing_net T) pass0 (pk_cons (pv 2) (pk_cons (pv 1) pk_nil))) pa_nil)))) (pg_name (i := 6) sc_law_right.nd rfl (by first | exact .inl rfl | exact .inr rfl)) (pss_one (ps_if (PW.pt (pw_or (pt_not (pt_val (pe_callB call_isi (by rfl) T.n_isinstance (by decide +kernel) (pa_cons (pv 6) (pa_cons (pe_bltn (v := .ty "bool") (by rfl) T.n_bool (by decide +kernel) rfl) pa_nil))))) (pw_or1 (pt_cmpR (op_neD hr.units) (pv 6) (pv 5) (nomark _))))) (pss_one (ps_ret pe_bl)) pss_nil)))
      (pss_one (ps_ret (pe_cmpR op_eq (pe_callB (call_reprPair hG hr) (by rfl) T.n_repr (by decide +kernel) (pa_cons (pe_lstX (pa_cons (pv 1) (pa_cons (pv 2) pa_nil))) pa_nil)) (pv 4) (nomark _)))))))))), ?_⟩
  -- mesh = _law_mesh(wick)
  refine ⟨.ref p, rfl, p, 0, rfl, hw, by decide, fun v1 H1 N okN sN nw1 k1 w1 => ?_⟩
  have hn1 : Dx [p] H1 v1 (netD N) := nw1 [p] fun s z => by
    obtain rfl := List.mem_singleton.mp z
    exact hw.tr
  have h12 := okN.hi
  have tx : ∀ {x : Addr}, x ∈ [p] → x ∈ [p] := fun z => z
  have memp : ∀ {x : Addr}, x ∈ ([] : List Addr) → x ∈ [p] := fun z => by cases z
  -- what = _law_sparks(wick, mesh)
  refine ⟨.ref p, rfl, v1, rfl, p, v1, N, _, rfl, w1, by omega, hn1, okN, fun u2 H2 L okL hs2 k2 w2 => ?_⟩
  have hn2 := hn1.kp k2 fun _ => tx
  have f2 : Fit 60000 50 (sparksD L) := (fit_lst (w := 2) (k := 1) (n := 40) (spark_fit h12 okL) (by rw [List.length_map]; exact okL.len)).mono (by decide) (by decide)
  -- for turn in range([..][..])
  refine ⟨by show 4 ≤ sizeLine; decide, fun l nl => ?_⟩
  have lp : l ∉ [p] := by
    have : p ≠ l := fun e => w2.tr (e ▸ nl)
    simpa using this.symm
  refine ⟨.ref p, rfl, p, 4, _, rfl, by decide, by decide, w2.kp (Kp.new (S := []) nl) (by simp), by omega, fun r H3 a3 b3 kk3 w3 => ?_⟩
  obtain ⟨zv, hzv, mzv⟩ := at_mem (xs := [.int 0, .int 1, .int 1, .int 2]) a3 (by simpa using b3)
  refine ⟨l, _, r, zv, rfl, rfl, SqL.of (kk3.lst lp upd_same), hzv, ?_⟩
  have k3 : Kp [p] H2 H3 := (Kp.new nl).tr kk3
  obtain ⟨m, rfl, hm⟩ : ∃ m : Nat, zv = .int (m : Int) ∧ m ≤ 2 := by
    simp only [List.mem_cons, List.not_mem_nil, or_false] at mzv
    rcases mzv with rfl | rfl | rfl | rfl
    · exact ⟨0, rfl, by decide⟩
    · exact ⟨1, rfl, by decide⟩
    · exact ⟨1, rfl, by decide⟩
    · exact ⟨2, rfl, by decide⟩
  have hn3 := hn2.kp k3 fun _ => tx
  refine ⟨m, rfl, by omega, by omega, for_range (n := m) (fun i σ H' => ∃ (u : V) (d : PyData) (o3 : Option V), σ = [some (.ref p), some v1, some u, o3, none, none, none] ∧ Dx [p] H' u d ∧ (Fit 60000 50 d ∨ d = .dict []) ∧ Kp [p] H3 H' ∧ Wick H' p (1000 + 7 * i)) ⟨u2, sparksD L, none, rfl, hs2.kp k3 fun _ => tx, .inl f2, .rfl', w3.mono (by omega)⟩ (fun i σ H' hi hP => ?_) (fun σ H4 hP => ?_)⟩
  · obtain ⟨u, d, o3, rfl, hd, hf, k4, w4⟩ := hP
    have hn4 := hn3.kp k4 fun _ => tx
    refine ⟨v1, rfl, u, rfl, [p], v1, u, N, d, rfl, hn4, hd, _, rfl, ?_⟩
    cases z : sparksB N.length d with
    | false => exact iteF ⟨u, d, _, rfl, hd, hf, k4, w4.mono (by omega)⟩
    | true =>
      have ok_ : okD d = true := by
        rcases hf with hf | rfl
        · exact hf.ok
        · cases z
      obtain ⟨L', rfl, okL'⟩ := sparks_of z ok_
      exact iteT ⟨.ref p, rfl, v1, rfl, u, rfl, p, v1, u, N, L', _, rfl, w4, by omega, hn4, okN, hd, okL', fun v' H'' d' h1 h2 k5 w5 => ⟨v', d', _, rfl, h1, h2, k4.tr k5, w5.mono (by omega)⟩⟩
  obtain ⟨u, d, o3, rfl, hd, hf, k4, w4⟩ := hP
  have hn4 := hn3.kp k4 fun _ => tx
  obtain ⟨sp1, sp2, sp3, sp4⟩ := pair_shows okN sN hf
  have kH4 : Kp [p] H H4 := k1.tr (k2.tr (k3.tr k4))
  have ht4 := kH4.tab _ ht
  have ht24 := kH4.tab _ ht2
  obtain ⟨tx', etx⟩ : ∃ tx', tx' = (pairD N d).shown := ⟨_, rfl⟩
  -- kept = repr([mesh, what])
  refine ⟨v1, rfl, u, rfl, by show 2 ≤ sizeLine; decide, fun b nb hb => ?_⟩
  obtain ⟨H5, e5⟩ : ∃ H5, H5 = upd H4 b (.lst [v1, u]) := ⟨_, rfl⟩
  rw [← e5]
  have k5 : Kp [] H4 H5 := e5 ▸ Kp.new nb
  have hb5 : H5 b = some (.lst [v1, u]) := by rw [e5]; exact upd_same
  have hn5 := hn4.kp k5 fun _ => memp
  have hd5 := hd.kp k5 fun _ => memp
  refine ⟨[p], b, v1, u, N, d, rfl, hb5, hb, hn5, hd5, sp1, sp2, sp3, sp4, ?_⟩
  rw [← etx]
  -- due = _law_are_sparks(mesh, what)
  refine ⟨v1, rfl, u, rfl, [p], v1, u, N, d, rfl, hn5, hd5, ?_⟩
  -- for told in [..]
  refine ⟨v1, rfl, u, rfl, [p], v1, u, N, d, rfl, hn5, okN, hd5, k5.tab _ ht4, k5.tab _ ht24, fun H6 k6 => ?_⟩
  have hn6 := hn5.kp k6 fun _ => memp
  have hd6 := hd5.kp k6 fun _ => memp
  refine ⟨u, rfl, v1, rfl, [p], v1, u, N, d, rfl, hn6, okN, hd6, k6.tab _ (k5.tab _ ht4), k6.tab _ (k5.tab _ ht24), fun H7 k7 => ?_⟩
  have hn7 := hn6.kp k7 fun _ => memp
  have hd7 := hd6.kp k7 fun _ => memp
  obtain ⟨B, eB⟩ : ∃ B, B = sparksB N.length d := ⟨_, rfl⟩
  rw [← eB]
  refine ⟨by show 2 ≤ sizeLine; decide, fun c nc => ?_⟩
  obtain ⟨H8, e8⟩ : ∃ H8, H8 = upd H7 c (.lst [.bl B, .bl B]) := ⟨_, rfl⟩
  rw [← e8]
  have k8 : Kp [] H7 H8 := e8 ▸ Kp.new nc
  have hc8 : H8 c = some (.lst [.bl B, .bl B]) := by rw [e8]; exact upd_same
  have hn8 := hn7.kp k8 fun _ => memp
  have hd8 := hd7.kp k8 fun _ => memp
  have hkb : PySem.W.kitOne K (.type (kname (.bool B))) (.type "bool") = some true := kit_data (d := .bool B) (by decide)
  refine ⟨c, rfl, ⟨_, SqL.of hc8⟩, for_list (xs := [.bl B, .bl B]) (fun j σ H' => ∃ (o5 : Option V), σ = [some (.ref p), some v1, some u, o3, some (.str tx'), some (.bl B), o5] ∧ H' = H8) ⟨none, rfl, rfl⟩ (fun j σ H' _ hP => ?_) (fun j x σ H' hx hP => ?_) (fun σ H' hP => ?_)⟩
  · obtain ⟨_, rfl, rfl⟩ := hP
    exact SqL.of hc8
  · obtain ⟨o5, rfl, rfl⟩ := hP
    obtain rfl : x = .bl B := by
      have := List.mem_of_getElem? hx
      simp only [List.mem_cons, List.not_mem_nil, or_false] at this
      rcases this with h | h <;> exact h
    refine ⟨_, rfl, _, .ty "bool", _, _, _, rfl, .ty _, tyx_of (Dx.bl (S := []) B), hkb, _, rfl, ?_⟩
    refine iteF ⟨_, rfl, _, rfl, .bool B, .bool B, .bl _, .bl _, by cases B <;> decide, by cases B <;> decide, _, rfl, ?_⟩
    rw [SeqAt.eqv_refl _ rfl]
    exact iteF ⟨_, rfl, rfl⟩
  · obtain ⟨o5, rfl, rfl⟩ := hP
    refine ⟨v1, rfl, u, rfl, by show 2 ≤ sizeLine; decide, fun b2 nb2 hb2 => ?_⟩
    obtain ⟨H9, e9⟩ : ∃ H9, H9 = upd H' b2 (.lst [v1, u]) := ⟨_, rfl⟩
    rw [← e9]
    have k9 : Kp [] H' H9 := e9 ▸ Kp.new nb2
    have hb9 : H9 b2 = some (.lst [v1, u]) := by rw [e9]; exact upd_same
    refine ⟨[p], b2, v1, u, N, d, rfl, hb9, hb2, hn8.kp k9 fun _ => memp, hd8.kp k9 fun _ => memp, sp1, sp2, sp3, sp4, ?_⟩
    rw [← etx]
    refine ⟨.str tx', rfl, rfl, ?_⟩
    rw [decide_eq_true (Eq.refl (V.str tx'))]
    exact q H9 (kH4.tr (k5.of0.tr (k6.of0.tr (k7.of0.tr (k8.of0.tr k9.of0)))))
def spLaw (TB TB2 : Addr) : Sp := fun vs H Q _ => ∃ (l : Addr) (ns : List Int), vs = [.ref l] ∧ SqL K H l (ns.map V.int) ∧ ns.length ≤ 63 ∧ GxR.TabG H TB ∧ GxR.TabG H TB2 ∧ ∀ H', Q (.bl true) H'
theorem ok_law (T : Tx K mg a) (TB : GxR.TabB base mg a.cd_is_net a.tb_is_net) (TB2 : GxR.TabB base mg a.cd_are_kindlings a.tb_are_kindlings) : FnG P w K mg base CX0 12 a.a_law a.f_law ["script"] (spLaw (K := K) a.tb_is_net a.tb_are_kindlings) := by
  have G_law_wick := ok_law_wick (P := P) (w := w) (base := base) T
  have G_law_right := ok_law_right (P := P) (w := w) (base := base) T TB TB2
  refine okG0 T.law.F sc_law (fun vs H Q E h => ?_) (fun cdv A outer s H vs Q E hG hr h => ?_)
  · obtain ⟨l, ns, rfl, _⟩ := h
    rfl
  obtain ⟨l, ns, rfl, hl, hn, ht, ht2, q⟩ := h
  refine ⟨_, (pss_cons (ps_for PassesOwn.never rfl (pi_enum (by rfl) T.n_enumerate (pa_cons (pe_slice sl_list (pe_op op_catL (pv 0) (pe_lst (pa_cons pe_int pa_nil))) po_none (po_some (pe_callB (call_max2 rfl) (by rfl) T.n_max (by decide +kernel) (pa_cons pe_int (pa_cons (pe_callB (call_min2 rfl) (by rfl) T.n_min (by decide +kernel) (pa_cons (pe_callB call_len_seq (by rfl) T.n_len (by decide +kernel) (pa_cons (pv 0) pa_nil)) (pa_cons pe_int pa_nil))) pa_nil))))) pa_nil)) (pg_tup (by rfl) (pgs_cons (pg_name (i := 1) sc_law.nd rfl (by first | exact .inl rfl | exact .inr rfl)) (pgs_cons (pg_name (i := 2) sc_law.nd rfl (by first | exact .inl rfl | exact .inr rfl)) pgs_nil))) (pss_one (ps_if (pt_not (pt_val (pe_callG G_law_right hG (hr.mono (by decide)) (by rfl) T.law_right.g T.law_right.F.kp T.law_right.b .nil pass0 (pa_cons (pe_call G_law_wick (hr.mono (by decide)) (by rfl) T.law_wick.g T.law_wick.F.kp T.law_wick.b .nil pass0 (pa_cons (pv 2) (pa_cons (pv 1) pa_nil))) pa_nil)))) (pss_one (ps_ret pe_bl)) pss_nil)))
      (pss_one (ps_ret pe_bl))), ?_⟩
  -- (script + [0])[:max(1, min(len(script), 20))]
  refine ⟨.ref l, rfl, by show 1 ≤ sizeLine; decide, fun z nz => ?_⟩
  obtain ⟨H1, e1⟩ : ∃ H1, H1 = upd H z (.lst [.int 0]) := ⟨_, rfl⟩
  rw [← e1]
  have k1 : Kp [] H H1 := e1 ▸ Kp.new nz
  have hz1 : H1 z = some (.lst [.int 0]) := by rw [e1]; exact upd_same
  have hl1 := k1.seq (by simp) hl
  refine ⟨l, z, _, _, rfl, rfl, hl1, SqL.of hz1, Nat.le_trans (m := 64) (by rw [List.length_map]; show ns.length + 1 ≤ 64; omega) (by decide), fun y ny => ?_⟩
  obtain ⟨H2, e2⟩ : ∃ H2, H2 = upd H1 y (.lst (ns.map V.int ++ [.int 0])) := ⟨_, rfl⟩
  rw [← e2]
  have k2 : Kp [] H1 H2 := e2 ▸ Kp.new ny
  have hy2 : H2 y = some (.lst ((ns ++ [0]).map V.int)) := by rw [e2, List.map_append]; exact upd_same
  refine ⟨.ref l, rfl, l, _, rfl, .inl (k2.seq (by simp) hl1), _, _, rfl, _, _, rfl, ?_⟩
  refine ⟨_, rfl, y, _, rfl, SqL.of hy2, fun u nu => ?_⟩
  obtain ⟨cs, hcs, hcl⟩ : ∃ cs : List Int, cutV ((ns ++ [0]).map V.int) none (some (if (if 20 < ((ns.map V.int).length : Int) then 20 else ((ns.map V.int).length : Int)) > 1 then (if 20 < ((ns.map V.int).length : Int) then 20 else ((ns.map V.int).length : Int)) else 1)) = cs.map V.int ∧ cs.length ≤ 64 := by
    unfold cutV
    rw [← List.map_drop, ← List.map_take]
    refine ⟨_, rfl, ?_⟩
    rw [List.length_take, List.length_drop, List.length_append]
    show min _ (ns.length + 1 - _) ≤ 64
    omega
  rw [hcs]
  obtain ⟨H3, e3⟩ : ∃ H3, H3 = upd H2 u (.lst (cs.map V.int)) := ⟨_, rfl⟩
  rw [← e3]
  have k3 : Kp [] H2 H3 := e3 ▸ Kp.new nu
  have hu3 : H3 u = some (.lst (cs.map V.int)) := by rw [e3]; exact upd_same
  have ht3 := k3.tab _ (k2.tab _ (k1.tab _ ht))
  have ht23 := k3.tab _ (k2.tab _ (k1.tab _ ht2))
  refine ⟨u, _, rfl, SqL.of hu3, for_it (walk_enum (K := K) (a := u) (xs := cs.map V.int)) (fun i σ H' => ∃ (o1 o2 : Option V), σ = [some (.ref l), o1, o2] ∧ Kp [] H3 H') ⟨none, none, rfl, .rfl'⟩ (fun i σ H' _ hP => ?_) (fun i x σ H4 H5 hi hP hy => ?_) (fun σ H4 hP => ?_)⟩
  · obtain ⟨_, _, rfl, k4⟩ := hP
    exact SqL.of (k4.lst (by simp) hu3)
  · obtain ⟨o1, o2, rfl, k4⟩ := hP
    obtain ⟨T1, x1, y1, rfl, nT, rfl, ex, ey⟩ := hy
    cases ex
    have ey : (cs.map V.int)[i]? = some y1 := ey
    rw [List.getElem?_map] at ey
    obtain ⟨cell, rfl⟩ : ∃ cell : Int, y1 = .int cell := by
      cases q1 : cs[i]? with
      | none => rw [q1] at ey; cases ey
      | some z => rw [q1] at ey; exact ⟨z, (Option.some.inj ey).symm⟩
    rw [List.length_map] at hi
    have k5 : Kp [] H4 (upd H4 T1 (.tup [.int (i : Nat), .int cell])) := Kp.new nT
    refine ⟨T1, _, rfl, SqT.of upd_same, rfl, _, _, rfl, _, _, rfl, rfl, ?_⟩
    refine ⟨.int cell, rfl, .int (i : Nat), rfl, cell, i, rfl, by omega, fun p np H6 k6 w6 => ?_⟩
    refine ⟨p, rfl, w6, k6.tab _ (k5.tab _ (k4.tab _ ht3)), k6.tab _ (k5.tab _ (k4.tab _ ht23)), fun H7 k7 => ⟨true, rfl, iteF ?_⟩⟩
    exact ⟨_, _, rfl, k4.tr (k5.tr (Kp.drop np (k6.of0.tr k7)))⟩
  · obtain ⟨o1, o2, rfl, k4⟩ := hP
    exact q H4
end

/-! ### the head -/
def hex (_ : PySem.W.Frag) : Bool := true
def hd_is_whole : He.DefD := ⟨("is_whole", none), "is_whole", "is_whole", defArgs s_is_whole, defBody s_is_whole, defScope s_is_whole, [], []⟩
def hd_is_pair : He.DefD := ⟨("is_pair", none), "is_pair", "is_pair", defArgs s_is_pair, defBody s_is_pair, defScope s_is_pair, [], []⟩
def hd_is_number_of_many : He.DefD := ⟨("is_number_of_many", none), "is_number_of_many", "is_number_of_many", defArgs s_is_number_of_many, defBody s_is_number_of_many, defScope s_is_number_of_many, [], []⟩
def hd_is_lamp_of_many : He.DefD := ⟨("is_lamp_of_many", none), "is_lamp_of_many", "is_lamp_of_many", defArgs s_is_lamp_of_many, defBody s_is_lamp_of_many, defScope s_is_lamp_of_many, [], []⟩
def hd_is_net : He.DefD := ⟨("is_net", none), "is_net", "is_net", defArgs s_is_net, defBody s_is_net, defScope s_is_net, [], []⟩
def hd_need_net : He.DefD := ⟨("need_net", none), "need_net", "need_net", defArgs s_need_net, defBody s_need_net, defScope s_need_net, [], []⟩
def hd_is_kindling_of_many : He.DefD := ⟨("is_kindling_of_many", none), "is_kindling_of_many", "is_kindling_of_many", defArgs s_is_kindling_of_many, defBody s_is_kindling_of_many, defScope s_is_kindling_of_many, [], []⟩
def hd_are_kindlings : He.DefD := ⟨("are_kindlings", none), "are_kindlings", "are_kindlings", defArgs s_are_kindlings, defBody s_are_kindlings, defScope s_are_kindlings, [], []⟩
def hd_law_wick : He.DefD := ⟨("_law_wick", none), "_law_wick", "_law_wick", defArgs s_law_wick, defBody s_law_wick, defScope s_law_wick, [], []⟩
def hd_law_pick : He.DefD := ⟨("_law_pick", none), "_law_pick", "_law_pick", defArgs s_law_pick, defBody s_law_pick, defScope s_law_pick, [], []⟩
def hd_law_burns : He.DefD := ⟨("_law_burns", none), "_law_burns", "_law_burns", defArgs s_law_burns, defBody s_law_burns, defScope s_law_burns, [], []⟩
def hd_law_mesh : He.DefD := ⟨("_law_mesh", none), "_law_mesh", "_law_mesh", defArgs s_law_mesh, defBody s_law_mesh, defScope s_law_mesh, [], []⟩
def hd_law_sparks : He.DefD := ⟨("_law_sparks", none), "_law_sparks", "_law_sparks", defArgs s_law_sparks, defBody s_law_sparks, defScope s_law_sparks, [], []⟩
def hd_law_whole : He.DefD := ⟨("_law_whole", none), "_law_whole", "_law_whole", defArgs s_law_whole, defBody s_law_whole, defScope s_law_whole, [], []⟩
def hd_law_is_mesh : He.DefD := ⟨("_law_is_mesh", none), "_law_is_mesh", "_law_is_mesh", defArgs s_law_is_mesh, defBody s_law_is_mesh, defScope s_law_is_mesh, [], []⟩
def hd_law_are_sparks : He.DefD := ⟨("_law_are_sparks", none), "_law_are_sparks", "_law_are_sparks", defArgs s_law_are_sparks, defBody s_law_are_sparks, defScope s_law_are_sparks, [], []⟩
def hd_law_bent : He.DefD := ⟨("_law_bent", none), "_law_bent", "_law_bent", defArgs s_law_bent, defBody s_law_bent, defScope s_law_bent, [], []⟩
def hd_law_right : He.DefD := ⟨("_law_right", none), "_law_right", "_law_right", defArgs s_law_right, defBody s_law_right, defScope s_law_right, [], []⟩
def hd_law : He.DefD := ⟨("law", none), "law", "law", defArgs s_law, defBody s_law, defScope s_law, [], []⟩
def hfn : List He.DefD := [hd_is_whole, hd_is_pair, hd_is_number_of_many, hd_is_lamp_of_many, hd_is_net, hd_need_net, hd_is_kindling_of_many, hd_are_kindlings, hd_law_wick, hd_law_pick, hd_law_burns, hd_law_mesh, hd_law_sparks, hd_law_whole, hd_law_is_mesh, hd_law_are_sparks, hd_law_bent, hd_law_right, hd_law]
def hfa : List He.Fa := [.glo "is_whole", .glo "is_pair", .glo "is_number_of_many", .glo "is_lamp_of_many", .glo "is_net", .glo "need_net", .glo "is_kindling_of_many", .glo "are_kindlings", .glo "_law_wick", .glo "_law_pick", .glo "_law_burns", .glo "_law_mesh", .glo "_law_sparks", .glo "_law_whole", .glo "_law_is_mesh", .glo "_law_are_sparks", .glo "_law_bent", .glo "_law_right", .glo "law", .free "all", .free "bool", .free "enumerate", .free "int", .free "isinstance", .free "len", .free "list", .free "max", .free "min", .free "range", .free "repr", .free "tuple", .int "MOST_LAMPS" 12, .int "MOST_KINDLINGS" 40, .glo "EmberError", .glo "NoNet"]
def htf : List (Str × Option Str) := [("are_kindlings", none), ("is_net", none)]
abbrev hR : PySem.W.OpenRow := PySem.W.OpenLaw.row PySem.Challenge.rw_emberlane_k02_which_are_kindlings
abbrev hk : PySem.W.Hook := He.hookX 5 hfa hfn [] htf hex
def hob (s : PySem.W.SharedT) : He.AlX := He.obsX 5 hfa hfn [] htf hex (HandSHeadRun.getT s)
theorem hob_eq (s : PySem.W.SharedT) : hob s = hk.obs s.abs := He.obsX_eq (HandSHeadRun.getT_eq s)
def hloose : List PySem.Str := ["EmberError", "MOST_KINDLINGS", "MOST_LAMPS", "NoNet", "_law_are_sparks", "_law_bent", "_law_burns", "_law_is_mesh", "_law_mesh", "_law_pick", "_law_right", "_law_sparks", "_law_whole", "_law_wick", "are_kindlings", "is_kindling_of_many", "is_lamp_of_many", "is_net", "is_number_of_many", "is_pair", "is_whole", "need_net"]
theorem hrun (w : World) : HandSHeadRun.RunEq hR (PySem.W.view hR.prog [25]) hk hob 40000 hloose w := by
  intro os
  kernel_rfl
theorem hfacts {w : World} {K : PySem.W.Frag} {h : Heap} {mg : Str → Option Value} {f : Addr} (X : K.In h) (G : h.Ns mainGlobals mg) (hfa_ : mg ("law" : Str) = some (.ref f)) (c : He.SaysX hfa hfn [] htf hex w h K) :
    ∃ a : Ad, Tx K mg a ∧ a.a_law = f ∧ (a.cd_are_kindlings, a.tb_are_kindlings) = He.cT K ("are_kindlings", none) ∧ (a.cd_is_net, a.tb_is_net) = He.cT K ("is_net", none) := by
  have cd : He.SaysD hfa hfn K := c.t.d
  obtain ⟨d0, F0⟩ := cd.def_ 0 (d := hd_is_whole) rfl
  obtain ⟨d1, F1⟩ := cd.def_ 1 (d := hd_is_pair) rfl
  obtain ⟨d2, F2⟩ := cd.def_ 2 (d := hd_is_number_of_many) rfl
  obtain ⟨d3, F3⟩ := cd.def_ 3 (d := hd_is_lamp_of_many) rfl
  obtain ⟨d4, F4⟩ := cd.def_ 4 (d := hd_is_net) rfl
  obtain ⟨d5, F5⟩ := cd.def_ 5 (d := hd_need_net) rfl
  obtain ⟨d6, F6⟩ := cd.def_ 6 (d := hd_is_kindling_of_many) rfl
  obtain ⟨d7, F7⟩ := cd.def_ 7 (d := hd_are_kindlings) rfl
  obtain ⟨d8, F8⟩ := cd.def_ 8 (d := hd_law_wick) rfl
  obtain ⟨d9, F9⟩ := cd.def_ 9 (d := hd_law_pick) rfl
  obtain ⟨d10, F10⟩ := cd.def_ 10 (d := hd_law_burns) rfl
  obtain ⟨d11, F11⟩ := cd.def_ 11 (d := hd_law_mesh) rfl
  obtain ⟨d12, F12⟩ := cd.def_ 12 (d := hd_law_sparks) rfl
  obtain ⟨d13, F13⟩ := cd.def_ 13 (d := hd_law_whole) rfl
  obtain ⟨d14, F14⟩ := cd.def_ 14 (d := hd_law_is_mesh) rfl
  obtain ⟨d15, F15⟩ := cd.def_ 15 (d := hd_law_are_sparks) rfl
  obtain ⟨d16, F16⟩ := cd.def_ 16 (d := hd_law_bent) rfl
  obtain ⟨d17, F17⟩ := cd.def_ 17 (d := hd_law_right) rfl
  obtain ⟨d18, F18⟩ := cd.def_ 18 (d := hd_law) rfl
  have e0 : f = He.ga K "law" := by
    have e := hfa_.symm.trans (He.glo_ok X G (cd.fact 18 (f := .glo "law") rfl))
    cases e
    rfl
  refine ⟨{ a_is_whole := He.fAd K hd_is_whole.at_, f_is_whole := d0, a_is_pair := He.fAd K hd_is_pair.at_, f_is_pair := d1, a_is_number_of_many := He.fAd K hd_is_number_of_many.at_, f_is_number_of_many := d2, a_is_lamp_of_many := He.fAd K hd_is_lamp_of_many.at_, f_is_lamp_of_many := d3, a_is_net := He.fAd K hd_is_net.at_, f_is_net := d4, a_need_net := He.fAd K hd_need_net.at_, f_need_net := d5, a_is_kindling_of_many := He.fAd K hd_is_kindling_of_many.at_, f_is_kindling_of_many := d6, a_are_kindlings := He.fAd K hd_are_kindlings.at_, f_are_kindlings := d7, a_law_wick := He.fAd K hd_law_wick.at_, f_law_wick := d8, a_law_pick := He.fAd K hd_law_pick.at_, f_law_pick := d9, a_law_burns := He.fAd K hd_law_burns.at_, f_law_burns := d10, a_law_mesh := He.fAd K hd_law_mesh.at_, f_law_mesh := d11, a_law_sparks := He.fAd K hd_law_sparks.at_, f_law_sparks := d12, a_law_whole := He.fAd K hd_law_whole.at_, f_law_whole := d13, a_law_is_mesh := He.fAd K hd_law_is_mesh.at_, f_law_is_mesh := d14, a_law_are_sparks := He.fAd K hd_law_are_sparks.at_, f_law_are_sparks := d15, a_law_bent := He.fAd K hd_law_bent.at_, f_law_bent := d16, a_law_right := He.fAd K hd_law_right.at_, f_law_right := d17, a_law := He.fAd K hd_law.at_, f_law := d18, c_EmberError := He.ga K "EmberError", c_NoNet := He.ga K "NoNet", cd_are_kindlings := He.codeOf K ("are_kindlings", none), tb_are_kindlings := (He.cT K ("are_kindlings", none)).2, cd_is_net := He.codeOf K ("is_net", none), tb_is_net := (He.cT K ("is_net", none)).2 }, ?_, e0.symm, rfl, rfl⟩
  exact ⟨Df.mk' F0 (He.glo_ok X G (cd.fact 0 (f := .glo "is_whole") rfl)) (fun _ _ _ _ _ _ us hl => match us, hl with | [_], _ => rfl),
    Df.mk' F1 (He.glo_ok X G (cd.fact 1 (f := .glo "is_pair") rfl)) (fun _ _ _ _ _ _ us hl => match us, hl with | [_], _ => rfl),
    Df.mk' F2 (He.glo_ok X G (cd.fact 2 (f := .glo "is_number_of_many") rfl)) (fun _ _ _ _ _ _ us hl => match us, hl with | [_, _], _ => rfl),
    Df.mk' F3 (He.glo_ok X G (cd.fact 3 (f := .glo "is_lamp_of_many") rfl)) (fun _ _ _ _ _ _ us hl => match us, hl with | [_, _], _ => rfl),
    Df.mk' F4 (He.glo_ok X G (cd.fact 4 (f := .glo "is_net") rfl)) (fun _ _ _ _ _ _ us hl => match us, hl with | [_], _ => rfl),
    Df.mk' F5 (He.glo_ok X G (cd.fact 5 (f := .glo "need_net") rfl)) (fun _ _ _ _ _ _ us hl => match us, hl with | [_], _ => rfl),
    Df.mk' F6 (He.glo_ok X G (cd.fact 6 (f := .glo "is_kindling_of_many") rfl)) (fun _ _ _ _ _ _ us hl => match us, hl with | [_, _], _ => rfl),
    Df.mk' F7 (He.glo_ok X G (cd.fact 7 (f := .glo "are_kindlings") rfl)) (fun _ _ _ _ _ _ us hl => match us, hl with | [_, _], _ => rfl),
    Df.mk' F8 (He.glo_ok X G (cd.fact 8 (f := .glo "_law_wick") rfl)) (fun _ _ _ _ _ _ us hl => match us, hl with | [_, _], _ => rfl),
    Df.mk' F9 (He.glo_ok X G (cd.fact 9 (f := .glo "_law_pick") rfl)) (fun _ _ _ _ _ _ us hl => match us, hl with | [_, _], _ => rfl),
    Df.mk' F10 (He.glo_ok X G (cd.fact 10 (f := .glo "_law_burns") rfl)) (fun _ _ _ _ _ _ us hl => match us, hl with | [_], _ => rfl),
    Df.mk' F11 (He.glo_ok X G (cd.fact 11 (f := .glo "_law_mesh") rfl)) (fun _ _ _ _ _ _ us hl => match us, hl with | [_], _ => rfl),
    Df.mk' F12 (He.glo_ok X G (cd.fact 12 (f := .glo "_law_sparks") rfl)) (fun _ _ _ _ _ _ us hl => match us, hl with | [_, _], _ => rfl),
    Df.mk' F13 (He.glo_ok X G (cd.fact 13 (f := .glo "_law_whole") rfl)) (fun _ _ _ _ _ _ us hl => match us, hl with | [_, _], _ => rfl),
    Df.mk' F14 (He.glo_ok X G (cd.fact 14 (f := .glo "_law_is_mesh") rfl)) (fun _ _ _ _ _ _ us hl => match us, hl with | [_], _ => rfl),
    Df.mk' F15 (He.glo_ok X G (cd.fact 15 (f := .glo "_law_are_sparks") rfl)) (fun _ _ _ _ _ _ us hl => match us, hl with | [_, _], _ => rfl),
    Df.mk' F16 (He.glo_ok X G (cd.fact 16 (f := .glo "_law_bent") rfl)) (fun _ _ _ _ _ _ us hl => match us, hl with | [_, _, _], _ => rfl),
    Df.mk' F17 (He.glo_ok X G (cd.fact 17 (f := .glo "_law_right") rfl)) (fun _ _ _ _ _ _ us hl => match us, hl with | [_], _ => rfl),
    Df.mk' F18 (He.glo_ok X G (cd.fact 18 (f := .glo "law") rfl)) (fun _ _ _ _ _ _ us hl => match us, hl with | [_], _ => rfl),
    He.free_ok X G (cd.fact 19 (f := .free "all") rfl),
    He.free_ok X G (cd.fact 20 (f := .free "bool") rfl),
    He.free_ok X G (cd.fact 21 (f := .free "enumerate") rfl),
    He.free_ok X G (cd.fact 22 (f := .free "int") rfl),
    He.free_ok X G (cd.fact 23 (f := .free "isinstance") rfl),
    He.free_ok X G (cd.fact 24 (f := .free "len") rfl),
    He.free_ok X G (cd.fact 25 (f := .free "list") rfl),
    He.free_ok X G (cd.fact 26 (f := .free "max") rfl),
    He.free_ok X G (cd.fact 27 (f := .free "min") rfl),
    He.free_ok X G (cd.fact 28 (f := .free "range") rfl),
    He.free_ok X G (cd.fact 29 (f := .free "repr") rfl),
    He.free_ok X G (cd.fact 30 (f := .free "tuple") rfl),
    He.int_ok X G (cd.fact 31 (f := .int "MOST_LAMPS" 12) rfl),
    He.int_ok X G (cd.fact 32 (f := .int "MOST_KINDLINGS" 40) rfl),
    codeIs_of (p := hd_are_kindlings.at_) (x := "are_kindlings") (qual := "are_kindlings") (st := s_are_kindlings) (funOf F7),
    codeIs_of (p := hd_is_net.at_) (x := "is_net") (qual := "is_net") (st := s_is_net) (funOf F4),
    He.glo_ok X G (cd.fact 33 (f := .glo "EmberError") rfl),
    He.glo_ok X G (cd.fact 34 (f := .glo "NoNet") rfl)⟩
theorem law_all {w : World} {K : PySem.W.Frag} {h : Heap} {mg : Str → Option Value} {f : Addr} (X : K.In h) (G : h.Ns mainGlobals mg) (hm : mg ("law" : Str) = some (.ref f)) (c : He.SaysX hfa hfn [] htf hex w h K) : LawG PySem.Challenge.rw_emberlane_k02_which_are_kindlings w K 12 63 "script" mg f h := by
  obtain ⟨a, T, rfl, ec2, ec⟩ := hfacts X G hm c
  have m : (("is_net", none) : Str × Option Str) ∈ htf := by simp [htf]
  have m2 : (("are_kindlings", none) : Str × Option Str) ∈ htf := by simp [htf]
  refine ⟨a.f_law, [(a.cd_is_net, a.tb_is_net), (a.cd_are_kindlings, a.tb_are_kindlings)], spLaw (K := K) a.tb_is_net a.tb_are_kindlings, fun p hp => ?_, fun s u => ?_, fun H b ns hn _ hT hS => ?_, fun base XB GB TB => ok_law T (TB (a.cd_is_net, a.tb_is_net) (by simp)) (TB (a.cd_are_kindlings, a.tb_are_kindlings) (by simp))⟩
  · simp only [List.mem_cons, List.not_mem_nil, or_false] at hp
    rcases hp with rfl | rfl
    · rw [ec]
      exact ⟨c.empty _ m, c.out _ m, PySem.W.codeHd_of_K X (c.hd _ m)⟩
    · rw [ec2]
      exact ⟨c.empty _ m2, c.out _ m2, PySem.W.codeHd_of_K X (c.hd _ m2)⟩
  · obtain ⟨oc, od, kV, doc, pm, an, cdv, ct, osl, e, lk, hcd⟩ := T.law.F.ex
    rw [e]
    exact BindsTo.of_eq rfl
  · exact ⟨b, ns, rfl, hS, hn, ⟨#[], hT (a.cd_is_net, a.tb_is_net) (by simp), by simp [TriplesOk]⟩, ⟨#[], hT (a.cd_are_kindlings, a.tb_are_kindlings) (by simp), by simp [TriplesOk]⟩, fun H' => rfl⟩
end K02
open PySem PySem.W PySem.Calls PyProof.Rows
set_option maxRecDepth 100000 in
set_option maxHeartbeats 0 in
theorem PySem.Challenge.cw_emberlane_k02_which_are_kindlings_holds : PySem.Challenge.rw_emberlane_k02_which_are_kindlings.Holds := by
  w_on; o_law
  refine HandSHeadRun.head_any (r := OpenLaw.row PySem.Challenge.rw_emberlane_k02_which_are_kindlings) (q := view (OpenLaw.row PySem.Challenge.rw_emberlane_k02_which_are_kindlings).prog [25]) (H := K02.hk) (ob := K02.hob) (M := 40000) (loose := K02.hloose) (d := HandSHeadRun.topDef (OpenLaw.row PySem.Challenge.rw_emberlane_k02_which_are_kindlings).prog 25) (kwd := []) K02.hob_eq
    (by kernel_rfl) (fun s => by kernel_rfl) K02.hrun (by kernel_rfl) (by kernel_rfl) (by kernel_rfl) (by rfl) (by first | assumption | decide +kernel) (by decide +kernel) ⟨rfl, rfl, rfl, rfl, rfl, by decide +kernel⟩ ?hw ?hc
  case hw => w_witness2
  case hc =>
    refine Em.walkG (l := PySem.Challenge.rw_emberlane_k02_which_are_kindlings) (n := 63) (k := 12) (x := "script") rfl (by decide) (by kernel_rfl) ⟨rfl, by decide, by decide⟩ ?F
    intro w mg fa h Y G hmg0
    obtain ⟨K, KX, c⟩ := Y
    have hmg : mg ("law" : PySem.Str) = some (.ref fa) := by
      have e : (HandSHeadRun.topDef (OpenLaw.row PySem.Challenge.rw_emberlane_k02_which_are_kindlings).prog 25).name = ("law" : PySem.Str) := by kernel_rfl
      rw [← e]
      exact hmg0
    exact ⟨K, KX, K02.law_all KX G hmg c⟩


