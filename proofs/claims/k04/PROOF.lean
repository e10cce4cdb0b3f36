import PyProof.Rows.All
import Wide.All
import OpenK.AllK
import Wide.FinOn
import HandS.ForMost
import HandS.ForExc
import HandS.IsInst
import HandS.AnyAll
import HandS.Nested
import HandS.Wide
import HandS.TupAny
import HandS.Flow
import HandS.Conv
import HandS.HeadHook4
import HandS.HeadWalk
import HandS.EndTab
import HandS.Walk
import HandS.SortRule
import HandS.Head0
import HandS.Head1
import HandS.Head2
import PySem.Challenge.RW_emberlane_k04_rings_and_laps
set_option Elab.async false
set_option linter.all false
set_option maxRecDepth 100000
set_option maxHeartbeats 4000000
/-! Quiet code: small defs that only read, so that a generator expression may call them. -/
namespace Qt
open PySem PySem.Spec PyProof.Rows L2

abbrev Up (h g : Heap) : Prop := ∀ b o, h.get? b = some o → g.get? b = some o
theorem Up.rfl' {h : Heap} : Up h h := fun _ _ e => e
theorem Up.tr {h g k : Heap} (a : Up h g) (b : Up g k) : Up h k := fun c o e => b c o (a c o e)
theorem up_lt {h g : Heap} (a : Up h g) {L : Addr} (hL : g.objs.size ≤ L) : h.get? L = none := by
  cases q : h.get? L with
  | none => rfl
  | some o => exact absurd (Nat.lt_of_lt_of_le (Heap.lt_size (a _ _ q)) hL) (Nat.lt_irrefl _)

/-- where quiet code stands: the program, the written part, the things that are read, a heap that stays -/
structure Qc where
  prog : Program
  w : World
  K : PySem.W.Frag
  mg : Str → Option Value
  H : Hp
  hd : Heap

structure Qc.Ok (c : Qc) : Prop where
  kin : c.K.In c.hd
  glo : c.hd.Ns mainGlobals c.mg
  bui : ∃ mb, c.hd.Ns builtinsNs mb ∧ ∀ x : Str, x ≠ "__name__" → mb x = bootBuiltins x
  lim : c.hd.NoLimit
  hok : HOk c.prog c.w c.H c.hd

/-- the names of a frame -/
abbrev Nm := List (Str × V)
structure At (c : Qc) (env : Env) (N : Nm) (h : Heap) : Prop where
  up : Up c.hd h
  kd : env.scope.kind = .function
  gl : env.globals = mainGlobals
  bl : env.builtins = builtinsNs
  nm : ∃ m, h.Ns env.locals m ∧ ∀ x v, N.lookup x = some v → ∃ u, RelV v u ∧ Look env h m x u
theorem look_up {env : Env} {h g : Heap} {m : Str → Option Value} {x : Str} {u : Value} (k : Up h g) (l : Look env h m x u) : Look env g m x u := by
  rcases l with l | ⟨l, a, e, i⟩
  · exact .inl l
  · exact .inr ⟨l, a, e, i.keeps k⟩
theorem At.more {c : Qc} {env : Env} {N : Nm} {h g : Heap} (a : At c env N h) (k : Up h g) : At c env N g :=
  ⟨a.up.tr k, a.kd, a.gl, a.bl, let ⟨m, n, q⟩ := a.nm; ⟨m, n.keeps k, fun x v e => let ⟨u, r, l⟩ := q x v e; ⟨u, r, look_up k l⟩⟩⟩

structure Rm (k : Nat) (A : Around) : Prop where
  hd : A.handled = none
  dp : A.depth + k < recursionLimit
theorem Rm.mono {j k : Nat} {A : Around} (r : Rm k A) (h : j ≤ k) : Rm j A := ⟨r.hd, by have := r.dp; omega⟩
theorem Rm.deeper {k : Nat} {A : Around} (r : Rm (k + 1) A) (env : Env) : Rm k (A.deeper env) := ⟨r.hd, by have := r.dp; show A.depth + 1 + k < _; omega⟩

section
variable (c : Qc) (k : Nat) (env : Env) (N : Nm)
/-- an expression that gives v and leaves all as it was -/
def QE (e : Expr) (v : V) : Prop := ∀ (A : Around) (E : Value → Shared → Prop) (Q : Value → Shared → Prop) (s : Shared), Rm k A → At c env N s.heap →
  (∀ u g tk, RelV v u → Up s.heap g → Q u { s with heap := g, toks := tk }) → wpAny (model c.prog c.w) A (eval e env) Q E s
/-- a test -/
def QT (e : Expr) (b : Bool) : Prop := ∀ (A : Around) (E : Value → Shared → Prop) (Q : Bool → Shared → Prop) (s : Shared), Rm k A → At c env N s.heap →
  (∀ g tk, Up s.heap g → Q b { s with heap := g, toks := tk }) → wpAny (model c.prog c.w) A (isTrue e env (eval e env)) Q E s
/-- arguments -/
def QA (es : List Expr) (vs : List V) : Prop := ∀ (pos : Pos) (A : Around) (E : Value → Shared → Prop) (Q : List Value → Shared → Prop) (s : Shared), Rm k A → At c env N s.heap →
  (∀ us g tk, Vals vs us → Up s.heap g → Q us { s with heap := g, toks := tk }) → wpAny (model c.prog c.w) A (spliced (backTo pos (starEach es env))) Q E s
/-- a block that returns v -/
def QB (st : List Stmt) (v : V) : Prop := ∀ (A : Around) (E : Value → Shared → Prop) (Q : Flow → Shared → Prop) (s : Shared), Rm k A → At c env N s.heap → c.hd.get? env.locals = none →
  (∀ u g tk, RelV v u → (∀ b o, b ≠ env.locals → s.heap.get? b = some o → g.get? b = some o) → Q (.ret u) { s with heap := g, toks := tk }) → wpAny (model c.prog c.w) A (execs st env) Q E s
end
/-- a def called -/
def QF (c : Qc) (k : Nat) (f : Addr) (fd : FuncData) (ps : List Str) (vs : List V) (v : V) : Prop := ∀ (A : Around) (R : Result → Shared → Prop) (args : Args) (us : List Value) (s : Shared), Rm k A → Up c.hd s.heap → BindsTo s fd args (ps.zip us) → Vals vs us →
  (∀ u g tk, RelV v u → Up s.heap g → R (.ok (.ret u)) { s with heap := g, toks := tk }) → codeAny (model c.prog c.w) A (.call (.ref f) args) R s

section
variable {c : Qc} {k : Nat} {env : Env} {N : Nm} {x : Str} {v : V} {e a b : Expr} {es : List Expr} {pos p : Pos}

theorem q_name (hN : N.lookup x = some v) (hd : (x == ("__debug__" : Str)) = false := by decide) (hcd : (x == ("__classdict__" : Str)) = false := by decide) : QE c k env N (.Name x pos) v := by
  intro A E Q s r i h
  obtain ⟨m, n, q⟩ := i.nm
  obtain ⟨u, ru, l⟩ := q x v hN
  have fin : Q u s := h u s.heap s.toks ru Up.rfl'
  rcases l with ⟨l1, l2⟩ | ⟨l1 | l1, ad, l2, l3⟩
  · exact wpAny_Name (wpAny_loadName_local i.kd l1 n l2 fin) hd
  · exact wpAny_Name (wpAny_loadName_cell i.kd l1 l2 l3 fin) hd
  · exact wpAny_Name (wpAny_loadName_free i.kd l1 l2 l3 fin hcd) hd
theorem q_int {i : Int} {j : Nat} : QE c k env N (.Constant (.int i) j pos) (.int i) := fun A E Q s r _ h =>
  wpAny_Constant_int (h _ s.heap _ ⟨_, rfl⟩ Up.rfl')
theorem q_bool {t : Bool} {j : Nat} : QE c k env N (.Constant (.bool t) j pos) (.bl t) := fun A E Q s r _ h =>
  Constant_bool (h _ s.heap s.toks rfl Up.rfl')
theorem q_none {j : Nat} : QE c k env N (.Constant .none j pos) .non := fun A E Q s r _ h =>
  Constant_none (h _ s.heap s.toks rfl Up.rfl')
/-- a module's own name, a built-in's name -/
theorem q_glob {u : Value} (O : c.Ok) (hg : env.kindOf x = some .globalImplicit) (hm : c.mg x = some u) (r : RelV v u) (hd : (x == ("__debug__" : Str)) = false := by decide) : QE c k env N (.Name x pos) v := fun A E Q s _ i h =>
  Calls.Name_function_global i.kd hg (Calls.loadGlobal_global (by rw [i.gl]; exact O.glo.keeps i.up) hm (h u s.heap s.toks r Up.rfl')) hd
theorem ld_b {A : Around} {E : Value → Shared → Prop} {Q : Value → Shared → Prop} {s : Shared} {u : Value} (O : c.Ok) (i : At c env N s.heap) (hg : env.kindOf x = some .globalImplicit) (hm : c.mg x = none) (hv : bootBuiltins x = some u) (h : Q u s)
    (hn : x ≠ "__name__") (hd : (x == ("__debug__" : Str)) = false) : wpAny (model c.prog c.w) A (eval (.Name x pos) env) Q E s := by
  obtain ⟨mb, n1, n2⟩ := O.bui
  exact Calls.Name_function_global i.kd hg (Calls.loadGlobal_builtin (by rw [i.gl]; exact O.glo.keeps i.up) hm (by rw [i.bl]; exact n1.keeps i.up) ((n2 x hn).trans hv) h) hd
theorem q_blt {u : Value} (O : c.Ok) (hg : env.kindOf x = some .globalImplicit) (hm : c.mg x = none) (hv : bootBuiltins x = some u) (r : RelV v u) (hn : x ≠ "__name__" := by decide) (hd : (x == ("__debug__" : Str)) = false := by decide) :
    QE c k env N (.Name x pos) v := fun A E Q s _ i h => ld_b O i hg hm hv (h u s.heap s.toks r Up.rfl') hn hd

/-! ### arguments, calls -/
theorem qa_nil : QA c k env N [] [] := fun _ _ _ _ s _ _ h => Calls.spliced_nil (h _ s.heap s.toks .nil Up.rfl')
theorem qa_cons {vs : List V} (he : QE c k env N e v) (hs : QA c k env N es vs) (st : starEach (e :: es) env = (false, eval e env) :: starEach es env := by rfl) : QA c k env N (e :: es) (v :: vs) := by
  intro pos A E Q s r i h
  rw [st]
  show wpAny _ A (spliced ((false, eval e env) :: backTo pos (starEach es env))) Q E s
  refine Calls.spliced_cons (he A E _ s r i fun u g tk ru up => ?_)
  exact hs pos A E _ _ r (i.more up) fun us g2 tk2 rus up2 => h (u :: us) g2 tk2 (.cons ru rus) (up.tr up2)

/-- a built-in function that reads -/
def QC (c : Qc) (id : String) (vs : List V) (v : V) : Prop := ∀ (A : Around) (E : Value → Shared → Prop) (Q : Value → Shared → Prop) (us : List Value) (s : Shared), Up c.hd s.heap → Vals vs us →
  (∀ u g tk, RelV v u → Up s.heap g → Q u { s with heap := g, toks := tk }) → wpAny (model c.prog c.w) A (call (.builtin id) us) Q E s
theorem q_callB {id : String} {vs : List V} (O : c.Ok) (hc : QC c id vs v) (hg : env.kindOf x = some .globalImplicit) (hm : c.mg x = none) (hv : bootBuiltins x = some (.builtin id)) (ha : QA c k env N (e :: es) vs)
    (hn : x ≠ "__name__" := by decide) (hd : (x == ("__debug__" : Str)) = false := by decide) (st : starEach (e :: es) env = (false, eval e env) :: starEach es env := by rfl) (hpl : (backTo pos (starEach es env)).any (·.1) = false := by rfl) :
    QE c k env N (.Call (.Name x p) (e :: es) [] pos) v := by
  intro A E Q s r i h
  refine wpAny_Call_Name_kw (ld_b O i hg hm hv ?_ hn hd)
  refine PyProof.Rows.callWith_builtin1 (ha pos A E _ s r i fun us g tk rus up => ?_) st hpl
  exact hc A E Q us _ (i.up.tr up) rus fun u g2 tk2 ru up2 => h u g2 tk2 ru (up.tr up2)
theorem q_call {f : Addr} {fd : FuncData} {ps : List Str} {vs : List V} (O : c.Ok) (F : QF c k f fd ps vs v) (hbd : Binds c.K fd ps []) (hl : vs.length = ps.length) (hg : env.kindOf x = some .globalImplicit) (hm : c.mg x = some (.ref f)) (hk : PySem.W.keepIn c.K (.ref f) = true) (ha : QA c k env N (e :: es) vs)
    (hd : (x == ("__debug__" : Str)) = false := by decide) (st : starEach (e :: es) env = (false, eval e env) :: starEach es env := by rfl) (hpl : (backTo pos (starEach es env)).any (·.1) = false := by rfl) :
    QE c k env N (.Call (.Name x p) (e :: es) [] pos) v := by
  intro A E Q s r i h
  refine wpAny_Call_Name_kw (Calls.Name_function_global i.kd hg (Calls.loadGlobal_global (by rw [i.gl]; exact O.glo.keeps i.up) hm ?_) hd)
  refine PySem.W.callWith_K (h₀ := c.hd) O.kin hk (ha pos A E _ s r i fun us g tk rus up => ⟨O.kin.keeps (i.up.tr up), ?_⟩) st hpl
  refine wpAny_call (F A _ ⟨us, []⟩ us _ r (i.up.tr up) (by simpa using hbd _ us (O.kin.keeps (i.up.tr up)) (by simpa [rus.length] using hl)) rus fun u g2 tk2 ru up2 => ?_)
  exact h u g2 tk2 ru (up.tr up2)

/-! ### and, or, not, comparisons -/
theorem q_andF {rest : List Expr} (ha : QE c k env N a (.bl false)) : QE c k env N (.BoolOp .And (a :: b :: rest) pos) (.bl false) := by
  intro A E Q s r i h
  refine BoolOp_and (ha A E _ s r i fun u g tk ru up => ?_)
  cases ru
  exact wpAny_truthy_bool (h _ g tk rfl up)
theorem q_andT {rest : List Expr} (ha : QE c k env N a (.bl true)) (hb : QE c k env N (.BoolOp .And (b :: rest) p) v) : QE c k env N (.BoolOp .And (a :: b :: rest) p) v := by
  intro A E Q s r i h
  refine BoolOp_and (ha A E _ s r i fun u g tk ru up => ?_)
  cases ru
  exact wpAny_truthy_bool (hb A E Q _ r (i.more up) fun u2 g2 tk2 r2 up2 => h u2 g2 tk2 r2 (up.tr up2))
theorem q_orT {rest : List Expr} (ha : QE c k env N a (.bl true)) : QE c k env N (.BoolOp .Or (a :: b :: rest) pos) (.bl true) := by
  intro A E Q s r i h
  refine BoolOp_or (ha A E _ s r i fun u g tk ru up => ?_)
  cases ru
  exact wpAny_truthy_bool (h _ g tk rfl up)
theorem q_orF {rest : List Expr} (ha : QE c k env N a (.bl false)) (hb : QE c k env N (.BoolOp .Or (b :: rest) p) v) : QE c k env N (.BoolOp .Or (a :: b :: rest) p) v := by
  intro A E Q s r i h
  refine BoolOp_or (ha A E _ s r i fun u g tk ru up => ?_)
  cases ru
  exact wpAny_truthy_bool (hb A E Q _ r (i.more up) fun u2 g2 tk2 r2 up2 => h u2 g2 tk2 r2 (up.tr up2))
theorem q_one {op : BoolOp} (ha : QE c k env N a v) : QE c k env N (.BoolOp op [a] pos) v := fun A E Q s r i h => BoolOp_one (ha A E Q s r i h)
theorem q_and2 {p1 p2 : Bool} (ha : QE c k env N a (.bl p1)) (hb : p1 = true → QE c k env N b (.bl p2)) : QE c k env N (.BoolOp .And [a, b] pos) (.bl (p1 && p2)) := by
  cases p1 with
  | false => exact q_andF ha
  | true => exact q_andT ha (q_one (hb rfl))
theorem q_or2 {p1 p2 : Bool} (ha : QE c k env N a (.bl p1)) (hb : p1 = false → QE c k env N b (.bl p2)) : QE c k env N (.BoolOp .Or [a, b] pos) (.bl (p1 || p2)) := by
  cases p1 with
  | true => exact q_orT ha
  | false => exact q_orF ha (q_one (hb rfl))
theorem q_not {t : Bool} (ha : QE c k env N a (.bl t)) : QE c k env N (.UnaryOp .Not a pos) (.bl (!t)) := by
  intro A E Q s r i h
  refine UnaryOp_ (ha A E _ s r i fun u g tk ru up => ?_)
  cases ru
  exact PyProof.Rows.not_of (wpAny_truthy_bool (h _ g tk rfl up))
/-- an operator on two ints -/
def QO (c : Qc) (op : CmpOp) (p : Int → Int → Bool) : Prop := ∀ (A : Around) (E : Value → Shared → Prop) (Q : Value → Shared → Prop) (i j : Int) (t u : Tok) (s : Shared), Q (.bool (p i j)) s → wpAny (model c.prog c.w) A (compareOp op (.int i t) (.int j u)) Q E s
theorem qo_lt : QO c .Lt fun i j => decide (i < j) := fun A E Q i j t u s h => PyProof.Rows.lt_int h
theorem qo_le : QO c .LtE fun i j => decide (i ≤ j) := fun A E Q i j t u s h => PyProof.Rows.le_int h
theorem qo_gt : QO c .Gt fun i j => decide (j < i) := fun A E Q i j t u s h => PyProof.Rows.gt_int h
theorem qo_ge : QO c .GtE fun i j => decide (j ≤ i) := fun A E Q i j t u s h => PyProof.Rows.ge_int h
theorem qo_eq : QO c .Eq fun i j => i == j := fun A E Q i j t u s h => PyProof.Rows.eq_int h
theorem q_cmp {op : CmpOp} {pr : Int → Int → Bool} {i j : Int} (ho : QO c op pr) (ha : QE c k env N a (.int i)) (hb : QE c k env N b (.int j)) (hm : behindInMarks op b = false) : QE c k env N (.Compare a [op] [b] pos) (.bl (pr i j)) := by
  intro A E Q s r i0 h
  refine wpAny_Compare1 (ha A E _ s r i0 fun u g tk ru up => hb A E _ _ r (i0.more up) fun u2 g2 tk2 r2 up2 => ?_) hm
  obtain ⟨t1, rfl⟩ := ru
  obtain ⟨t2, rfl⟩ := r2
  exact ho A E Q i j t1 t2 _ (h _ g2 tk2 rfl (up.tr up2))
theorem q_isN (ha : QE c k env N a v) {j : Nat} {p2 : Pos} : QE c k env N (.Compare a [.Is] [.Constant .none j p2] pos) (.bl (decide (v = .non))) := by
  intro A E Q s r i0 h
  refine wpAny_Compare1 (ha A E _ s r i0 fun u g tk ru up => Constant_none (PyProof.Rows.is_none_gen ?_)) rfl
  refine h _ g tk ?_ up
  show Value.bool (u == .none) = Value.bool (decide (v = .non))
  cases v <;> first
    | (cases ru; rfl)
    | (obtain ⟨t, rfl⟩ := ru; rfl)
/-- a < b < c on ints -/
theorem q_chain {op op' : CmpOp} {pr pr' : Int → Int → Bool} {i j m : Int} {d : Expr} (ho : QO c op pr) (ho' : QO c op' pr') (ha : QE c k env N a (.int i)) (hb : QE c k env N b (.int j)) (hd : QE c k env N d (.int m))
    (hm : lastMarks [op, op'] [b, d] = false := by with_unfolding_all rfl) : QE c k env N (.Compare a [op, op'] [b, d] pos) (.bl (pr i j && pr' j m)) := by
  intro A E Q s r i0 h
  refine Compare_chain (ha A E _ s r i0 fun u g tk ru up => chain_link (hb A E _ _ r (i0.more up) fun u2 g2 tk2 r2 up2 => ?_)) hm
  obtain ⟨t1, rfl⟩ := ru
  obtain ⟨t2, rfl⟩ := r2
  refine ho A E _ i j t1 t2 _ (wpAny_truthy_bool ?_)
  cases q : pr i j with
  | false =>
    rw [q] at h
    exact ite_ff (h _ g2 tk2 rfl (up.tr up2))
  | true =>
    rw [q] at h
    refine ite_tt (chain_last (hd A E _ _ r (i0.more (up.tr up2)) fun u3 g3 tk3 r3 up3 => ?_))
    obtain ⟨t3, rfl⟩ := r3
    refine ho' A E Q j m t2 t3 _ ?_
    have := h (.bool (pr' j m)) g3 tk3 rfl ((up.tr up2).tr up3)
    exact this

/-! ### tests -/
theorem qt_val {t : Bool} (ha : QE c k env N a (.bl t)) (he : ∀ whole, isTrue a env whole = (do let v ← whole; standAt a.pos; holding [v] (truthy v)) := by intro _; rfl) : QT c k env N a t := by
  intro A E Q s r i h
  refine isTrue_plain (ha A E _ s r i fun u g tk ru up => ?_) (he _)
  cases ru
  exact wpAny_truthy_bool (h g tk up)
theorem qt_cmp {op : CmpOp} {pr : Int → Int → Bool} {i j : Int} (ho : QO c op pr) (ha : QE c k env N a (.int i)) (hb : QE c k env N b (.int j)) (hm : behindInMarks op b = false) : QT c k env N (.Compare a [op] [b] pos) (pr i j) := by
  intro A E Q s r i0 h
  refine wpAny_isTrue_Compare1 (ha A E _ s r i0 fun u g tk ru up => hb A E _ _ r (i0.more up) fun u2 g2 tk2 r2 up2 => ?_) hm
  obtain ⟨t1, rfl⟩ := ru
  obtain ⟨t2, rfl⟩ := r2
  exact ho A E _ i j t1 t2 _ (wpAny_truthy_bool (h g2 tk2 (up.tr up2)))
theorem qt_not {t : Bool} (ha : QT c k env N a t) : QT c k env N (.UnaryOp .Not a pos) (!t) := fun A E Q s r i h =>
  isTrue_not (ha A E _ s r i fun g tk up => h g tk up)
theorem qt_orT {rest : List Expr} (ha : QT c k env N a true) : QT c k env N (.BoolOp .Or (a :: rest) pos) true := fun A E Q s r i h =>
  isTrue_or (ha A E _ s r i fun g tk up => ite_tt (h g tk up))
theorem qt_or2 {t : Bool} (ha : QT c k env N a false) (hb : QT c k env N b t) : QT c k env N (.BoolOp .Or [a, b] pos) t := fun A E Q s r i h => by
  refine isTrue_or (ha A E _ s r i fun g tk up => ite_ff ?_)
  refine isTrue_or (hb A E _ _ r (i.more up) fun g2 tk2 up2 => ?_)
  cases t with
  | true => exact ite_tt (h g2 tk2 (up.tr up2))
  | false => exact ite_ff (isTrue_or_nil (h g2 tk2 (up.tr up2)))
theorem qt_andF {rest : List Expr} (ha : QT c k env N a false) : QT c k env N (.BoolOp .And (a :: rest) pos) false := fun A E Q s r i h =>
  isTrue_and (ha A E _ s r i fun g tk up => ite_ff (h g tk up))
theorem qt_and2 {t : Bool} (ha : QT c k env N a true) (hb : QT c k env N b t) : QT c k env N (.BoolOp .And [a, b] pos) t := fun A E Q s r i h => by
  refine isTrue_and (ha A E _ s r i fun g tk up => ite_tt ?_)
  refine isTrue_and (hb A E _ _ r (i.more up) fun g2 tk2 up2 => ?_)
  cases t with
  | true => exact ite_tt (isTrue_and_nil (h g2 tk2 (up.tr up2)))
  | false => exact ite_ff (h g2 tk2 (up.tr up2))

/-! ### blocks -/
theorem qb_ret {rest : List Stmt} (he : QE c k env N e v) : QB c k env N (.Return (some e) pos :: rest) v := by
  intro A E Q s r i _ h
  refine wpAny_execs_cons (wpAny_Return_some (he A E _ s r i fun u g tk ru up => ?_))
  exact h u g tk ru fun b o _ q => up b o q
theorem qb_ifT {body orelse rest : List Stmt} (ht : QT c k env N e true) (hb : QB c k env N body v) : QB c k env N (.If e body orelse pos :: rest) v := by
  intro A E Q s r i hL h
  refine wpAny_execs_cons (wpAny_If (ht A E _ s r i fun g tk up => ite_tt ?_))
  refine hb A E _ _ r (i.more up) hL fun u g2 tk2 ru k2 => ?_
  exact h u g2 tk2 ru fun b o nb q => k2 b o nb (up b o q)
theorem qb_ifF {body rest : List Stmt} (ht : QT c k env N e false) (hb : QB c k env N rest v) : QB c k env N (.If e body [] pos :: rest) v := by
  intro A E Q s r i hL h
  refine wpAny_execs_cons (wpAny_If (ht A E _ s r i fun g tk up => ite_ff (wpAny_execs_nil ?_)))
  refine hb A E _ _ r (i.more up) hL fun u g2 tk2 ru k2 => ?_
  exact h u g2 tk2 ru fun b o nb q => k2 b o nb (up b o q)
end
end Qt

namespace Qt
open PySem PySem.Spec PyProof.Rows L2

/-! ### kinds, sizes -/
/-- the class of a thing that is read -/
inductive Knd (c : Qc) : V → String → Prop where
  | non : Knd c .non "NoneType"
  | bl (b : Bool) : Knd c (.bl b) "bool"
  | int (i : Int) : Knd c (.int i) "int"
  | str (z : Str) : Knd c (.str z) "str"
  | lst {a : Addr} (h : PySem.W.KitAt a "list" c.hd) : Knd c (.ref a) "list"
  | tup {a : Addr} (h : PySem.W.KitAt a "tuple" c.hd) : Knd c (.ref a) "tuple"
  | dic {a : Addr} (h : PySem.W.KitAt a "dict" c.hd) : Knd c (.ref a) "dict"
theorem kitAt_up {a : Addr} {T : String} {h g : Heap} (k : Up h g) (x : PySem.W.KitAt a T h) : PySem.W.KitAt a T g :=
  let ⟨o, e, q⟩ := x; ⟨o, k _ _ e, q⟩
theorem qc_isi {c : Qc} {x : V} {T C : String} {b : Bool} (O : c.Ok) (ky : Knd c x T) (e : PySem.W.kitOne c.K (.type T) (.type C) = some b) : QC c "isinstance" [x, .ty C] (.bl b) := by
  intro A E Q us s up r h
  cases r with
  | @cons _ u1 _ _ r1 r' =>
    cases r' with
    | @cons _ u2 _ _ r2 r'' =>
      cases r''
      obtain rfl : u2 = Value.type C := r2
      have fin : ∀ tk, Q (.bool b) { s with toks := tk } := fun tk => h _ s.heap tk rfl Up.rfl'
      have kin := O.kin.keeps up
      cases ky with
      | non => cases r1; exact PySem.W.kia_one PySem.W.kitx_none kin trivial e (fun z => by cases z) fin
      | bl y => cases r1; exact PySem.W.kia_one PySem.W.kitx_bool kin trivial e (fun z => by cases z) fin
      | int i => obtain ⟨t, rfl⟩ := r1; exact PySem.W.kia_one PySem.W.kitx_int kin trivial e (fun z => by cases z) fin
      | str z => obtain ⟨t, rfl⟩ := r1; exact PySem.W.kia_one PySem.W.kitx_str kin trivial e (fun z => by cases z) fin
      | lst p => cases r1; exact PySem.W.kia_one PySem.W.kitx_list kin (kitAt_up up p) e (fun z => by cases z) fin
      | tup p => cases r1; exact PySem.W.kia_one PySem.W.kitx_tuple kin (kitAt_up up p) e (fun z => by cases z) fin
      | dic p => cases r1; exact PySem.W.kia_one PySem.W.kitx_dict kin (kitAt_up up p) e (fun z => by cases z) fin
/-- a tuple that is read -/
def TupQ (c : Qc) (a : Addr) (xs : List V) : Prop := ∃ its : List Value, Vals xs its ∧ IsTup c.hd a its.toArray ∧ xs.length ≤ sizeLine
theorem TupQ.kit {c : Qc} {a : Addr} {xs : List V} (t : TupQ c a xs) : Knd c (.ref a) "tuple" := by
  obtain ⟨its, _, ⟨o, e, q, _⟩, _⟩ := t
  exact .tup ⟨o, e, q⟩
theorem isTup_up {h g : Heap} {a : Addr} {vs : Array Value} (k : Up h g) (t : IsTup h a vs) : IsTup g a vs :=
  let ⟨o, e, q⟩ := t; ⟨o, k _ _ e, q⟩
theorem qc_lenT {c : Qc} {a : Addr} {xs : List V} (t : TupQ c a xs) : QC c "len" [.ref a] (.int xs.length) := by
  intro A E Q us s up r h
  obtain ⟨its, rv, ht, hz⟩ := t
  cases r with
  | @cons _ u1 _ _ r1 r' =>
    cases r'
    obtain rfl : u1 = Value.ref a := r1
    have hl := rv.length
    have h63 := line63
    refine PyProof.Rows.len_tuple (isTup_up up ht) (by simp only [List.size_toArray]; omega) ?_
    exact h _ s.heap _ ⟨_, by rw [List.size_toArray, hl]⟩ Up.rfl'
/-! ### a, b = t -/
theorem qb_two {c : Qc} {k : Nat} {env : Env} {N : Nm} {x y : Str} {a : Addr} {v1 v2 v : V} {e : Expr} {rest : List Stmt} {pos p1 p2 p3 : Pos} {kt : Nat} (he : QE c k env N e (.ref a)) (ht : TupQ c a [v1, v2]) (hx : env.kindOf x = some .local) (hy : env.kindOf y = some .local)
    (hN : ∀ z, N.lookup z ≠ none → env.kindOf z = some .local) (hb : QB c k env ((y, v2) :: (x, v1) :: N) rest v)
    (hs : swapsWithSole [.Tuple [.Name x p1, .Name y p2] kt p3] e pos.line env = pure false := by rfl) (hw : swappedStores [.Tuple [.Name x p1, .Name y p2] kt p3] e env = pure none := by rfl)
    (h1 : (assignEach [.Tuple [.Name x p1, .Name y p2] kt p3] env).map (·.2) = [assign (.Tuple [.Name x p1, .Name y p2] kt p3) env] := by rfl)
    (h2 : (assignEach [.Name x p1, .Name y p2] env).map (·.2) = [assign (.Name x p1) env, assign (.Name y p2) env] := by rfl)
    (hn : (assignEach [.Name x p1, .Name y p2] env).length = 2 := by rfl) (hst : (assignEach [.Name x p1, .Name y p2] env).findIdx? (·.1) = none := by rfl) :
    QB c k env N (.Assign [.Tuple [.Name x p1, .Name y p2] kt p3] e pos :: rest) v := by
  intro A E Q s r i hL h
  obtain ⟨its, rv, ht, hz⟩ := ht
  obtain ⟨w1, w2, rfl, r1, r2⟩ := vals2 rv
  have hpl : (env.scope.kind == .class || (env.scope.kind == .module && env.locals != env.globals)) = false := by rw [i.kd]; rfl
  refine wpAny_execs_cons (wpAny_Assign_stores (he A E _ s r i fun u g tk ru up => ?_) hs hw)
  obtain rfl : u = Value.ref a := ru
  have i1 := i.more up
  rw [h1]
  show wpAny _ A (assign (.Tuple [.Name x p1, .Name y p2] kt p3) env (.ref a)) _ _ _
  refine assign_Tuple_tuple r.hd (isTup_up i1.up ht) (by rw [hn]; rfl) hst fun g1 hx1 => ?_
  rw [h2]
  have up1 : Up g g1 := fun b o q => hx1 b o (Nat.ne_of_lt (Heap.lt_size q)) q
  have i2 := i1.more up1
  obtain ⟨m, n, q⟩ := i2.nm
  refine assignInOrder_cons (wpAny_assign_Name (wpAny_storeName_local hx n (fun g2 n2 sb2 => ?_) hpl))
  refine assignInOrder_cons (wpAny_assign_Name (wpAny_storeName_local hy n2 (fun g3 n3 sb3 => assignInOrder_nil ?_) hpl))
  have k13 : ∀ b o, b ≠ env.locals → g1.get? b = some o → g3.get? b = some o := fun b o nb q => sb3.extBut b o nb (sb2.extBut b o nb q)
  have nL : ∀ b o, c.hd.get? b = some o → b ≠ env.locals := fun b o q z => by
    rw [z, hL] at q
    cases q
  have i3 : At c env ((y, v2) :: (x, v1) :: N) g3 := by
    refine ⟨fun b o q => k13 b o (nL b o q) (i2.up b o q), i.kd, i.gl, i.bl, _, n3, fun z vz hz2 => ?_⟩
    by_cases ez : z = y
    · subst ez
      have e2 : v2 = vz := by simpa [List.lookup] using hz2
      exact ⟨w2, e2 ▸ r2, .inl ⟨hy, if_pos rfl⟩⟩
    · have ez' : (z == y) = false := by simpa using ez
      by_cases ex : z = x
      · subst ex
        have e2 : v1 = vz := by simpa [List.lookup, ez'] using hz2
        exact ⟨w1, e2 ▸ r1, .inl ⟨hx, by show (if z = y then _ else (if z = z then _ else _)) = _; rw [if_neg ez, if_pos rfl]⟩⟩
      · have ex' : (z == x) = false := by simpa using ex
        have e2 : N.lookup z = some vz := by simpa [List.lookup, ez', ex'] using hz2
        obtain ⟨u, ru, l⟩ := q z vz e2
        refine ⟨u, ru, .inl ?_⟩
        rcases l with ⟨l1, l2⟩ | ⟨l1, _⟩
        · exact ⟨l1, by show (if z = y then _ else (if z = x then _ else m z)) = _; rw [if_neg ez, if_neg ex]; exact l2⟩
        · have l3 := hN z (by rw [e2]; simp)
          rw [l3] at l1
          rcases l1 with l1 | l1 <;> cases l1
  refine hb A E Q _ r i3 hL fun u g4 tk4 ru k4 => ?_
  exact h u g4 tk4 ru fun b o nb q => k4 b o nb (k13 b o nb (up1 b o (up b o q)))

/-! ### a def entered -/
theorem zip_look {α : Type} {x : Str} {v : α} : ∀ {ps : List Str} {vs : List α}, (ps.zip vs).lookup x = some v → ∃ i : Nat, ps[i]? = some x ∧ vs[i]? = some v
  | [], _, h => by simp [List.lookup] at h
  | _ :: _, [], h => by simp [List.lookup] at h
  | p :: ps, w :: vs, h => by
    by_cases e : x = p
    · subst e
      refine ⟨0, rfl, ?_⟩
      simpa [List.lookup] using h
    · have e' : (x == p) = false := by simpa using e
      have h2 : (ps.zip vs).lookup x = some v := by simpa [List.lookup, e'] using h
      obtain ⟨i, h3, h4⟩ := zip_look h2
      exact ⟨i + 1, h3, h4⟩
theorem q_fun {c : Qc} {k : Nat} {x qual : Str} {st : Stmt} {f : Addr} {fd : FuncData} {N0 ps : List Str} {vs : List V} {v : V} (O : c.Ok) (F : Fun c.K x qual st f fd) (S : FnScope N0 ps (defScope st))
    (loc : ∀ p ∈ ps, (defScope st).names.lookup p = some .local) (hl : vs.length = ps.length) (body : ∀ (L : Addr) (cdv : Value), QB c k (envOfC qual (defScope st) L f cdv) (ps.zip vs) (defBody st) v) : QF c (k + 1) f fd ps vs v := by
  intro A R args us s r up bt rv h
  obtain ⟨oc, od, kV, doc, pm, an, cdv, ct, osl, e, lk, hcd⟩ := F.ex
  have kin := O.kin.keeps up
  have ndP : ps.Nodup := by rw [← S.pre]; exact S.nd.sublist (List.take_sublist _ _)
  rw [e] at bt lk
  refine Att.call_fn (binds := ps.zip us) kin (O.lim.keeps up) lk hcd (by have := r.dp; omega) bt ?_ (fun s1 IC => ?_) S.co S.gen S.kind
  · rw [List.all_eq_true]
    intro y hy
    have q := loc y.1 (List.of_mem_zip hy).1
    rw [q]
    rfl
  · obtain ⟨g, tk, rfl, hk⟩ := IC.done
    have hL : c.hd.get? s.heap.objs.size = none := up_lt up (Nat.le_refl _)
    have i : At c (envOfC qual (defScope st) s.heap.objs.size f cdv) (ps.zip vs) g := by
      refine ⟨up.tr hk, S.kind, rfl, rfl, _, IC.toInCall.ns, fun z vz hz => ?_⟩
      obtain ⟨j, h3, h4⟩ := zip_look hz
      obtain ⟨u, h5, h6⟩ := rv.get h4
      have kz := loc z (List.mem_of_getElem? h3)
      exact ⟨u, h6, .inl ⟨kz, bindL_get ndP h3 h5 kz⟩⟩
    refine body s.heap.objs.size cdv _ _ _ _ (r.deeper _) i hL fun u g2 tk2 ru k2 => ?_
    refine h u g2 tk2 ru fun b o q => k2 b o (Nat.ne_of_lt (Heap.lt_size q)) (hk b o q)
/-- a quiet def, called as any other -/
theorem fn_ofQ {P : Program} {w : World} {K : PySem.W.Frag} {mg : Str → Option Value} {base : Heap} {CX : CXT} {k : Nat} {f : Addr} {fd : FuncData} {ps : List Str} {sp : Sp} (len : ∀ vs H Q E, sp vs H Q E → vs.length = ps.length)
    (h : ∀ vs H Q E, sp vs H Q E → ∃ v, Q v H ∧ ∀ hd, (Qc.mk P w K mg H hd).Ok → QF ⟨P, w, K, mg, H, hd⟩ (3 * k) f fd ps vs v) : FnOk P w K mg base CX k f fd ps sp := by
  refine ⟨len, fun A outer s H args us vs Q E rm e0 bt rv hs => ?_⟩
  obtain ⟨v, q, hQ⟩ := h vs H Q E hs
  have up0 : ∀ b o, base.get? b = some o → s.heap.get? b = some o := fun b o e => (e0.bs b o e).1
  have OK : (Qc.mk P w K mg H s.heap).Ok := ⟨e0.mod.kin.keeps up0, e0.mod.glob.keeps up0, let ⟨mb, q1, q2⟩ := e0.mod.blt; ⟨mb, q1.keeps up0, q2⟩, e0.mod.nolimit.keeps up0, e0.hok⟩
  have hd := rm.dp
  refine hQ s.heap OK A _ args us s ⟨rm.hd, by omega⟩ Up.rfl' bt rv fun u g tk ru up => ?_
  exact ⟨v, H, rfl, e0.bare, Un.kept up, e0.hok.kept up, ru, q⟩
end Qt

namespace Qt
open PySem PySem.Spec PyProof.Rows L2

/-- what is held, the tables of code left out -/
def wipe (H : Hp) (P : Addr) : Hp := fun a => if a = P then none else H a
theorem wipe_of {H : Hp} {P a : Addr} {o : HO} (h : wipe H P a = some o) : a ≠ P ∧ H a = some o := by
  unfold wipe at h
  by_cases e : a = P
  · rw [if_pos e] at h
    cases h
  · rw [if_neg e] at h
    exact ⟨e, h⟩
theorem wipe_at {H : Hp} {P a : Addr} {o : HO} (e : a ≠ P) (h : H a = some o) : wipe H P a = some o := by
  unfold wipe
  rw [if_neg e]
  exact h
/-- a thing that a generator goes over: a tuple or a list, of the values its -/
structure Src (pr : Program) (w : World) (h1 : Heap) (ad : Addr) (its : Array Value) (o : Obj) (St : Addr → Nat → Heap → Prop) : Prop where
  lt : ad < h1.objs.size
  iter : ∀ (A : Around) (E Q : Value → Shared → Prop) (s : Shared), s.heap = h1 → Q (.ref h1.objs.size) { s with heap := h1.push o } → wpAny (model pr w) A (pyIter (.ref ad)) Q E s
  walks : ∀ (A : Around) (I : Addr), A.handled = none → ad ≠ I → Walks pr w A I [I, ad] [I] its.size (fun i v => its[i]? = some v) (St I)
  st0 : ∀ g : Heap, (∀ b u, (b = ad ∨ b = h1.objs.size) → (h1.push o).get? b = some u → g.get? b = some u) → St h1.objs.size 0 g
theorem src_list {pr : Program} {w : World} {h1 : Heap} {ad : Addr} {its : Array Value} (hl : h1.IsList ad its) :
    Src pr w h1 ad its { cls := .type "list_iterator", data := .fields #[.ref ad, .int 0 0] } (fun I i h => h.IsListIter I ad i ∧ h.IsList ad its) where
  lt := by
    obtain ⟨_, e, _⟩ := id hl
    exact Heap.lt_size e
  iter := fun A E Q s es h => by
    subst es
    exact wpAny_pyIter_list hl h
  walks := fun A I hh ne => Walks.list hh I ad ne its
  st0 := fun g k => ⟨⟨_, k _ _ (.inr rfl) (Heap.get?_push_size _ rfl), rfl, rfl⟩, by
    obtain ⟨ob, e, r⟩ := id hl
    exact ⟨ob, k _ _ (.inl rfl) (Heap.get?_push_of_some _ e), r⟩⟩
theorem src_tup {pr : Program} {w : World} {h1 : Heap} {ad : Addr} {its : Array Value} (hl : IsTup h1 ad its) :
    Src pr w h1 ad its { cls := .type "tuple_iterator", data := .fields #[.ref ad, .int 0 0] } (fun I i h => h.IsTupleIter I ad i ∧ h.IsTuple ad its) where
  lt := by
    obtain ⟨_, e, _⟩ := id hl
    exact Heap.lt_size e
  iter := fun A E Q s es h => by
    subst es
    exact wpAny_pyIter_tuple hl h
  walks := fun A I hh ne => Walks.tuple hh I ad ne its
  st0 := fun g k => ⟨⟨_, k _ _ (.inr rfl) (Heap.get?_push_size _ rfl), rfl, rfl⟩, by
    obtain ⟨ob, e, r⟩ := id hl
    exact ⟨ob, k _ _ (.inl rfl) (Heap.get?_push_of_some _ e), r⟩⟩

section
variable {X : Cx} {pins : List (Addr × Obj)} {σ : L2.St} {H : Hp} {s : Shared}
theorem seq_src (I : Inv X pins σ H s) {ad : Addr} {xs : List V} (h : SqT X.K H ad xs ∨ SqL X.K H ad xs) :
    ∃ (its : List Value) (o : Obj) (St : Addr → Nat → Heap → Prop), Vals xs its ∧ Src X.prog X.w s.heap ad its.toArray o St ∧ (∀ ps, o.data ≠ .fields ps ∨ o.cls ≠ .none) := by
  rcases h with h | h
  · obtain ⟨its, rv, ht, _⟩ := I.tuple h
    exact ⟨its, _, _, rv, src_tup ht, fun ps => .inr fun z => by cases z⟩
  · obtain ⟨its, rv, hl, _⟩ := I.list h
    exact ⟨its, _, _, rv, src_list hl.isList, fun ps => .inr fun z => by cases z⟩

/-- what the element of a generator expression is, for the item xv: a truth -/
def Elt (X : Cx) (kk : Nat) (scope : Scope) (x : Str) (elt : Expr) (caps : Nm) (Hw : Hp) (xs : List V) (bs : List Bool) : Prop :=
  bs.length = xs.length ∧ ∀ (hd : Heap) (env : Env), (Qc.mk X.prog X.w X.K X.mg Hw hd).Ok → env.scope = scope → ∀ (j : Nat) (xv : V) (b : Bool), xs[j]? = some xv → bs[j]? = some b → QE ⟨X.prog, X.w, X.K, X.mg, Hw, hd⟩ kk env ((x, xv) :: caps) elt (.bl b)
/-- the captured names' values -/
def Caps (X : Cx) (scope : Scope) (x : Str) (σ : L2.St) (caps : Nm) : Prop := ∀ y v, caps.lookup y = some v → y ≠ x ∧ (y, NameKind.free) ∈ scope.names ∧ scope.names.lookup y = some .free ∧ ∃ i : Nat, X.N[i]? = some y ∧ σ[i]? = some (some v) ∧ X.env.scope.names.lookup y = some .cell

/-- the truth at place j -/
def trB (bs : List Bool) (j : Nat) : Bool := bs.getD j false
theorem trB_some {bs : List Bool} {j : Nat} {b : Bool} (h : bs[j]? = some b) : trB bs j = b := by
  unfold trB
  rw [List.getD_eq_getElem?_getD, h]
  rfl
theorem trB_all (bs : List Bool) : (List.range bs.length).all (trB bs) = bs.all id := by
  rw [Bool.eq_iff_iff, List.all_eq_true, List.all_eq_true]
  refine ⟨fun h b hb => ?_, fun h j hj => ?_⟩
  · obtain ⟨j, hj, e⟩ := List.getElem_of_mem hb
    have q := h j (List.mem_range.mpr hj)
    rwa [trB_some (List.getElem?_eq_getElem hj), e] at q
  · have hj' := List.mem_range.mp hj
    rw [trB_some (List.getElem?_eq_getElem hj')]
    exact h _ (List.getElem_mem hj')
theorem trB_any (bs : List Bool) : (List.range bs.length).any (trB bs) = bs.any id := by
  rw [Bool.eq_iff_iff, List.any_eq_true, List.any_eq_true]
  refine ⟨fun ⟨j, hj, h⟩ => ?_, fun ⟨b, hb, h⟩ => ?_⟩
  · have hj' := List.mem_range.mp hj
    rw [trB_some (List.getElem?_eq_getElem hj')] at h
    exact ⟨_, List.getElem_mem hj', h⟩
  · obtain ⟨j, hj, e⟩ := List.getElem_of_mem hb
    exact ⟨j, List.mem_range.mpr hj, by rw [trB_some (List.getElem?_eq_getElem hj), e]; exact h⟩

/-- the generator g is made, to be gone through -/
def Made (X : Cx) (pins : List (Addr × Obj)) (σ : L2.St) (H1 : Hp) (P : Addr) (xs : List V) (bs : List Bool) (g : Addr) (s5 : Shared) : Prop :=
  ∃ (fp wr : List Addr) (G : Array GenState → Array GenState → Prop) (F : Nat → Value → Prop) (St : Nat → Shared → Prop),
    WalksS X.prog X.w X.A.in1 g fp wr G bs.length F St ∧ St 0 s5 ∧ TruthOf X.prog X.w X.A.in1 F (trB bs) ∧ ∀ s', Moved wr G s5 s' → ∃ H2, GxR.Tabbed P H1 H2 ∧ Inv X pins σ H2 s'

theorem gen_made {c P : Addr} {elt iter : Expr} {x : Str} {px gpos : Pos} {scope : Scope} {te : TE} {k : Nat} {Z : Value → Shared → Prop} {R : List V → List Bool → Hp → Prop}
    (rm : Room (k + 2) X.A) (TB : GxR.TabB X.base X.mg c P) (hcode : X.env.code = .ref c) (GS : GxR.GenS X.env scope x) (hi : PE X iter te)
    (hs : ∀ v, genFold iter X.env v = pure v) (I : Inv X pins σ H s)
    (h : te σ H fun v H1 => ∃ (ad : Addr) (xs : List V) (bs : List Bool) (caps : Nm), v = .ref ad ∧ (SqT X.K H1 ad xs ∨ SqL X.K H1 ad xs) ∧ GxR.TabG H1 P ∧ Caps X scope x σ caps ∧ Elt X (3 * k) scope x elt caps (wipe H1 P) xs bs ∧ R xs bs H1)
    (hZ : ∀ xs bs H1 g s5, R xs bs H1 → Made X pins σ H1 P xs bs g s5 → Z (.ref g) s5) :
    wpAny (model X.prog X.w) X.A (eval (.GeneratorExp elt [⟨.Name x px, iter, [], 0⟩] scope gpos) X.env) Z X.xe s := by
  have hdp := rm.dp
  refine wpAny_GeneratorExp_walksQD rm.hd GS.co (closure_ok GS.free) GS.cell GS.dot GS.loc GS.kind rm.depth ?_ hs
  refine thn (hi.run pins s σ H _ I h) fun xv s1 hx => ?_
  obtain ⟨v, H1, I1, r1, ad, xs, bs, caps, ev, hsq, ⟨ps, hP, htr⟩, hcap, hel, hR⟩ := hx
  subst ev
  obtain rfl : xv = Value.ref ad := r1
  obtain ⟨its, o, St, rv, S, hno⟩ := seq_src I1 hsq
  have hlen : its.length = xs.length := rv.length.symm
  have hPs : s1.heap.get? P = some { cls := .none, data := .fields ps } := I1.hok P _ hP
  have hPlt : P < s1.heap.objs.size := Heap.lt_size hPs
  have adP : ad ≠ P := by
    rintro rfl
    rcases hsq with hq | hq
    · obtain ⟨_, _, ⟨ob, e, ec, _⟩, _⟩ := I1.tuple hq
      rw [hPs] at e
      cases e
      cases ec
    · obtain ⟨_, _, hl, _⟩ := I1.list hq
      obtain ⟨ob, _, e, ec, _⟩ := id hl
      rw [hPs] at e
      cases e
      cases ec
  refine S.iter _ _ _ _ rfl ?_
  have push_ok : ∀ b u, s1.heap.get? b = some u → (s1.heap.push o).get? b = some u := fun b u e => Heap.get?_push_of_some _ e
  have hPo := push_ok P _ hPs
  have lim2 : (s1.heap.push o).NoLimit := I1.nolimit.push o
  have cd : PySem.W.CodeHd (s1.heap.push o) c P := TB.code.keeps fun b u e => push_ok b u (I1.bk b u e)
  have go : ∀ (code : Value) (h3 : Heap) (tk : Nat) (ps' : Array Value), Heap.ExtBut P (s1.heap.push o) h3 → (s1.heap.push o).objs.size ≤ h3.objs.size → h3.get? P = some { cls := .none, data := .fields ps' } → (∃ more, ps' = ps ++ more) → TriplesOk ps'.toList →
      wpAny (model X.prog X.w) X.A (builtinsFor X.env.globals X.env.builtins) (fun bi s₄ =>
        ∃ Ia fp wr n₀ Pf St₀ pz F, Value.ref s1.heap.objs.size = .ref Ia ∧ (∀ A' : Around, A'.handled = none → Walks X.prog X.w A' Ia fp wr n₀ Pf St₀) ∧ St₀ 0 s₄.heap ∧ (∀ b ∈ fp, b < s₄.heap.objs.size) ∧ s₄.heap.NoLimit ∧ cStatics ∉ wr ∧
          (∀ hr : Heap, (∀ b u, s₄.heap.get? b = some u → hr.get? b = some u) →
            QuietGenD X.prog X.w (genEnv scope (cloFrom X.env.cells scope.names []) s₄.heap.objs.size code bi X.env) x [] elt (List.range s₄.heap.objs.size) wr Pf pz F hr (X.A.depth + 1) (X.A.units + 8)) ∧
          (∀ a h₅ tk gs, gs.bare = true → s₄.heap.objs.size < a → h₅.objs.size = a + 1 → (∀ b u, s₄.heap.get? b = some u → h₅.get? b = some u) →
            WalksS X.prog X.w X.A.in4 a (a :: s₄.heap.objs.size :: List.range s₄.heap.objs.size) (s₄.heap.objs.size :: wr) (GenOnlyQ s₄.gens.size) (passing pz n₀ 0).length
              (fun j y => ∃ i, (passing pz n₀ 0)[j]? = some i ∧ F i y) (GenAt X.prog X.w X.A.in4 a s₄.gens.size s₄.heap.objs.size (List.range s₄.heap.objs.size) wr pz n₀ F) →
            GenAt X.prog X.w X.A.in4 a s₄.gens.size s₄.heap.objs.size (List.range s₄.heap.objs.size) wr pz n₀ F 0 { s₄ with gens := s₄.gens.push gs, toks := tk, heap := h₅ } →
            Z (.ref a) { s₄ with gens := s₄.gens.push gs, toks := tk, heap := h₅ })) X.xe { s1 with heap := h3, toks := tk } := by
    intro code h3 tk ps' hx hsz hP3 hmore ht3
    obtain ⟨bm, ob, e1, e2, e3, e4, e5, e6, e7, e8⟩ := TB.bm
    have szo : (s1.heap.push o).objs.size = s1.heap.objs.size + 1 := Heap.size_push ..
    have k3 : ∀ b u, b ≠ P → s1.heap.get? b = some u → h3.get? b = some u := fun b u hb e => hx b u hb (push_ok b u e)
    have hcP : cStatics ≠ P := by
      rintro rfl
      obtain ⟨_, hns, _⟩ := I1.nolimit
      obtain ⟨o', es, ep, ho, hd, _⟩ := hns
      rw [hPs] at ho
      cases ho
      cases hd
    have hcl : cStatics < s1.heap.objs.size := let ⟨_, hns, _⟩ := I1.nolimit; hns.lt
    refine wpAny_builtinsFor (m := X.mg) (by rw [I1.ok.glob]; exact ((I1.mod.glob.keeps I1.bk).push o).extBut hx TB.gP) e1 e2 (k3 _ _ e4 (I1.bk _ _ e5)) e6 e7 e8 ?_
    have hi3 : s1.heap.objs.size < h3.objs.size := by omega
    refine ⟨s1.heap.objs.size, [s1.heap.objs.size, ad], [s1.heap.objs.size], its.toArray.size, (fun i v => its.toArray[i]? = some v), St s1.heap.objs.size, (fun _ => true), (fun i y => ∃ b, bs[i]? = some b ∧ y = .bool b), rfl,
      fun A' hA => S.walks A' _ hA (Nat.ne_of_lt S.lt), ?_, ?_, lim2.extBut hx hcP, ?_, ?_, ?_⟩
    · refine S.st0 h3 fun b u hb e => hx b u (fun z => ?_) e
      rcases hb with hb | hb
      · exact adP (hb.symm.trans z)
      · exact Nat.ne_of_gt hPlt (hb.symm.trans z)
    · intro b hb
      simp only [List.mem_cons, List.not_mem_nil, or_false] at hb
      rcases hb with hb | hb
      · rw [hb]; exact hi3
      · rw [hb]; exact Nat.lt_trans S.lt hi3
    · intro z
      simp only [List.mem_cons, List.not_mem_nil, or_false] at z
      exact Nat.ne_of_lt hcl z
    · intro hr hhr
      obtain ⟨hd, g1, g2⟩ := restrict h3 fun b => decide (b ≠ s1.heap.objs.size)
      have old : ∀ b u, b ≠ P → s1.heap.get? b = some u → hd.get? b = some u := fun b u nb e => by
        rw [g1 b (decide_eq_true (Nat.ne_of_lt (Heap.lt_size e)))]
        exact k3 b u nb e
      have up3 : Up hd h3 := fun b u e => by
        by_cases hb : b = s1.heap.objs.size
        · rw [g2 b (by simp [hb])] at e
          cases e
        · rw [g1 b (decide_eq_true hb)] at e
          exact e
      have bP : ∀ b u, X.base.get? b = some u → b ≠ P := fun b u e z => by
        have q := (I1.bs b u e).2
        rw [z, hP] at q
        cases q
      have bup : ∀ b u, X.base.get? b = some u → hd.get? b = some u := fun b u e => old b u (bP b u e) (I1.bk b u e)
      have OK : (Qc.mk X.prog X.w X.K X.mg (wipe H1 P) hd).Ok := by
        obtain ⟨mb, q1, q2⟩ := I1.mod.blt
        refine ⟨I1.mod.kin.keeps bup, I1.mod.glob.keeps bup, ⟨mb, q1.keeps bup, q2⟩, I1.mod.nolimit.keeps bup, fun a u e => ?_⟩
        obtain ⟨na, e⟩ := wipe_of e
        have noP : ∀ b, H1 b = some (.own a) → b ≠ P := fun b q z => by
          rw [z, hP] at q
          cases q
        refine (I1.hok a u e).stay (fun b u' hb q => old b u' ?_ q) (fun b q => wipe_at (noP b q) q) (fun b ys q => wipe_at (fun z => ?_) q)
        · rcases hb with hb | hb
          · rw [hb]; exact na
          · exact noP b hb
        · rw [z, hP] at q
          cases q
      have seen : ∀ s₂ : Shared, (∀ b ∈ List.range h3.objs.size, b ∉ [s1.heap.objs.size] → ∀ u, hr.get? b = some u → s₂.heap.get? b = some u) → Up hd s₂.heap := fun s₂ hk b u e => by
        have h3e := up3 b u e
        refine hk b (List.mem_range.mpr (Heap.lt_size h3e)) (fun z => ?_) u (hhr b u h3e)
        have hb : b = s1.heap.objs.size := by simpa using z
        rw [g2 b (by simp [hb])] at e
        cases e
      refine ⟨fun A' E' i v s₂ m₂ hA _ _ hPv hn hm hk => ?_, fun A' E' i v s₂ m₂ hA hAd _ hPv hp hn hm hk => ?_⟩
      · simp only [List.forIn_nil]
        exact wpAny_pure ⟨rfl, GxR.keeps_refl _⟩
      · have hv2 : its[i]? = some v := by simpa using hPv
        have hix : i < xs.length := by rw [← hlen]; exact (List.getElem?_eq_some_iff.mp hv2).1
        obtain ⟨xv, hxv⟩ : ∃ xv, xs[i]? = some xv := ⟨xs[i], List.getElem?_eq_getElem hix⟩
        obtain ⟨u, hu, ru⟩ := rv.get hxv
        rw [hv2] at hu
        cases hu
        have at2 : At ⟨X.prog, X.w, X.K, X.mg, wipe H1 P, hd⟩ (genEnv scope (cloFrom X.env.cells scope.names []) h3.objs.size code builtinsNs X.env) ((x, xv) :: caps) s₂.heap := by
          have upS := seen s₂ hk
          refine ⟨upS, GS.kind, I1.ok.glob, rfl, m₂, hn, fun y vy hy => ?_⟩
          by_cases ey : y = x
          · subst ey
            have e9 : xv = vy := by simpa [List.lookup] using hy
            exact ⟨v, e9 ▸ ru, .inl ⟨GS.loc, hm⟩⟩
          · have ey' : (y == x) = false := by simpa using ey
            have hy2 : caps.lookup y = some vy := by simpa [List.lookup, ey'] using hy
            obtain ⟨_, hmem, hfr, j, hj, hσ, hcl2⟩ := hcap y vy hy2
            obtain ⟨m1, hn1, hloc⟩ := I1.loc
            obtain ⟨u9, r9, l9⟩ := hloc j y vy hj hσ (.inr (.inl hcl2))
            refine ⟨u9, r9, .inr ⟨.inr hfr, ?_⟩⟩
            rcases l9 with ⟨l9, _⟩ | ⟨_, ca, hca, hic⟩
            · have l8 : X.env.scope.names.lookup y = some .local := l9
              rw [hcl2] at l8
              cases l8
            · refine ⟨ca, NdefX.clo_has GS.free hmem hca, ?_⟩
              obtain ⟨oc, ec, rc⟩ := hic
              have nP : ca ≠ P := fun z => by
                have q := I1.freeC y ca hca
                rw [z, hP] at q
                cases q
              exact ⟨oc, upS _ _ (old _ _ nP ec), rc⟩
        obtain ⟨b, hb⟩ : ∃ b, bs[i]? = some b := ⟨bs[i]'(by rw [hel.1]; exact hix), List.getElem?_eq_getElem _⟩
        refine hel.2 hd _ OK rfl i xv b hxv hb A' E' _ s₂ ⟨hA, by omega⟩ at2 fun u9 g9 tk9 r9 up9 => ?_
        exact ⟨⟨b, hb, r9⟩, g9, tk9, rfl, up9⟩
    · intro g h5 tk5 gs hgb hag hsz5 hk5 W5 hgat
      simp only [GxR.passing_true, List.length_range] at W5
      have hn5 : its.toArray.size = bs.length := by rw [List.size_toArray, hlen, hel.1]
      rw [hn5] at W5 hgat
      refine hZ xs bs H1 g _ hR ⟨_, _, _, _, _, W5.in4_1, hgat, ?_, fun s' hm => ?_⟩
      · intro j y sj Qj Ej hy hQj
        obtain ⟨i, hij, b, hxv, rfl⟩ := hy
        obtain ⟨hj, ej⟩ := List.getElem?_eq_some_iff.mp hij
        rw [List.getElem_range] at ej
        subst ej
        have hQ2 : Qj (trB bs j) sj := hQj
        rw [trB_some hxv] at hQ2
        exact wpAny_truthy_bool hQ2
      · obtain ⟨more, em⟩ := hmore
        have nwr : ∀ b u, s1.heap.get? b = some u → b ∉ h3.objs.size :: [s1.heap.objs.size] := fun b u e hb => by
          have hl := Heap.lt_size e
          simp only [List.mem_cons, List.not_mem_nil, or_false] at hb
          rcases hb with hb | hb
          · rw [hb] at hl
            exact absurd (Nat.lt_trans hl hi3) (Nat.lt_irrefl _)
          · rw [hb] at hl
            exact Nat.lt_irrefl _ hl
        have J := GxR.inv_tab (more := more) (h' := s'.heap) (g' := s'.gens) (d' := s'.drawn) (t' := s'.toks) I1 hP (fun b u hb e => hm.heap b u (nwr b u e) (hk5 b u (k3 b u hb e)))
          (by rw [← em]; exact hm.heap P _ (nwr P _ hPs) (hk5 P _ hP3)) (AllBare.movedS (I1.bare.push hgb) hm)
        rw [GxR.sh_eta s1 s' hm.os] at J
        exact ⟨upd H1 P (.tbl (ps ++ more)), ⟨⟨ps ++ more, upd_same, by rw [← em]; exact ht3⟩, fun b hb => upd_ne hb⟩, J⟩
  refine ⟨lim2, ?_⟩
  cases hf : codeAmong gpos ps.toList with
  | none =>
    refine wpAny_genexprCodeX hcode (cd.code hPo htr) (cd.tab hPo) hf fun c' h' tk hx hge hlt hco' _ htab' _ => ?_
    obtain ⟨_, _, _, _, _, _, _, _, _, _, _, _, _, _, _, _, _, _, _, htr', _⟩ := hco'
    exact go _ h' tk _ hx (Nat.le_trans hge (Nat.le_of_lt hlt)) htab'.2 ⟨_, rfl⟩ htr'
  | some cv =>
    refine wpAny_genexprCode_hit hcode (cd.code hPo htr) hf ?_
    exact go cv (s1.heap.push o) s1.toks ps (Heap.ExtBut.refl _ _) (Nat.le_refl _) hPo ⟨#[], by simp⟩ htr

/-- all(.. for x in e), e a tuple or a list, the element a quiet truth -/
def tAllQ (X : Cx) (P : Addr) (k : Nat) (scope : Scope) (x : Str) (elt : Expr) (te : TE) : TE := fun σ H Q => te σ H fun v H1 => ∃ (ad : Addr) (xs : List V) (bs : List Bool) (caps : Nm), v = .ref ad ∧ (SqT X.K H1 ad xs ∨ SqL X.K H1 ad xs) ∧
  GxR.TabG H1 P ∧ Caps X scope x σ caps ∧ Elt X (3 * k) scope x elt caps (wipe H1 P) xs bs ∧ ∀ H2, GxR.Tabbed P H1 H2 → Q (.bl (bs.all id)) H2
theorem pe_allQ {c P : Addr} {elt iter : Expr} {x : Str} {px p pos gpos : Pos} {scope : Scope} {te : TE} {k : Nat}
    (rm : Room (k + 2) X.A) (hg : Gl X "all") (hm : X.mg "all" = none) (TB : GxR.TabB X.base X.mg c P) (hcode : X.env.code = .ref c) (GS : GxR.GenS X.env scope x) (hi : PE X iter te)
    (hs : ∀ v, genFold iter X.env v = pure v) (hb : bootBuiltins "all" = some (.builtin "all") := by decide +kernel)
    (he : starEach [.GeneratorExp elt [⟨.Name x px, iter, [], 0⟩] scope gpos] X.env = (false, eval (.GeneratorExp elt [⟨.Name x px, iter, [], 0⟩] scope gpos) X.env) :: starEach [] X.env := by rfl) :
    PE X (.Call (.Name "all" p) [.GeneratorExp elt [⟨.Name x px, iter, [], 0⟩] scope gpos] [] pos) (tAllQ X P k scope x elt te) := by
  refine ⟨fun pins s σ H Q I h => ?_⟩
  refine wpAny_Call_Name_kw (ld_blt I hg hm hb (PyProof.Rows.callWith_builtin1 ?_ he (by rfl)))
  rw [he]
  show wpAny _ X.A (spliced ((false, eval (.GeneratorExp elt [⟨.Name x px, iter, [], 0⟩] scope gpos) X.env) :: backTo pos (starEach [] X.env))) _ X.xe s
  refine Calls.spliced_cons (gen_made (R := fun xs bs H1 => ∀ H2, GxR.Tabbed P H1 H2 → Q (.bl (bs.all id)) H2) rm TB hcode GS hi hs I h fun xs bs H1 g s5 hR hG => Calls.spliced_nil ?_)
  obtain ⟨fp, wr, G, F, St, W, hst, htr, hI⟩ := hG
  refine call_all_walkS (W.self 0 _ _ _ hst ⟨g, fp, wr, G, _, F, St, _, rfl, W, hst, htr, fun s' hmv => ?_⟩)
  obtain ⟨H2, hT, J⟩ := hI s' hmv
  exact ⟨.bl _, H2, J, rfl, by rw [trB_all bs]; exact hR H2 hT⟩
end
end Qt

namespace Em
open PySem PySem.Spec PyProof.Rows L2 Qt

/-! ### defs that may show things: nothing is being shown around them -/
structure FnG (P : Program) (w : World) (K : PySem.W.Frag) (mg : Str → Option Value) (base : Heap) (CX : CXT) (k : Nat) (f : Addr) (fd : FuncData) (ps : List Str) (sp : Sp) : Prop where
  len : ∀ vs H Q E, sp vs H Q E → vs.length = ps.length
  go : ∀ (A : Around) (outer : List Env) (s : Shared) (H : Hp) (args : Args) (us : List Value) (vs : List V) (Q : VK) (E : XK), A.guards = some [] → Room k A → Env0 P w K mg base A outer s H → BindsTo s fd args (ps.zip us) → Vals vs us → sp vs H Q E →
    codeAny (model P w) A (.call (.ref f) args) (CR CX outer P w H s Q E) s
section
variable {P : Program} {w : World} {K : PySem.W.Frag} {mg : Str → Option Value} {base : Heap} {CX : CXT} {k : Nat} {f : Addr} {fd : FuncData} {ps : List Str} {sp : Sp}
theorem FnG.of (F : FnOk P w K mg base CX k f fd ps sp) : FnG P w K mg base CX k f fd ps sp := ⟨F.len, fun A o s H a us vs Q E _ => F.run A o s H a us vs Q E⟩
theorem FnG.mono {j : Nat} (F : FnG P w K mg base CX j f fd ps sp) (h : j ≤ k) : FnG P w K mg base CX k f fd ps sp := ⟨F.len, fun A o s H a us vs Q E hg hr => F.go A o s H a us vs Q E hg (hr.mono h)⟩
/-- a def's body, nothing being shown around it -/
theorem okG {x qual : Str} {st : Stmt} {N : List Str} (F : Fun K x qual st f fd) (S : FnScope N ps (defScope st)) (len : ∀ vs H Q E, sp vs H Q E → vs.length = ps.length)
    (hbody : ∀ (cdv : Value) (A : Around) (outer : List Env) (s : Shared) (H : Hp) (vs : List V) (Q : VK) (E : XK), (A.deeper (envOfC qual (defScope st) s.heap.objs.size f cdv)).guards = some [] → Room k (A.deeper (envOfC qual (defScope st) s.heap.objs.size f cdv)) → sp vs H Q E →
      ∃ t, PSs (cxOf CX P w K mg base N qual (defScope st) f cdv A outer s H E) (defBody st) t ∧ t { nx := fun _ H' => Q .non H', rt := Q } (start N vs) H) : FnG P w K mg base CX (k + 1) f fd ps sp := by
  refine ⟨len, fun A outer s H args us vs Q E hg hr e0 hb rv hs => ?_⟩
  -- the same def, told of a promise that holds of this call alone
  obtain ⟨oc, od, kV, doc, pm, an, cdv, ct, osl, rfl, lk, hcd⟩ := F.ex
  have KX : K.In s.heap := e0.mod.kin.keeps fun b o e => (e0.bs b o e).1
  have LX : s.heap.NoLimit := e0.mod.nolimit.keeps fun b o e => (e0.bs b o e).1
  have hkind : ∀ y ∈ ps.zip us, (defScope st).names.lookup y.1 = some .local ∨ ((defScope st).names.lookup y.1 = some .cell ∧ ((cellsFrom (s.heap.objs.size + 1) (defScope st).names []).lookup y.1).isSome = true) := fun y hy => by
    rcases S.par y.1 (List.of_mem_zip hy).1 with q | q
    · exact .inl q
    · exact .inr ⟨q, PySem.W.cellsFrom_some _ _ _ (.inl q)⟩
  refine codeAny_call_function hr.depth (KX _ _ lk) rfl S.co S.gen rfl (PySem.W.codeRec_of KX hcd) (hb _ _ _ _ (wpAny_newFunctionEnv_cells S.kind hkind fun env he s1 x => ?_))
  subst he
  refine ⟨LX.keeps x.toInCall.keep, codeAny_func ?_⟩
  obtain ⟨t, ht, hq⟩ := hbody cdv A outer s H vs Q E hg (hr.deeper _) hs
  have I := inv_start (CX := CX) (E := E) S hr.hd e0 (len _ _ _ _ hs) rv x
  refine wpAny_mono (ht.run [] s1 (start N vs) H _ I hq) (fun fl s' z => ?_) fun e s' z => z
  cases fl with
  | ret u =>
    obtain ⟨v, σ', H', J, r1, q⟩ := z
    exact ⟨v, H', J.os, J.bare, J.base, J.hok, r1, q⟩
  | next =>
    obtain ⟨σ', H', J, q⟩ := z
    exact ⟨V.non, H', J.os, J.bare, J.base, J.hok, rfl, q⟩
  | brk =>
    obtain ⟨_, _, _, q⟩ := z
    exact q.elim
  | cont =>
    obtain ⟨_, _, _, q⟩ := z
    exact q.elim
theorem okG0 {x qual : Str} {st : Stmt} {N : List Str} (F : Fun K x qual st f fd) (S : FnScope N ps (defScope st)) (len : ∀ vs H Q E, sp vs H Q E → vs.length = ps.length)
    (hbody : ∀ (cdv : Value) (A : Around) (outer : List Env) (s : Shared) (H : Hp) (vs : List V) (Q : VK) (E : XK), (A.deeper (envOfC qual (defScope st) s.heap.objs.size f cdv)).guards = some [] → Room k (A.deeper (envOfC qual (defScope st) s.heap.objs.size f cdv)) → sp vs H Q E →
      ∃ t, PSs (cxOf CX0 P w K mg base N qual (defScope st) f cdv A outer s H E).nox (defBody st) t ∧ t { nx := fun _ H' => Q .non H', rt := Q } (start N vs) H) : FnG P w K mg base CX0 (k + 1) f fd ps sp :=
  okG F S len fun cdv A outer s H vs Q E hg hr hs => let ⟨t, h, q⟩ := hbody cdv A outer s H vs Q E hg hr hs; ⟨t, h.nox, q⟩
end
section
variable {X : Cx} {CX : CXT} {k : Nat} {f : Addr} {fd : FuncData} {ps ks : List Str} {sp : Sp} {dvs : List V} {ds : List Value} {E : XK} {x : Str} {p pos : Pos} {e : Expr} {es : List Expr} {kws : List Keyword} {t tk : TA}
  {g : List Value → List Value → List Value} {gV : List V → List V → List V}
theorem endG {pins : List (Addr × Obj)} {σ : L2.St} {H : Hp} {s : Shared} {Q : VK} {args : Args} (hx : Passes CX X E) (I : Inv X pins σ H s) (h : codeAny (model X.prog X.w) X.A (.call (.ref f) args) (CR CX X.stack X.prog X.w H s Q E) s) :
    codeAny (model X.prog X.w) X.A (.call (.ref f) args) (fun r s' => match r with
      | .ok (.ret u) => EP X pins σ Q u s'
      | .ok _ => False
      | .error e => X.xe e s') s :=
  codeAny_mono h fun r s' hq => by
    cases r with
    | error e => exact hx pins σ H s e s' I hq
    | ok fl => cases fl with
      | ret u => exact I.after hq
      | next => exact hq
      | brk => exact hq
      | cont => exact hq
theorem runG {pins : List (Addr × Obj)} {σ : L2.St} {H : Hp} {s : Shared} {Q : VK} {us : List Value} {vs : List V} (F : FnG X.prog X.w X.K X.mg X.base CX k f fd ps sp) (hG : X.A.guards = some []) (hr : Room k X.A) (hb : Binds X.K fd ps ds) (hd : Vals dvs ds) (hx : Passes CX X E)
    (I : Inv X pins σ H s) (r : Vals vs us) (h : sp (vs ++ dvs) H Q E) : wpAny (model X.prog X.w) X.A (call (.ref f) us) (EP X pins σ Q) X.xe s := by
  have r2 := r.append hd
  have hl : (us ++ ds).length = ps.length := r2.length.symm.trans (F.len _ _ _ _ h)
  refine wpAny_call (codeAny_mono (endG (Q := Q) hx I (F.go X.A X.stack s H ⟨us, []⟩ (us ++ ds) (vs ++ dvs) Q E hG hr I.env0 (hb s us I.kIn hl) r2 h)) fun r s' hq => ?_)
  cases r with
  | error e => exact hq
  | ok fl => cases fl with
    | ret u => exact hq
    | next => exact hq.elim
    | brk => exact hq.elim
    | cont => exact hq.elim
theorem pe_callG (F : FnG X.prog X.w X.K X.mg X.base CX k f fd ps sp) (hG : X.A.guards = some []) (hr : Room k X.A) (hg : Gl X x) (hm : X.mg x = some (.ref f)) (hk : PySem.W.keepIn X.K (.ref f) = true) (hb : Binds X.K fd ps ds) (hd : Vals dvs ds) (hx : Passes CX X E)
    (ha : PA X (e :: es) t) (hdb : (x == ("__debug__" : Str)) = false := by decide) (st : starEach (e :: es) X.env = (false, eval e X.env) :: starEach es X.env := by rfl) (pl : (backTo pos (starEach es X.env)).any (·.1) = false := by rfl) :
    PE X (.Call (.Name x p) (e :: es) [] pos) (tCall sp dvs E t) :=
  ⟨fun pins s σ H Q I h => wpAny_Call_Name_kw (ld_glob I hg hm (PySem.W.callWith_K (h₀ := X.base) I.ok.mod.kin hk (thn (ha.run pos pins s σ H _ I h) fun us s1 ⟨vs, H1, I1, r, q⟩ => ⟨I1.kIn, runG F hG hr hb hd hx I1 r q⟩) st pl) hdb)⟩
/-- f(k = v, ..), keywords alone; the promise is of the parameters in the def's order -/
theorem pe_kwG (F : FnG X.prog X.w X.K X.mg X.base CX k f fd ps sp) (hG : X.A.guards = some []) (hr : Room k X.A) (hg : Gl X x) (hm : X.mg x = some (.ref f)) (hk : PySem.W.keepIn X.K (.ref f) = true) (hb : KBinds X.K fd ps ks g gV) (hx : Passes CX X E)
    (hkw : PK X kws tk) (hall : (backToKw pos (keywordEach kws X.env)).all (·.1.isSome) = true := by rfl) (hks : (backToKw pos (keywordEach kws X.env)).filterMap (·.1) = ks := by rfl)
    (hdb : (x == ("__debug__" : Str)) = false := by decide) (pl : ((backTo pos (starEach [] X.env)).any (·.1) || (backToKw pos (keywordEach kws X.env)).any (·.1.isNone)) = false := by rfl) :
    PE X (.Call (.Name x p) [] kws pos) (tCallK sp gV E tNil tk) := by
  refine ⟨fun pins s σ H Q I h => wpAny_Call_Name_kw (ld_glob I hg hm ?_ hdb)⟩
  refine PySem.W.callWith_KW0 (h₀ := X.base) I.ok.mod.kin hk hall (thn (hkw.run pos pins s σ H _ I h) fun ws s1 ⟨zs, H1, I1, rz, q⟩ => ⟨I1.kIn, ?_⟩) pl
  rw [hks]
  have r2 := hb.rel .nil rz
  have hl : (g [] ws).length = ps.length := r2.length.symm.trans (F.len _ _ _ _ q)
  refine wpAny_call (codeAny_mono (endG (Q := Q) hx I1 (F.go X.A X.stack _ H1 ⟨[], ks.zip ws⟩ (g [] ws) (gV [] zs) Q E hG hr I1.env0 (hb.to _ [] ws I1.kIn hl) r2 q)) fun r s' hq => ?_)
  cases r with
  | error e => exact hq
  | ok fl => cases fl with
    | ret u => exact hq
    | next => exact hq.elim
    | brk => exact hq.elim
    | cont => exact hq.elim
end

/-! ### what a piece of code leaves as it was: all but the things in S; tables of code grow -/
structure Kp (S : List Addr) (H H' : Hp) : Prop where
  at_ : ∀ b o, b ∉ S → H b = some o → (∀ ps, o ≠ .tbl ps) → H' b = some o
  tab : ∀ b, GxR.TabG H b → GxR.TabG H' b
  tr_ : ∀ b, H b ≠ none → H' b ≠ none
theorem Kp.rfl' {S : List Addr} {H : Hp} : Kp S H H := ⟨fun _ _ _ h _ => h, fun _ h => h, fun _ h => h⟩
theorem Kp.tr {S : List Addr} {H H1 H2 : Hp} (a : Kp S H H1) (b : Kp S H1 H2) : Kp S H H2 := ⟨fun c o n h t => b.at_ c o n (a.at_ c o n h t) t, fun c h => b.tab c (a.tab c h), fun c h => b.tr_ c (a.tr_ c h)⟩
theorem Kp.wk {S S' : List Addr} {H H1 : Hp} (a : Kp S H H1) (h : ∀ x ∈ S, x ∈ S') : Kp S' H H1 := ⟨fun c o n q t => a.at_ c o (fun z => n (h c z)) q t, a.tab, a.tr_⟩
theorem Kp.of0 {S : List Addr} {H H1 : Hp} (a : Kp [] H H1) : Kp S H H1 := a.wk fun _ h => by cases h
theorem upd_tr {H : Hp} {p b : Addr} {o : HO} (h : H b ≠ none) : upd H p o b ≠ none := by
  by_cases e : b = p
  · rw [e, upd_same]; exact fun z => by cases z
  · rw [upd_ne e]; exact h
/-- a new thing -/
theorem Kp.new {S : List Addr} {H : Hp} {p : Addr} {o : HO} (n : H p = none) : Kp S H (upd H p o) :=
  ⟨fun b u _ h _ => by rw [upd_ne (ne_of_none h n)]; exact h, fun b ⟨ps, h, t⟩ => ⟨ps, by rw [upd_ne (ne_of_none h n)]; exact h, t⟩, fun b h => upd_tr h⟩
/-- a list (or another thing that is no table) of S is written -/
theorem Kp.put {S : List Addr} {H : Hp} {p : Addr} {o u : HO} (hp : p ∈ S) (h : H p = some u) (nt : ∀ ps, u ≠ .tbl ps) : Kp S H (upd H p o) :=
  ⟨fun b v n q _ => by rw [upd_ne (fun z => n (by rw [z]; exact hp))]; exact q, fun b ⟨ps, q, t⟩ => ⟨ps, by rw [upd_ne (fun z => by rw [z, h] at q; exact nt ps (Option.some.inj q))]; exact q, t⟩, fun b h => upd_tr h⟩
/-- a new thing that was written again is still new to what stood before -/
theorem Kp.drop {S : List Addr} {H H1 : Hp} {p : Addr} (n : H p = none) (k : Kp (p :: S) H H1) : Kp S H H1 :=
  ⟨fun b o nb h t => k.at_ b o (fun z => by
    rcases List.mem_cons.mp z with z | z
    · rw [z, n] at h; cases h
    · exact nb z) h t, k.tab, k.tr_⟩
theorem Kp.tabbed {S : List Addr} {H H1 : Hp} {P : Addr} (h0 : GxR.TabG H P) (h : GxR.Tabbed P H H1) : Kp S H H1 :=
  ⟨fun b o _ q t => by
    have nb : b ≠ P := fun z => by
      obtain ⟨ps, e, _⟩ := h0
      rw [z, e] at q
      exact t ps (Option.some.inj q).symm
    rw [h.2 b nb]
    exact q, fun b ⟨ps, q, t⟩ => by
    by_cases nb : b = P
    · rw [nb]; exact h.1
    · exact ⟨ps, by rw [h.2 b nb]; exact q, t⟩, fun b q => by
    by_cases nb : b = P
    · obtain ⟨ps, e, _⟩ := h.1
      rw [nb, e]; exact fun z => by cases z
    · rw [h.2 b nb]; exact q⟩
theorem Kp.lst {S : List Addr} {H H1 : Hp} (k : Kp S H H1) {b : Addr} {xs : List V} (nb : b ∉ S) (h : H b = some (.lst xs)) : H1 b = some (.lst xs) := k.at_ b _ nb h fun ps z => by cases z
theorem Kp.tup {S : List Addr} {H H1 : Hp} (k : Kp S H H1) {b : Addr} {xs : List V} (nb : b ∉ S) (h : H b = some (.tup xs)) : H1 b = some (.tup xs) := k.at_ b _ nb h fun ps z => by cases z
theorem Kp.ins {S : List Addr} {H H1 : Hp} (k : Kp S H H1) {b C dx : Addr} {fs : List (Str × V)} (nb : b ∉ S) (h : H b = some (.ins C dx fs)) : H1 b = some (.ins C dx fs) := k.at_ b _ nb h fun ps z => by cases z
theorem Kp.seq {S : List Addr} {K : PySem.W.Frag} {H H1 : Hp} (k : Kp S H H1) {b : Addr} {xs : List V} (nb : b ∉ S) (h : SqL K H b xs) : SqL K H1 b xs := by
  rcases h with (h | ⟨o, h⟩) | h
  · exact .inl (.inl (k.lst nb h))
  · exact .inl (.inr ⟨o, k.at_ b _ nb h fun ps z => by cases z⟩)
  · exact .inr h
theorem Kp.free {S : List Addr} {H H1 : Hp} (k : Kp S H H1) {b : Addr} (nb : b ∉ S) (h : H1 b = none) (ht : ¬ GxR.TabG H b) (hn : ∀ ps, H b ≠ some (.tbl ps)) : H b = none := by
  cases q : H b with
  | none => rfl
  | some o =>
    rw [k.at_ b o nb q (fun ps z => hn ps (by rw [q, z]))] at h
    cases h

/-! ### data in the heap, none of it in S -/
mutual
inductive Dx (S : List Addr) (H : Hp) : V → PyData → Prop
  | non : Dx S H .non .none
  | bl (b : Bool) : Dx S H (.bl b) (.bool b)
  | int (i : Int) : Dx S H (.int i) (.int i)
  | str (z : Str) : Dx S H (.str z) (.str z)
  | lst {a : Addr} {xs : List V} {ds : List PyData} (n : a ∉ S) (h : H a = some (.lst xs)) (r : DxA S H xs ds) : Dx S H (.ref a) (.list ds)
  | tup {a : Addr} {xs : List V} {ds : List PyData} (n : a ∉ S) (h : H a = some (.tup xs)) (r : DxA S H xs ds) : Dx S H (.ref a) (.tuple ds)
  | dic {a : Addr} (n : a ∉ S) (h : H a = some (.dK [])) : Dx S H (.ref a) (.dict [])
inductive DxA (S : List Addr) (H : Hp) : List V → List PyData → Prop
  | nil : DxA S H [] []
  | cons {v : V} {vs : List V} {d : PyData} {ds : List PyData} (h : Dx S H v d) (t : DxA S H vs ds) : DxA S H (v :: vs) (d :: ds)
end
mutual
theorem Dx.kp {S S' : List Addr} {H H1 : Hp} (k : Kp S H H1) (hs : ∀ x ∈ S, x ∈ S') : ∀ {v : V} {d : PyData}, Dx S' H v d → Dx S' H1 v d
  | _, _, .non => .non
  | _, _, .bl b => .bl b
  | _, _, .int i => .int i
  | _, _, .str z => .str z
  | _, _, .lst n h r => .lst n (k.lst (fun z => n (hs _ z)) h) (DxA.kp k hs r)
  | _, _, .tup n h r => .tup n (k.tup (fun z => n (hs _ z)) h) (DxA.kp k hs r)
  | _, _, .dic n h => .dic n (k.at_ _ _ (fun z => n (hs _ z)) h fun ps z => by cases z)
theorem DxA.kp {S S' : List Addr} {H H1 : Hp} (k : Kp S H H1) (hs : ∀ x ∈ S, x ∈ S') : ∀ {v : List V} {d : List PyData}, DxA S' H v d → DxA S' H1 v d
  | _, _, .nil => .nil
  | _, _, .cons h t => .cons (Dx.kp k hs h) (DxA.kp k hs t)
end
mutual
/-- what is there is none of what is new -/
theorem Dx.ap {S : List Addr} {H : Hp} {p : Addr} (n : H p = none) : ∀ {v : V} {d : PyData}, Dx S H v d → Dx (p :: S) H v d
  | _, _, .non => .non
  | _, _, .bl b => .bl b
  | _, _, .int i => .int i
  | _, _, .str z => .str z
  | _, _, .lst m h r => .lst (by simpa using ⟨ne_of_none h n, m⟩) h (DxA.ap n r)
  | _, _, .tup m h r => .tup (by simpa using ⟨ne_of_none h n, m⟩) h (DxA.ap n r)
  | _, _, .dic m h => .dic (by simpa using ⟨ne_of_none h n, m⟩) h
theorem DxA.ap {S : List Addr} {H : Hp} {p : Addr} (n : H p = none) : ∀ {v : List V} {d : List PyData}, DxA S H v d → DxA (p :: S) H v d
  | _, _, .nil => .nil
  | _, _, .cons h t => .cons (Dx.ap n h) (DxA.ap n t)
end
mutual
theorem Dx.wk {S S' : List Addr} {H : Hp} (hs : ∀ x ∈ S', x ∈ S) : ∀ {v : V} {d : PyData}, Dx S H v d → Dx S' H v d
  | _, _, .non => .non
  | _, _, .bl b => .bl b
  | _, _, .int i => .int i
  | _, _, .str z => .str z
  | _, _, .lst m h r => .lst (fun z => m (hs _ z)) h (DxA.wk hs r)
  | _, _, .tup m h r => .tup (fun z => m (hs _ z)) h (DxA.wk hs r)
  | _, _, .dic m h => .dic (fun z => m (hs _ z)) h
theorem DxA.wk {S S' : List Addr} {H : Hp} (hs : ∀ x ∈ S', x ∈ S) : ∀ {v : List V} {d : List PyData}, DxA S H v d → DxA S' H v d
  | _, _, .nil => .nil
  | _, _, .cons h t => .cons (Dx.wk hs h) (DxA.wk hs t)
end
theorem DxA.len {S : List Addr} {H : Hp} : ∀ {vs : List V} {ds : List PyData}, DxA S H vs ds → vs.length = ds.length
  | _, _, .nil => rfl
  | _, _, .cons _ t => by rw [List.length_cons, List.length_cons, DxA.len t]
theorem DxA.get {S : List Addr} {H : Hp} : ∀ {vs : List V} {ds : List PyData} {i : Nat} {v : V}, DxA S H vs ds → vs[i]? = some v → ∃ d, ds[i]? = some d ∧ Dx S H v d
  | _, _, _, _, .nil, h => by cases h
  | _, _, 0, _, .cons a _, h => by cases h; exact ⟨_, rfl, a⟩
  | _, _, i + 1, _, .cons _ t, h => DxA.get (i := i) t (by simpa using h)
theorem DxA.get' {S : List Addr} {H : Hp} : ∀ {vs : List V} {ds : List PyData} {i : Nat} {d : PyData}, DxA S H vs ds → ds[i]? = some d → ∃ v, vs[i]? = some v ∧ Dx S H v d
  | _, _, _, _, .nil, h => by cases h
  | _, _, 0, _, .cons a _, h => by cases h; exact ⟨_, rfl, a⟩
  | _, _, i + 1, _, .cons _ t, h => DxA.get' (i := i) t (by simpa using h)
theorem DxA.app {S : List Addr} {H : Hp} : ∀ {vs ws : List V} {ds es : List PyData}, DxA S H vs ds → DxA S H ws es → DxA S H (vs ++ ws) (ds ++ es)
  | _, _, _, _, .nil, h => h
  | _, _, _, _, .cons a t, h => .cons a (DxA.app t h)
mutual
/-- what the layer calls data: no dict in it -/
theorem Dx.dp {S : List Addr} {K : PySem.W.Frag} {H : Hp} : ∀ {v : V} {d : PyData}, Dx S H v d → d.hasDict = false → Dp K H v d
  | _, _, .non, _ => .non
  | _, _, .bl b, _ => .bl b
  | _, _, .int i, _ => .int i
  | _, _, .str z, _ => .str z
  | _, _, .lst n h r, e => .lst (SqL.of h) (DxA.dp r (by simpa [PyData.hasDict] using e))
  | _, _, .tup n h r, e => .tup (SqT.of h) (DxA.dp r (by simpa [PyData.hasDict] using e))
  | _, _, .dic n h, e => by simp [PyData.hasDict] at e
theorem DxA.dp {S : List Addr} {K : PySem.W.Frag} {H : Hp} : ∀ {v : List V} {d : List PyData}, DxA S H v d → PyData.hasDictAll d = false → DpAll K H v d
  | _, _, .nil, _ => .nil
  | _, _, @DxA.cons _ _ v vs d ds h t, e => by
    have e2 : PyData.hasDict d = false ∧ PyData.hasDictAll ds = false := by simpa [PyData.hasDictAll] using e
    exact .cons (Dx.dp h e2.1) (DxA.dp t e2.2)
end

/-- new data: none of it stood in H -/
def Nw (H H' : Hp) (v : V) (d : PyData) : Prop := ∀ S : List Addr, (∀ s ∈ S, H s ≠ none) → Dx S H' v d
def NwA (H H' : Hp) (vs : List V) (ds : List PyData) : Prop := ∀ S : List Addr, (∀ s ∈ S, H s ≠ none) → DxA S H' vs ds
theorem Nw.tup {H H1 : Hp} {p : Addr} {xs : List V} {ds : List PyData} (k : ∀ b, H b ≠ none → H1 b ≠ none) (n : H1 p = none) (h : NwA H H1 xs ds) : Nw H (upd H1 p (.tup xs)) (.ref p) (.tuple ds) := fun S t =>
  .tup (fun z => k p (t p z) n) upd_same ((h S t).kp (Kp.new (S := []) n) fun _ z => by cases z)
theorem Nw.lst {H H1 : Hp} {p : Addr} {xs : List V} {ds : List PyData} (k : ∀ b, H b ≠ none → H1 b ≠ none) (n : H1 p = none) (h : NwA H H1 xs ds) : Nw H (upd H1 p (.lst xs)) (.ref p) (.list ds) := fun S t =>
  .lst (fun z => k p (t p z) n) upd_same ((h S t).kp (Kp.new (S := []) n) fun _ z => by cases z)
theorem NwA.nil {H H1 : Hp} : NwA H H1 [] [] := fun _ _ => .nil
theorem NwA.cons {H H1 : Hp} {v : V} {vs : List V} {d : PyData} {ds : List PyData} (h : Nw H H1 v d) (t : NwA H H1 vs ds) : NwA H H1 (v :: vs) (d :: ds) := fun S z => .cons (h S z) (t S z)
theorem Nw.int {H H1 : Hp} (i : Int) : Nw H H1 (.int i) (.int i) := fun _ _ => .int i
theorem Nw.non {H H1 : Hp} : Nw H H1 .non .none := fun _ _ => .non
theorem Nw.bl {H H1 : Hp} (b : Bool) : Nw H H1 (.bl b) (.bool b) := fun _ _ => .bl b
theorem Nw.str {H H1 : Hp} (z : Str) : Nw H H1 (.str z) (.str z) := fun _ _ => .str z
theorem Nw.kp {H H1 H2 : Hp} {v : V} {d : PyData} (h : Nw H H1 v d) (k : Kp [] H1 H2) : Nw H H2 v d := fun S t => (h S t).kp k fun _ z => by cases z
theorem NwA.kp {H H1 H2 : Hp} {v : List V} {d : List PyData} (h : NwA H H1 v d) (k : Kp [] H1 H2) : NwA H H2 v d := fun S t => (h S t).kp k fun _ z => by cases z
/-- what was written stood before -/
theorem Nw.kpS {H H1 H2 : Hp} {S0 : List Addr} {v : V} {d : PyData} (h : Nw H H1 v d) (k : Kp S0 H1 H2) (hs : ∀ s ∈ S0, H s ≠ none) : Nw H H2 v d := fun S t =>
  ((h (S0 ++ S) fun s z => by rcases List.mem_append.mp z with z | z <;> first | exact hs s z | exact t s z).kp k fun x z => List.mem_append_left _ z).wk fun x z => List.mem_append_right _ z
theorem NwA.kpS {H H1 H2 : Hp} {S0 : List Addr} {v : List V} {d : List PyData} (h : NwA H H1 v d) (k : Kp S0 H1 H2) (hs : ∀ s ∈ S0, H s ≠ none) : NwA H H2 v d := fun S t =>
  ((h (S0 ++ S) fun s z => by rcases List.mem_append.mp z with z | z <;> first | exact hs s z | exact t s z).kp k fun x z => List.mem_append_left _ z).wk fun x z => List.mem_append_right _ z
theorem Nw.old {H0 H H1 : Hp} {v : V} {d : PyData} (k : ∀ b, H0 b ≠ none → H b ≠ none) (h : Nw H H1 v d) : Nw H0 H1 v d := fun S t => h S fun s z => k s (t s z)
theorem NwA.old {H0 H H1 : Hp} {v : List V} {d : List PyData} (k : ∀ b, H0 b ≠ none → H b ≠ none) (h : NwA H H1 v d) : NwA H0 H1 v d := fun S t => h S fun s z => k s (t s z)
theorem NwA.app {H H1 : Hp} {v w : List V} {d e : List PyData} (h : NwA H H1 v d) (h2 : NwA H H1 w e) : NwA H H1 (v ++ w) (d ++ e) := fun S t => (h S t).app (h2 S t)
theorem NwA.ints {H H1 : Hp} : ∀ ns : List Int, NwA H H1 (ns.map V.int) (ns.map PyData.int)
  | [] => .nil
  | n :: r => .cons (.int n) (NwA.ints r)

/-! ### repr of data -/
section
variable {X : Cx}
theorem call_repr {j : Nat} (hG : X.A.guards = some []) (rm : Room j X.A) : CallR X (.builtin "repr") (fun xs H Q => ∃ (x : V) (d : PyData), xs = [x] ∧ Dp X.K H x d ∧ d.showable = true ∧ d.hasDict = false ∧ d.depth < 150 ∧ d.shown.length ≤ sizeLine ∧ (∃ a, x = .ref a) ∧ Q (.str d.shown) H) := by
  intro pins s σ H xs us Q I r h
  obtain ⟨x, d, rfl, hd, h1, h2, h3, h4, ⟨a, rfl⟩, q⟩ := h
  obtain ⟨u, rfl, ru⟩ := vals1 r
  obtain ⟨as, hr⟩ := hd.reads I d _ u ru
  obtain rfl : u = Value.ref a := ru
  have hu := rm.un
  refine repr_of_reads' hr h1 (fun e => by rw [h2] at e; cases e) hG (by omega) (fun _ _ e => e) (fun h' u tk hk => ?_) h4
  exact ⟨.str d.shown, H, I.kept (t' := tk) hk, ⟨u, rfl⟩, q⟩
/-- as call_isi, the written part told (in a comprehension's block it can't be read off) -/
theorem call_isiK {K : PySem.W.Frag} (h : X.K = K) : CallR X (.builtin "isinstance") (rIsi K) := h ▸ call_isi
theorem ix_tupK {K : PySem.W.Frag} (h : X.K = K) : IxR X (rIxT K) := h ▸ ix_tup
theorem ix_listK {K : PySem.W.Frag} (h : X.K = K) : IxR X (rIxL K) := h ▸ ix_list
/-! ### powers of great numbers; xs[i] op= e -/
def CPowW (i j : Int) : Prop := 0 ≤ j ∧ (Builtin.Int.intBits i : Int) * j ≤ 2 ^ 27
theorem op_powW : OpR X (binaryOp .Pow) (rI CPowW fun i j => .int (i ^ j.toNat)) := opI fun i j _ _ _ _ _ hc q => PyProof.Rows.pow_int hc.1 hc.2 q
def rCatL (K : PySem.W.Frag) : R2 := fun x y H Q => ∃ l b xs zs, x = .ref l ∧ y = .ref b ∧ SqL K H l xs ∧ SqL K H b zs ∧ xs.length + zs.length ≤ sizeLine ∧ ∀ p, H p = none → Q (.ref p) (upd H p (.lst (xs ++ zs)))
/-- list + list, also of a list that no one may write -/
theorem op_catL : OpR X (binaryOp .Add) (rCatL X.K) := by
  intro pins s σ H x y v u Q I rx ry h
  obtain ⟨l, b, xs, zs, rfl, rfl, hH, hB, hz, q⟩ := h
  cases rx
  cases ry
  obtain ⟨its, r, pl, _⟩ := I.list hH
  obtain ⟨its2, r2, pl2, _⟩ := I.list hB
  have hl := r.length
  have hl2 := r2.length
  obtain ⟨⟨cls, dd, data, sl⟩, ho, hc, n, hd⟩ := id pl.isList
  obtain ⟨⟨cls2, dd2, data2, sl2⟩, ho2, hc2, n2, hd2⟩ := id pl2.isList
  simp only at hc hd hc2 hd2
  subst hc hd hc2 hd2
  have e : its.toArray ++ its2.toArray = (its ++ its2).toArray := by simp
  refine concat_meets ⟨_, ho, rfl⟩ ⟨_, ho2, rfl⟩ noFill_list_add seq_list_add PySem.F.slot_list_add PySem.F.entry_list_add (PySem.F.args_list_add_2 _ _) (list_addW l b its.toArray its2.toArray n n2 dd dd2 sl sl2 (by rw [List.size_toArray, List.size_toArray]; omega)) ⟨ho, ho2, ?_⟩
  rw [e]
  exact ⟨.ref _, _, I.lnew (t' := s.toks) (r.append r2) (by rw [List.length_append]; omega), rfl, q _ I.fresh⟩
def rGetL (K : PySem.W.Frag) : V → V → Hp → VK → Prop := fun x y H Q => ∃ (p : Addr) (xs : List V) (j : Nat) (v : V), x = .ref p ∧ y = .int j ∧ SqL K H p xs ∧ xs[j]? = some v ∧ Q v H
theorem pget_list : PGet X (rGetL X.K) := by
  intro pins s σ H o i ov iv Q I r1 r2 h
  obtain ⟨p, xs, j, v, rfl, rfl, hq, hv, q⟩ := h
  obtain rfl : ov = Value.ref p := r1
  obtain ⟨t, rfl⟩ := r2
  obtain ⟨its, r, pl, hz⟩ := I.list hq
  obtain ⟨u, hu, ru⟩ := r.get hv
  have hj := (List.getElem?_eq_some_iff.mp hu).1
  have hl := r.length
  have h63 := line63
  exact getItem_listL pl.isList (by omega) (by omega) (by simpa using hu) ⟨v, H, I, ru, q⟩
end
theorem pow_ok {i : Int} {n e : Nat} (h : i.natAbs < 2 ^ n) (hn : 0 < n) (hz : n * e ≤ 2 ^ 27) : CPowW i (e : Int) := by
  refine ⟨by omega, ?_⟩
  have h1 : Builtin.Int.intBits i ≤ n := by
    have q := PySem.Flt.log2_lt_of hn h
    unfold Builtin.Int.intBits
    split <;> omega
  have h2 : Builtin.Int.intBits i * e ≤ n * e := Nat.mul_le_mul_right e h1
  have h3 : ((Builtin.Int.intBits i * e : Nat) : Int) ≤ ((2 ^ 27 : Nat) : Int) := Int.ofNat_le.mpr (Nat.le_trans h2 hz)
  rw [Int.natCast_mul] at h3
  exact h3
end Em

namespace Em
open PySem PySem.Spec PyProof.Rows L2 Qt

/-! ### a law's end: nothing is being shown around the law's call -/
def LawG (l : PySem.W.OpenLaw) (w : World) (K : PySem.W.Frag) (k n : Nat) (x : Str) (mg : Str → Option Value) (fa : Addr) (h : Heap) : Prop :=
  ∃ (fd : FuncData) (cs : List (Addr × Addr)) (sp : Sp), (∀ p ∈ cs, h.get? p.2 = some { cls := .none, data := .fields #[] } ∧ K.lookup p.2 = none ∧ PySem.W.CodeHd h p.1 p.2) ∧ (∀ (s : Shared) (u : Value), BindsTo s fd ⟨[u], []⟩ [(x, u)]) ∧
    (∀ (H : Hp) (a : Addr) (ns : List Int), ns.length ≤ n → (∀ z ∈ ns, Builtin.Int.intBits z ≤ 1048576) → (∀ p ∈ cs, H p.2 = some (.tbl #[])) → SqL K H a (ns.map V.int) → sp [.ref a] H (fun v _ => v = .bl true) fun _ _ _ => False) ∧
    ∀ base : Heap, K.In base → base.Ns mainGlobals mg → (∀ p ∈ cs, GxR.TabB base mg p.1 p.2) → FnG l.prog w K mg base CX0 k fa fd [x] sp

section
variable {P : Program} {w : World} {K : PySem.W.Frag} {mg mb : Str → Option Value} {k : Nat} {fa a : Addr} {cs : List (Addr × Addr)} {fd : FuncData} {x : Str} {sp : Sp} {s : Shared} {vs : List Value} {ns : List Int}
/-- what is tracked as the law begins: the tables, and the script if it is no written thing -/
def hp0 (K : PySem.W.Frag) (cs : List (Addr × Addr)) (a : Addr) (vs : List Value) (ns : List Int) : Hp := fun b =>
  if b ∈ cs.map (·.2) then some (.tbl #[]) else if b = a ∧ K.lookup a = none then some (.frz { cls := .type "list", data := .seq vs.toArray } (.lst (ns.map V.int))) else none
theorem hp0_tab {b : Addr} (h : b ∈ cs.map (·.2)) : hp0 K cs a vs ns b = some (.tbl #[]) := by unfold hp0; rw [if_pos h]
theorem hp0_scr (h : a ∉ cs.map (·.2)) (hk : K.lookup a = none) : hp0 K cs a vs ns a = some (.frz { cls := .type "list", data := .seq vs.toArray } (.lst (ns.map V.int))) := by
  unfold hp0; rw [if_neg h, if_pos ⟨rfl, hk⟩]
theorem hp0_cases {b : Addr} {o : HO} (h : hp0 K cs a vs ns b = some o) : (b ∈ cs.map (·.2) ∧ o = .tbl #[]) ∨ (b ∉ cs.map (·.2) ∧ b = a ∧ K.lookup a = none ∧ o = .frz { cls := .type "list", data := .seq vs.toArray } (.lst (ns.map V.int))) := by
  unfold hp0 at h
  by_cases h1 : b ∈ cs.map (·.2)
  · rw [if_pos h1] at h; exact .inl ⟨h1, (Option.some.inj h).symm⟩
  · rw [if_neg h1] at h
    by_cases h2 : b = a ∧ K.lookup a = none
    · rw [if_pos h2] at h; exact .inr ⟨h1, h2.1, h2.2, (Option.some.inj h).symm⟩
    · rw [if_neg h2] at h; cases h

theorem law_endG (KX : K.In s.heap) (n1 : s.heap.Ns mainGlobals mg) (n2 : s.heap.Ns builtinsNs mb) (n3 : ∀ x : Str, x ≠ "__name__" → mb x = bootBuiltins x) (lim : s.heap.NoLimit) (hg : s.gens = #[])
    (hT : ∀ p ∈ cs, s.heap.get? p.2 = some { cls := .none, data := .fields #[] } ∧ K.lookup p.2 = none ∧ PySem.W.CodeHd s.heap p.1 p.2)
    (hbm : ∃ (bm : Addr) (ob : Obj), mg "__builtins__" = some (.ref bm) ∧ bm ≠ builtinsNs ∧ s.heap.get? bm = some ob ∧ ob.cls = .type "module" ∧ ob.dict = some builtinsNs ∧ ob.data = .plain)
    (ha : s.heap.get? a = some { cls := .type "list", data := .seq vs.toArray }) (hi : IntsAre vs ns) (hl : ns.length ≤ sizeLine) (rm : Room k callerA)
    (F : ∀ base : Heap, K.In base → base.Ns mainGlobals mg → (∀ p ∈ cs, GxR.TabB base mg p.1 p.2) → FnG P w K mg base CX0 k fa fd [x] sp) (hb : ∀ (s : Shared) (u : Value), BindsTo s fd ⟨[u], []⟩ [(x, u)])
    (hsp : ∀ H : Hp, (∀ p ∈ cs, H p.2 = some (.tbl #[])) → SqL K H a (ns.map V.int) → sp [.ref a] H (fun v _ => v = .bl true) fun _ _ _ => False) :
    codeAny (model P w) callerA (.call (.ref fa) ⟨[.ref a], []⟩) (fun r s' => r = .ok (.ret (.bool true)) ∧ OldK s.heap s'.heap ∧ s'.os = s.os ∧ AllBare s'.gens) s := by
  have rv := vals_ints hi
  have lenV := hi.length
  obtain ⟨H, eH⟩ : ∃ H, H = hp0 K cs a vs ns := ⟨_, rfl⟩
  have memT : ∀ p ∈ cs, p.2 ∈ cs.map (·.2) := fun p hp => List.mem_map.mpr ⟨p, hp, rfl⟩
  have tabH : ∀ b, b ∈ cs.map (·.2) → s.heap.get? b = some { cls := .none, data := .fields #[] } ∧ K.lookup b = none := fun b hb => by
    obtain ⟨p, hp, e⟩ := List.mem_map.mp hb
    rw [← e]
    exact ⟨(hT p hp).1, (hT p hp).2.1⟩
  have aT : a ∉ cs.map (·.2) := fun z => by
    have q := (tabH a z).1
    rw [ha] at q
    have q2 : Data.seq vs.toArray _ = Data.fields #[] := congrArg Obj.data (Option.some.inj q)
    cases q2
  have hS : SqL K H a (ns.map V.int) := by
    cases hk : K.lookup a with
    | none => exact .inl (.inr ⟨_, by rw [eH]; exact hp0_scr aT hk⟩)
    | some o =>
      have e := KX a o hk
      rw [ha] at e
      cases e
      exact .inr ⟨_, vs.toArray, _, hk, rfl, rfl, rfl, by rw [List.size_toArray, lenV]; exact hl, by simpa using rv⟩
  have hH : ∀ p ∈ cs, H p.2 = some (.tbl #[]) := fun p hp => by rw [eH]; exact hp0_tab (memT p hp)
  have hok : HOk P w H s.heap := fun b o e => by
    rw [eH] at e
    rcases hp0_cases e with ⟨h1, rfl⟩ | ⟨h1, rfl, hk, rfl⟩
    · exact (tabH b h1).1
    · exact ⟨ha, by rw [List.length_map]; exact hl, vs, _, rv, ha⟩
  -- what is neither a sequence nor an empty table is untracked
  have out : ∀ {b : Addr} {o : Obj}, s.heap.get? b = some o → (∀ us n, o.data ≠ .seq us n) → o.data ≠ .fields #[] → H b = none := fun {b o} e h1 h2 => by
    cases q : H b with
    | none => rfl
    | some u =>
      rw [eH] at q
      rcases hp0_cases q with ⟨h3, _⟩ | ⟨_, h3, _⟩
      · rw [(tabH b h3).1] at e; cases e; exact absurd rfl h2
      · rw [h3, ha] at e; cases e; exact absurd rfl (h1 _ _)
  have keepB : ∀ {b : Addr} {o : Obj}, s.heap.get? b = some o → H b = none → (hidT s.heap H).get? b = some o := fun e n => hidT_get e n
  have nsB : ∀ {b : Addr} {m : Str → Option Value}, s.heap.Ns b m → (hidT s.heap H).Ns b m := fun {b m} ⟨o, es, ep, e, d, r⟩ =>
    ⟨o, es, ep, keepB e (out e (fun us n z => by rw [d] at z; cases z) fun z => by rw [d] at z; cases z), d, r⟩
  have KB : K.In (hidT s.heap H) := fun b o e => keepB (KX b o e) (by
    cases q : H b with
    | none => rfl
    | some u =>
      rw [eH] at q
      rcases hp0_cases q with ⟨h3, _⟩ | ⟨_, h3, h4, _⟩
      · rw [(tabH b h3).2] at e; cases e
      · rw [h3, h4] at e; cases e)
  have MB : L2.Mod K mg (hidT s.heap H) := ⟨KB, nsB n1, ⟨mb, nsB n2, n3⟩, let ⟨mc, h1, h2⟩ := lim; ⟨mc, nsB h1, h2⟩⟩
  have TB : ∀ p ∈ cs, GxR.TabB (hidT s.heap H) mg p.1 p.2 := fun p hp => by
    obtain ⟨t1, t2, o, us, file, tf, flags, tg, inF, text, tt, e1, r1, r2, r3, r4, r5, r6, r7, r8, hne⟩ := hT p hp
    obtain ⟨bm, ob, b1, b2, b3, b4, b5, b6⟩ := hbm
    refine ⟨⟨o, us, file, tf, flags, tg, inF, text, tt, keepB e1 (out e1 (fun vs n z => by rw [r2] at z; cases z) fun z => by rw [r2] at z; cases z; simp at r3), r1, r2, r3, r4, r5, r6, r7, r8, hne⟩,
      ⟨bm, ob, b1, b2, fun q => ?_, fun q => ?_, keepB b3 (out b3 (fun vs n z => by rw [b6] at z; cases z) fun z => by rw [b6] at z; cases z), b4, b5, b6⟩, fun z => ?_⟩
    · obtain ⟨o, es, ep, e, hd, _⟩ := n1
      rw [q, e] at b3; cases b3
      rw [hd] at b6; cases b6
    · rw [q, t1] at b3; cases b3; cases b6
    · obtain ⟨o, es, ep, e, hd, _⟩ := n1
      rw [z, t1] at e; cases e; cases hd
  have e0 : Env0 P w K mg (hidT s.heap H) callerA [] s H := ⟨rfl, MB, fun b o e => of_hidT e, Nat.le_of_eq (hidT_size _ _), trivial, fun b hb => absurd (show b ∈ ([] : List Addr) from hb) (by simp), hok, .of_eq hg⟩
  refine codeAny_mono ((F _ KB (nsB n1) TB).go callerA [] s H ⟨[.ref a], []⟩ [.ref a] [.ref a] _ _ rfl rm e0 (hb s (.ref a)) (.cons rfl .nil) (hsp H hH hS)) fun r s' h => ?_
  cases r with
  | error e => exact absurd (show False from h) (fun z => z)
  | ok fl =>
    cases fl with
    | next => exact absurd (show False from h) (fun z => z)
    | brk => exact absurd (show False from h) (fun z => z)
    | cont => exact absurd (show False from h) (fun z => z)
    | ret u =>
      obtain ⟨v, H', hos, bare, un, hok', r', q⟩ := h
      subst q
      obtain rfl : u = Value.bool true := r'
      have noA : ∀ b : Addr, b ∉ ([] : List Addr) := fun b => by simp
      have same : ∀ b o, b ∉ cs.map (·.2) → s.heap.get? b = some o → s'.heap.get? b = some o := fun b o nb e => by
        cases q : H b with
        | none => exact un.keep b o e q (fun z => absurd (show b ∈ ([] : List Addr) from z) (noA b)) (noA b)
        | some u =>
          have q0 := q
          rw [eH] at q
          rcases hp0_cases q with ⟨h3, _⟩ | ⟨_, h3, h4, rfl⟩
          · exact absurd h3 nb
          · obtain ⟨e1, _⟩ := hok b _ q0
            obtain ⟨e2, _⟩ := hok' b _ (un.frzs b _ _ q0)
            rw [e] at e1
            cases e1
            exact e2
      have more : ∀ b, b ∈ cs.map (·.2) → ∃ m : Array Value, s'.heap.get? b = some { cls := .none, data := .fields m } := fun b hb => by
        obtain ⟨p, hp, e⟩ := List.mem_map.mp hb
        obtain ⟨m, z⟩ := un.tbls p.2 #[] (hH p hp)
        rw [← e]
        exact ⟨_, hok' p.2 _ z⟩
      refine ⟨rfl, ⟨fun b o e => ?_, fun b o e => ?_⟩, hos, bare⟩
      · by_cases hb : b ∈ cs.map (·.2)
        · obtain ⟨m, hm⟩ := more b hb
          obtain ⟨p, hp, ep⟩ := List.mem_map.mp hb
          rw [(tabH b hb).1] at e
          cases e
          refine .inr (.inl ⟨?_, rfl, #[], m, rfl, by rw [Array.empty_append]; exact hm⟩)
          rw [← ep]
          exact ((hT p hp).2.2.tab (hT p hp).1).isCodeTable
        · exact .inl (same b o hb e)
      · by_cases hb : b ∈ cs.map (·.2)
        · obtain ⟨m, hm⟩ := more b hb
          exact ⟨_, hm⟩
        · exact ⟨o, same b o hb e⟩
end
theorem walkG {l : PySem.W.OpenLaw} {n k : Nat} {q : Program} {loose : List Str} {XP : (Str → Option Value) → Heap → Prop} {YP : World → Heap → Prop} {d : DefRec} {x : Str}
    (hn : l.most = some n) (hn2 : n ≤ sizeLine) (hdf : d.params.defaults = []) (rm : Room k callerA)
    (F : ∀ (w : World) (mg : Str → Option Value) (fa : Addr) (h : Heap), YP w h → h.Ns mainGlobals mg → mg d.name = some (.ref fa) → ∃ K : PySem.W.Frag, K.In h ∧ LawG l w K k n x mg fa h) :
    PySem.W.WalkO q loose XP YP l.row.toRowW d [] (fun f vs => PySem.call f vs) := by
  refine Att.attach_callB hn hdf fun w s0 s1 mg mb fa o pm cd doc a vs ns G Y ho hd hcd hmg hobj hints hlen hbits hg => ?_
  obtain ⟨K, KX, fd, cs, sp, hT, hb, hsp, hF⟩ := F w mg fa _ Y G.T.g hmg
  exact law_endG KX G.T.g G.T.b G.T.builtins G.T.nolimit hg hT G.T.bmain hobj hints (Nat.le_trans hlen hn2) rm hF hb fun H hH hS => hsp H a ns hlen hbits hH hS
/-! ### facts of the head -/
theorem funOf {K : PySem.W.Frag} {x qual : Str} {st : Stmt} {f : Addr} {fd : FuncData} (F : FunD K x qual (defArgs st) (defBody st) (defScope st) [] [] f fd) : Fun K x qual st f fd := by
  obtain ⟨oc, od, dV, kV, doc, pm, an, cdv, ct, osl, e, lk, hcd, hD, hK⟩ := F.ex
  rcases hD with ⟨_, rfl⟩ | ⟨z, _⟩
  · exact ⟨⟨oc, od, kV, doc, pm, an, cdv, ct, osl, e, lk, hcd⟩, F.kp⟩
  · exact absurd rfl z
/-- a def of the module: where it stands, how it is called -/
structure Df (K : PySem.W.Frag) (mg : Str → Option Value) (x : Str) (st : Stmt) (ps : List Str) (f : Addr) (fd : FuncData) : Prop where
  F : Fun K x x st f fd
  b : Binds K fd ps []
  g : mg x = some (.ref f)
/-- its code's object -/
def CodeIs (K : PySem.W.Frag) (f c : Addr) : Prop := ∀ oc od fd osl, K.lookup f = some ⟨oc, od, .func fd, osl⟩ → fd.code = .ref c
theorem codeIs_of {K : PySem.W.Frag} {x qual : Str} {st : Stmt} {p : Str × Option Str} {fd : FuncData} (F : Fun K x qual st (He.fAd K p) fd) : CodeIs K (He.fAd K p) (He.codeOf K p) := by
  obtain ⟨oc, od, kV, doc, pm, an, cdv, ct, osl, e, lk, hcd⟩ := F.ex
  obtain ⟨c, hc⟩ := He.codeIn_ref hcd
  have h1 : He.codeOf K p = c := He.codeOf_eq lk (by rw [e]; exact hc)
  intro oc2 od2 fd2 osl2 lk2
  rw [lk] at lk2
  cases lk2
  rw [h1, e]
  exact hc
theorem Df.mk' {K : PySem.W.Frag} {mg : Str → Option Value} {x : Str} {st : Stmt} {ps : List Str} {f : Addr} {fd : FuncData} (F : FunD K x x (defArgs st) (defBody st) (defScope st) [] [] f fd) (hm : mg x = some (.ref f))
    (h : ∀ (kV doc pm : Value) (an : Option Addr) (cdv ct : Value) (us : List Value), us.length = ps.length → bindArgs (PySem.W.fnOf x x (defArgs st) (defBody st) (defScope st) .none kV doc pm an cdv ct) ⟨us, []⟩ = pure (ps.zip us)) : Df K mg x st ps f fd :=
  ⟨funOf F, F.bindsN h, hm⟩
/-- as Fun.ok, the code's object known -/
theorem okC {P : Program} {w : World} {K : PySem.W.Frag} {mg : Str → Option Value} {base : Heap} {k : Nat} {f c : Addr} {fd : FuncData} {ps : List Str} {sp : Sp} {x qual : Str} {st : Stmt} {N : List Str} (F : Fun K x qual st f fd) (hC : CodeIs K f c) (S : FnScope N ps (defScope st)) (len : ∀ vs H Q E, sp vs H Q E → vs.length = ps.length)
    (hbody : ∀ (A : Around) (outer : List Env) (s : Shared) (H : Hp) (vs : List V) (Q : VK) (E : XK), Room k (A.deeper (envOfC qual (defScope st) s.heap.objs.size f (.ref c))) → sp vs H Q E →
      ∃ t, PSs (cxOf CX0 P w K mg base N qual (defScope st) f (.ref c) A outer s H E).nox (defBody st) t ∧ t { nx := fun _ H' => Q .non H', rt := Q } (start N vs) H) : FnOk P w K mg base CX0 (k + 1) f fd ps sp := by
  obtain ⟨oc, od, kV, doc, pm, an, cdv, ct, osl, rfl, lk, hcd⟩ := F.ex
  have hc : cdv = .ref c := hC _ _ _ _ lk
  subst hc
  refine fn_of lk hcd S len fun A outer s H vs Q E hr hs => ?_
  obtain ⟨t, h, q⟩ := hbody A outer s H vs Q E hr hs
  exact ⟨t, h.nox, q⟩
end Em

namespace Em
open PySem PySem.Spec PyProof.Rows L2 Qt

/-! ### what a net is, of any data -/
def isW : PyData → Bool
  | .int _ => true
  | _ => false
def numB (m : Nat) : PyData → Bool
  | .int i => decide (0 ≤ i) && decide (i < (m : Int))
  | _ => false
def lenB : PyData → Bool
  | .int i => !decide (i < 1)
  | _ => false
def nxB (m : Nat) : PyData → Bool
  | .none => true
  | d => numB m d
def lampB (m : Nat) : PyData → Bool
  | .tuple [l, o] => lenB l && nxB m o
  | _ => false
def netB : PyData → Bool
  | .tuple ds => !decide ((ds.length : Int) < 1) && !decide ((12 : Int) < (ds.length : Int)) && (ds.map (lampB ds.length)).all id
  | _ => false

/-! ### the class of data -/
def kname : PyData → String
  | .none => "NoneType"
  | .bool _ => "bool"
  | .int _ => "int"
  | .str _ => "str"
  | .list _ => "list"
  | .tuple _ => "tuple"
  | .dict _ => "dict"
theorem knd_of {c : Qc} {S : List Addr} (O : c.Ok) : ∀ {v : V} {d : PyData}, Dx S c.H v d → Knd c v (kname d)
  | _, _, .non => .non
  | _, _, .bl b => .bl b
  | _, _, .int i => .int i
  | _, _, .str z => .str z
  | _, _, .lst n h r => by
    obtain ⟨_, its, m, _, e⟩ := O.hok _ _ h
    exact .lst ⟨_, e, rfl⟩
  | _, _, .tup n h r => by
    obtain ⟨_, its, _, o, e, ec, _⟩ := O.hok _ _ h
    exact .tup ⟨o, e, ec⟩
  | _, _, .dic n h => by
    obtain ⟨_, _, vs, _, o, es, ep, e, q, _⟩ := O.hok _ _ h
    exact .dic ⟨o, e, q.1⟩
theorem tupQ_of {c : Qc} (O : c.Ok) {a : Addr} {xs : List V} (h : c.H a = some (.tup xs)) : TupQ c a xs := by
  obtain ⟨hz, its, rv, ht⟩ := O.hok _ _ h
  exact ⟨its, rv, ht, hz⟩
/-- isinstance(x, C) of data -/
def kindS (k C : String) : Bool := k == C || (k == "bool" && C == "int")
def kindB (d : PyData) (C : String) : Bool := kindS (kname d) C
def kinds : List String := ["NoneType", "bool", "int", "str", "list", "tuple", "dict"]
theorem kname_mem (d : PyData) : kname d ∈ kinds := by cases d <;> simp [kname, kinds]
def cls4 : List String := ["int", "bool", "tuple", "list"]
theorem kits : ∀ C ∈ cls4, ∀ k ∈ kinds, kitB k C = some (kindS k C) := by decide +kernel
theorem kit_data {K : PySem.W.Frag} {d : PyData} {C : String} (hC : C ∈ cls4) : PySem.W.kitOne K (.type (kname d)) (.type C) = some (kindB d C) := kit_ty (kits C hC _ (kname_mem d))
theorem qe_isi {c : Qc} {k : Nat} {env : Env} {N : Nm} {S : List Addr} {v : V} {d : PyData} {C : String} {e : Expr} {p1 p2 pos : Pos} (O : c.Ok) (h : Dx S c.H v d) (he : QE c k env N e v) (hg : env.kindOf ("isinstance" : Str) = some .globalImplicit) (hm : c.mg "isinstance" = none)
    (hgC : env.kindOf (Str.ofString C) = some .globalImplicit) (hmC : c.mg (Str.ofString C) = none) (hvC : bootBuiltins (Str.ofString C) = some (.type C)) (hC : C ∈ cls4)
    (hn : (Str.ofString C) ≠ "__name__" := by decide) (hd : ((Str.ofString C) == ("__debug__" : Str)) = false := by decide)
    (s1 : starEach (e :: [.Name (Str.ofString C) p2]) env = (false, eval e env) :: starEach [.Name (Str.ofString C) p2] env := by rfl) (s2 : starEach (.Name (Str.ofString C) p2 :: []) env = (false, eval (.Name (Str.ofString C) p2) env) :: starEach [] env := by rfl)
    (hpl : (backTo pos (starEach [.Name (Str.ofString C) p2] env)).any (·.1) = false := by rfl) :
    QE c k env N (.Call (.Name "isinstance" p1) (e :: [.Name (Str.ofString C) p2]) [] pos) (.bl (kindB d C)) :=
  q_callB O (qc_isi O (knd_of O h) (kit_data hC)) hg hm (by decide +kernel) (qa_cons he (qa_cons (q_blt (v := .ty C) O hgC hmC hvC rfl hn hd) qa_nil s2) s1) (by decide) (by decide) s1 hpl
theorem tyx_of {K : PySem.W.Frag} {S : List Addr} {H : Hp} : ∀ {v : V} {d : PyData}, Dx S H v d → TyX K H v (.type (kname d))
  | _, _, .non => .base .non
  | _, _, .bl b => .base (.bl b)
  | _, _, .int i => .base (.int i)
  | _, _, .str z => .base (.str z)
  | _, _, .lst n h r => .base (.lst h)
  | _, _, .tup n h r => .base (.tup h)
  | _, _, .dic n h => .base (.dK h)
mutual
theorem Dx.wiped {S : List Addr} {H : Hp} {P : Addr} (t : GxR.TabG H P) : ∀ {v : V} {d : PyData}, Dx S H v d → Dx S (wipe H P) v d
  | _, _, .non => .non
  | _, _, .bl b => .bl b
  | _, _, .int i => .int i
  | _, _, .str z => .str z
  | _, _, .lst n h r => .lst n (wipe_at (fun z => by obtain ⟨ps, e, _⟩ := t; rw [z, e] at h; cases h) h) (DxA.wiped t r)
  | _, _, .tup n h r => .tup n (wipe_at (fun z => by obtain ⟨ps, e, _⟩ := t; rw [z, e] at h; cases h) h) (DxA.wiped t r)
  | _, _, .dic n h => .dic n (wipe_at (fun z => by obtain ⟨ps, e, _⟩ := t; rw [z, e] at h; cases h) h)
theorem DxA.wiped {S : List Addr} {H : Hp} {P : Addr} (t : GxR.TabG H P) : ∀ {v : List V} {d : List PyData}, DxA S H v d → DxA S (wipe H P) v d
  | _, _, .nil => .nil
  | _, _, .cons h r => .cons (Dx.wiped t h) (DxA.wiped t r)
end
theorem free_by {names : List (Str × NameKind)} {sc : Scope} {n : Nat} (h : names.all (fun y => y.2 != .free || sc.names.lookup y.1 == some .cell) = true) : ∀ y ∈ names, y.2 = .free → ∃ c, (cellsFrom n sc.names []).lookup y.1 = some c := fun y hy e => by
  have q := List.all_eq_true.mp h y hy
  rw [e] at q
  exact cell_has (by simpa using q)
end Em

namespace Em
open PySem PySem.Spec PyProof.Rows L2 Qt

/-! ### nets -/
abbrev Net := List (Int × Option Nat)
def nxD : Option Nat → PyData
  | none => .none
  | some n => .int n
def nxV : Option Nat → V
  | none => .non
  | some n => .int n
def lampD (p : Int × Option Nat) : PyData := .tuple [.int p.1, nxD p.2]
def netD (N : Net) : PyData := .tuple (N.map lampD)
structure NetOk (N : Net) : Prop where
  lo : 1 ≤ N.length
  hi : N.length ≤ 12
  len : ∀ p ∈ N, 1 ≤ p.1
  nx : ∀ p ∈ N, ∀ y, p.2 = some y → y < N.length
theorem netB_of {N : Net} (h : NetOk N) : netB (netD N) = true := by
  have h1 := h.lo
  have h2 := h.hi
  show (!decide (((N.map lampD).length : Int) < 1) && !decide ((12 : Int) < ((N.map lampD).length : Int)) && ((N.map lampD).map (lampB (N.map lampD).length)).all id) = true
  rw [List.length_map, decide_eq_false (by omega), decide_eq_false (by omega)]
  simp only [Bool.not_false, Bool.true_and, List.map_map, List.all_eq_true]
  intro b hb
  obtain ⟨p, hp, rfl⟩ := List.mem_map.mp hb
  have e1 := h.len p hp
  have e2 := h.nx p hp
  obtain ⟨l, o⟩ := p
  have h3 : ¬ l < 1 := by simp only at e1; omega
  show (!decide (l < 1) && nxB N.length (nxD o)) = true
  rw [decide_eq_false h3]
  cases o with
  | none => rfl
  | some y =>
    have := e2 y rfl
    show (decide ((0 : Int) ≤ (y : Int)) && decide ((y : Int) < (N.length : Int))) = true
    rw [decide_eq_true (by omega), decide_eq_true (by omega)]
    rfl
/-- the next lamp -/
def nxt (N : Net) (x : Nat) : Option Nat := (N.getD x (1, none)).2
theorem nxt_get {N : Net} {x : Nat} {p : Int × Option Nat} (h : N[x]? = some p) : nxt N x = p.2 := by
  unfold nxt
  rw [List.getD_eq_getElem?_getD, h]
  rfl
theorem nxt_lt {N : Net} (h : NetOk N) {x y : Nat} (e : nxt N x = some y) : y < N.length := by
  by_cases hx : x < N.length
  · have g := List.getElem?_eq_getElem hx
    rw [nxt_get g] at e
    exact h.nx _ (List.getElem_mem hx) y e
  · unfold nxt at e
    rw [List.getD_eq_getElem?_getD, List.getElem?_eq_none (by omega)] at e
    cases e

/-! ### the way from a lamp: one step more while there is a lamp that was not come by -/
def lastOf (g : List Nat) : Nat := g.getLastD 0
def step (N : Net) (g : List Nat) : List Nat := match nxt N (lastOf g) with
  | none => g
  | some y => if y ∈ g then g else g ++ [y]
def itr {α : Type} (f : α → α) : Nat → α → α
  | 0, a => a
  | n + 1, a => f (itr f n a)
def path (N : Net) (x : Nat) : List Nat := itr (step N) N.length [x]
/-- the way's two parts -/
def cutAt (N : Net) (g : List Nat) : Nat := match nxt N (lastOf g) with
  | none => g.length
  | some y => g.idxOf y
def wayA (N : Net) (x : Nat) : List Nat := (path N x).take (cutAt N (path N x))
def wayR (N : Net) (x : Nat) : List Nat := (path N x).drop (cutAt N (path N x))
def natsD (g : List Nat) : PyData := .tuple (g.map fun n : Nat => .int (n : Int))
def wayD (N : Net) (x : Nat) : PyData := .tuple [natsD (wayA N x), natsD (wayR N x)]
theorem itr_fix {α : Type} {f : α → α} {a : α} (h : f a = a) : ∀ n, itr f n a = a
  | 0 => rfl
  | n + 1 => by
    show f (itr f n a) = a
    rw [itr_fix h n, h]
theorem itr_add {α : Type} {f : α → α} {a : α} (m : Nat) : ∀ n, itr f (m + n) a = itr f n (itr f m a)
  | 0 => rfl
  | n + 1 => by
    show f (itr f (m + n) a) = f (itr f n (itr f m a))
    rw [itr_add m n]
theorem last_app (g : List Nat) (y : Nat) : lastOf (g ++ [y]) = y := by
  unfold lastOf
  rw [List.getLastD_eq_getLast?, List.getLast?_concat]
  rfl
/-- what is gone so far: i steps on the way -/
structure Gone (N : Net) (x i : Nat) (g : List Nat) : Prop where
  it : g = itr (step N) i [x]
  len : g.length = i + 1
  nd : g.Nodup
  lt : ∀ y ∈ g, y < N.length
theorem Gone.start {N : Net} {x : Nat} (h : x < N.length) : Gone N x 0 [x] := ⟨rfl, rfl, by simp, by simpa using h⟩
theorem Gone.more {N : Net} (o : NetOk N) {x i : Nat} {g : List Nat} (a : Gone N x i g) {y : Nat} (h : nxt N (lastOf g) = some y) (hn : y ∉ g) : Gone N x (i + 1) (g ++ [y]) := by
  refine ⟨?_, by rw [List.length_append, a.len]; rfl, ?_, fun z hz => ?_⟩
  · show g ++ [y] = step N (itr (step N) i [x])
    rw [← a.it]
    unfold step
    rw [h]
    simp only [hn, if_false]
  · rw [List.nodup_append]
    refine ⟨a.nd, by simp, fun b hb c hc => ?_⟩
    have : c = y := by simpa using hc
    subst this
    exact fun e => hn (e ▸ hb)
  · rcases List.mem_append.mp hz with hz | hz
    · exact a.lt z hz
    · have : z = y := by simpa using hz
      rw [this]
      exact nxt_lt o h
theorem nodup_le : ∀ {n : Nat} {g : List Nat}, g.Nodup → (∀ y ∈ g, y < n) → g.length ≤ n
  | 0, g, _, h2 => by
    cases g with
    | nil => exact Nat.le_refl _
    | cons y r => exact absurd (h2 y List.mem_cons_self) (Nat.not_lt_zero _)
  | n + 1, g, h1, h2 => by
    by_cases hn : n ∈ g
    · have h3 := nodup_le (n := n) (g := g.erase n) (h1.erase n) fun y hy => by
        have q := (h1.mem_erase_iff).mp hy
        have := h2 y q.2
        have := q.1
        omega
      rw [List.length_erase_of_mem hn] at h3
      omega
    · have h3 := nodup_le (n := n) h1 fun y hy => by
        have := h2 y hy
        have : y ≠ n := fun e => hn (e ▸ hy)
        omega
      omega
theorem Gone.le {N : Net} {x i : Nat} {g : List Nat} (a : Gone N x i g) : g.length ≤ N.length := nodup_le a.nd a.lt
/-- where no step is left, that is the whole path -/
theorem Gone.done {N : Net} {x i : Nat} {g : List Nat} (a : Gone N x i g) (h : step N g = g) : path N x = g := by
  have hl := a.le
  have e : N.length = i + (N.length - i) := by have := a.len; omega
  unfold path
  rw [e, itr_add, ← a.it]
  exact itr_fix h _
theorem step_none {N : Net} {g : List Nat} (h : nxt N (lastOf g) = none) : step N g = g := by unfold step; rw [h]
theorem step_in {N : Net} {g : List Nat} {y : Nat} (h : nxt N (lastOf g) = some y) (hy : y ∈ g) : step N g = g := by unfold step; rw [h]; simp only [hy, if_true]
/-! ### nets and numbers in the heap -/
def natV (g : List Nat) : List V := g.map fun n : Nat => V.int (n : Int)
theorem natV_app (g : List Nat) (y : Nat) : natV (g ++ [y]) = natV g ++ [.int y] := by unfold natV; rw [List.map_append]; rfl
theorem natV_len (g : List Nat) : (natV g).length = g.length := by unfold natV; rw [List.length_map]
theorem natV_get {g : List Nat} {i y : Nat} (h : g[i]? = some y) : (natV g)[i]? = some (.int y) := by unfold natV; rw [List.getElem?_map, h]; rfl
theorem natV_flat (g : List Nat) : (natV g).all flatV = true := by
  unfold natV
  rw [List.all_eq_true]
  intro v hv
  obtain ⟨n, _, rfl⟩ := List.mem_map.mp hv
  rfl
theorem inV_natV {x : Nat} (g : List Nat) : inV (.int x) (natV g) = decide (x ∈ g) := by
  rw [Bool.eq_iff_iff, decide_eq_true_iff]
  unfold inV natV
  rw [List.any_eq_true]
  constructor
  · rintro ⟨v, hv, e⟩
    obtain ⟨n, hn, rfl⟩ := List.mem_map.mp hv
    have e1 : ((n : Int) == (x : Int)) = true := e
    have e2 : n = x := by have := beq_iff_eq.mp e1; omega
    exact e2 ▸ hn
  · intro h
    exact ⟨_, List.mem_map.mpr ⟨x, h, rfl⟩, by show ((x : Int) == (x : Int)) = true; simp⟩
theorem nwA_natV {H H1 : Hp} : ∀ g : List Nat, NwA H H1 (natV g) (g.map fun n : Nat => PyData.int (n : Int))
  | [] => .nil
  | n :: r => .cons (.int _) (nwA_natV r)
theorem dx_nx {S : List Addr} {H : Hp} {v : V} {o : Option Nat} (h : Dx S H v (nxD o)) : v = nxV o := by
  cases o with
  | none => cases h; rfl
  | some n => cases h; rfl
theorem net_at {S : List Addr} {H : Hp} {v : V} {N : Net} (h : Dx S H v (netD N)) : ∃ (ad : Addr) (xs : List V), v = .ref ad ∧ ad ∉ S ∧ H ad = some (.tup xs) ∧ xs.length = N.length ∧
    ∀ (x : Nat) (p : Int × Option Nat), N[x]? = some p → ∃ la : Addr, xs[x]? = some (.ref la) ∧ la ∉ S ∧ H la = some (.tup [.int p.1, nxV p.2]) := by
  cases h with
  | @tup ad xs ds n h r =>
    refine ⟨ad, xs, rfl, n, h, by rw [r.len, List.length_map], fun x p hp => ?_⟩
    obtain ⟨w, hw, hx⟩ := r.get' (i := x) (d := lampD p) (by rw [List.getElem?_map, hp]; rfl)
    cases hx with
    | @tup la ys es m h2 r2 =>
      cases r2 with
      | cons a1 r3 =>
        cases r3 with
        | cons a2 r4 =>
          cases r4
          cases a1
          rw [dx_nx a2] at h2
          exact ⟨la, hw, m, h2⟩
theorem natV_cut0 {g : List Nat} {i : Nat} (h : i ≤ g.length) : cutV (natV g) none (some (i : Int)) = natV (g.take i) := by
  unfold cutV
  rw [show HT.sIx (natV g).length (natV g).length (some (i : Int)) = min i (natV g).length from HT.sIx_nat _ _ i, HT.sIx_none, natV_len, Nat.min_eq_left h, Nat.sub_zero, List.drop_zero]
  unfold natV
  rw [List.map_take]
theorem natV_cut1 {g : List Nat} {i : Nat} (h : i ≤ g.length) : cutV (natV g) (some (i : Int)) none = natV (g.drop i) := by
  unfold cutV
  rw [show HT.sIx (natV g).length 0 (some (i : Int)) = min i (natV g).length from HT.sIx_nat _ _ i, HT.sIx_none, natV_len, Nat.min_eq_left h]
  unfold natV
  rw [← List.map_drop, List.take_of_length_le (by rw [List.length_map, List.length_drop]; exact Nat.le_refl _)]
theorem idx_ne {g : List Nat} {j u y : Nat} (hj : j < g.idxOf y) (hu : g[j]? = some u) : u ≠ y := fun e => by
  have h := List.not_of_lt_findIdx (p := (· == y)) (xs := g) hj
  obtain ⟨h1, h2⟩ := List.getElem?_eq_some_iff.mp hu
  rw [h2, e] at h
  simp at h
theorem big_log {m : Int} (h : 0 < m) (h2 : m < 2 ^ 8000) : m.natAbs.log2 < 9000 := by
  have h3 : m.natAbs < 2 ^ 8000 := by
    have e : ((2 ^ 8000 : Nat) : Int) = (2 : Int) ^ 8000 := by rw [Int.natCast_pow]; rfl
    have : (m.natAbs : Int) < ((2 ^ 8000 : Nat) : Int) := by rw [e]; omega
    exact Int.ofNat_lt.mp this
  exact Nat.lt_of_lt_of_le (PySem.Flt.log2_lt_of (by decide) h3) (by decide)
theorem at_mem {xs : List V} {r : Int} (h0 : 0 ≤ r) (h1 : r < (xs.length : Int)) : ∃ v, atI xs r = some v ∧ v ∈ xs := by
  obtain ⟨j, rfl⟩ : ∃ j : Nat, r = (j : Int) := ⟨r.toNat, by omega⟩
  have hj : j < xs.length := by omega
  exact ⟨xs[j], atI_nat (List.getElem?_eq_getElem hj), List.getElem_mem hj⟩
theorem small64' {n : Nat} (h : n ≤ 1000) : n ≤ sizeLine := Nat.le_trans h (by decide)
/-- what a walk of so many turns has come by: a turn may have stood still -/
structure Been (N : Net) (x i : Nat) (g : List Nat) : Prop where
  it : g = itr (step N) i [x]
  pos : 1 ≤ g.length
  nd : g.Nodup
  lt : ∀ y ∈ g, y < N.length
  st : g.length = i + 1 ∨ step N g = g
theorem Been.start {N : Net} {x : Nat} (h : x < N.length) : Been N x 0 [x] := ⟨rfl, Nat.le_refl _, by simp, by simpa using h, .inl rfl⟩
theorem Been.still {N : Net} {x i : Nat} {g : List Nat} (a : Been N x i g) (h : step N g = g) : Been N x (i + 1) g := by
  refine ⟨?_, a.pos, a.nd, a.lt, .inr h⟩
  show g = step N (itr (step N) i [x])
  rw [← a.it, h]
theorem Been.more {N : Net} (o : NetOk N) {x i : Nat} {g : List Nat} (a : Been N x i g) {y : Nat} (h : nxt N (lastOf g) = some y) (hn : y ∉ g) : Been N x (i + 1) (g ++ [y]) := by
  have e : step N g = g ++ [y] := by unfold step; rw [h]; simp only [hn, if_false]
  have hl : g.length = i + 1 := by
    rcases a.st with h | h
    · exact h
    · rw [e] at h
      have := congrArg List.length h
      simp at this
  refine ⟨?_, by simp, ?_, fun z hz => ?_, .inl (by rw [List.length_append, hl]; rfl)⟩
  · show g ++ [y] = step N (itr (step N) i [x])
    rw [← a.it, e]
  · rw [List.nodup_append]
    refine ⟨a.nd, by simp, fun b hb c hc => ?_⟩
    have : c = y := by simpa using hc
    subst this
    exact fun e => hn (e ▸ hb)
  · rcases List.mem_append.mp hz with hz | hz
    · exact a.lt z hz
    · have : z = y := by simpa using hz
      rw [this]
      exact nxt_lt o h
theorem Been.le {N : Net} {x i : Nat} {g : List Nat} (a : Been N x i g) : g.length ≤ N.length := nodup_le a.nd a.lt
theorem Been.done {N : Net} {x : Nat} {g : List Nat} (a : Been N x N.length g) : path N x = g ∧ step N g = g := by
  refine ⟨a.it.symm, ?_⟩
  rcases a.st with h | h
  · have := a.le
    omega
  · exact h
theorem step_mem {N : Net} {g : List Nat} {y : Nat} (h : nxt N (lastOf g) = some y) (e : step N g = g) : y ∈ g := by
  by_cases hn : y ∈ g
  · exact hn
  · unfold step at e
    rw [h] at e
    simp only [hn, if_false] at e
    have := congrArg List.length e
    simp at this
theorem last_lt {N : Net} {x i : Nat} {g : List Nat} (a : Been N x i g) : lastOf g < N.length := by
  have h := a.pos
  unfold lastOf
  rw [List.getLastD_eq_getLast?]
  have hne : g ≠ [] := fun e => by rw [e] at h; exact absurd h (by decide)
  rw [List.getLast?_eq_some_getLast hne]
  exact a.lt _ (List.getLast_mem hne)
theorem natV_last {N : Net} {x i : Nat} {g : List Nat} (a : Been N x i g) : atI (natV g) (-1) = some (.int (lastOf g : Nat)) := by
  have h := a.pos
  have hne : g ≠ [] := fun e => by rw [e] at h; exact absurd h (by decide)
  have e := (List.dropLast_concat_getLast hne).symm
  have el : lastOf g = g.getLast hne := by
    unfold lastOf
    rw [List.getLastD_eq_getLast?, List.getLast?_eq_some_getLast hne]
    rfl
  have e2 : natV g = natV g.dropLast ++ [.int (g.getLast hne : Nat)] := by rw [← natV_app]; exact congrArg natV e
  rw [el, e2]
  exact atI_last _ _
end Em

namespace Em
open PySem PySem.Spec PyProof.Rows L2 Qt

/-! ### nets and ways as data: shown, compared -/
def Short (N : Net) : Prop := ∀ p ∈ N, p.1 < 10 ^ 60
theorem lamp_lay (p : Int × Option Nat) : (lampD p).canLay0 = true := by
  obtain ⟨l, o⟩ := p
  cases o <;> rfl
theorem all_lay {α : Type} {f : α → PyData} (h : ∀ a, (f a).canLay0 = true) : ∀ xs : List α, PyData.canLayAll0 (xs.map f) = true
  | [] => rfl
  | x :: r => by
    show ((f x).canLay0 && PyData.canLayAll0 (r.map f)) = true
    rw [h x, all_lay h r]
    rfl
theorem all_depth {α : Type} {f : α → PyData} {n : Nat} (h : ∀ a, (f a).depth ≤ n) : ∀ xs : List α, PyData.depthAll (xs.map f) ≤ n
  | [] => Nat.zero_le _
  | x :: r => by
    show max (f x).depth (PyData.depthAll (r.map f)) ≤ n
    exact Nat.max_le.mpr ⟨h x, all_depth h r⟩
theorem net_lay (N : Net) : (netD N).canLay0 = true := by
  show PyData.canLayAll0 (N.map lampD) = true
  exact all_lay lamp_lay N
theorem lamp_depth (p : Int × Option Nat) : (lampD p).depth ≤ 1 := by
  obtain ⟨l, o⟩ := p
  cases o <;> exact Nat.le_refl _
theorem net_depth (N : Net) : (netD N).depth ≤ 2 := by
  show PyData.depthAll (N.map lampD) + 1 ≤ 2
  have := all_depth lamp_depth N
  omega
theorem net_noDict (N : Net) : (netD N).hasDict = false := PyData.hasDict_of_canLay _ (net_lay N)
theorem net_shaped (N : Net) : SeqAt.shaped (netD N) = true := by
  unfold SeqAt.shaped
  rw [net_lay, decide_eq_true (Nat.le_trans (net_depth N) (by decide))]
  rfl
theorem nats_lay (g : List Nat) : (natsD g).canLay0 = true := by
  show PyData.canLayAll0 (g.map _) = true
  exact all_lay (fun _ => rfl) g
theorem nats_depth (g : List Nat) : (natsD g).depth ≤ 1 := by
  show PyData.depthAll (g.map _) + 1 ≤ 1
  have := all_depth (f := fun n : Nat => PyData.int (n : Int)) (n := 0) (fun _ => Nat.le_refl _) g
  omega
theorem way_lay (N : Net) (x : Nat) : (wayD N x).canLay0 = true := by
  show ((natsD _).canLay0 && ((natsD _).canLay0 && true)) = true
  rw [nats_lay, nats_lay]
  rfl
theorem way_depth (N : Net) (x : Nat) : (wayD N x).depth ≤ 2 := by
  show max (natsD _).depth (max (natsD _).depth 0) + 1 ≤ 2
  have h1 := nats_depth (wayA N x)
  have h2 := nats_depth (wayR N x)
  have : max (natsD (wayA N x)).depth (max (natsD (wayR N x)).depth 0) ≤ 1 := Nat.max_le.mpr ⟨h1, Nat.max_le.mpr ⟨h2, Nat.zero_le _⟩⟩
  omega
theorem way_noDict (N : Net) (x : Nat) : (wayD N x).hasDict = false := PyData.hasDict_of_canLay _ (way_lay N x)
theorem way_shaped (N : Net) (x : Nat) : SeqAt.shaped (wayD N x) = true := by
  unfold SeqAt.shaped
  rw [way_lay, decide_eq_true (Nat.le_trans (way_depth N x) (by decide))]
  rfl
/-! a number of few signs -/
theorem small_log {i : Int} (h : i.natAbs < 10 ^ 60) : i.natAbs.log2 < 200 := PySem.Flt.log2_lt_of (by decide) (Nat.lt_of_lt_of_le h (by decide))
theorem small_shown {i : Int} (h : i.natAbs < 10 ^ 60) : (PyData.shown (.int i)).length ≤ 61 := by
  have e := int_text_length_le10 (k := 60) (by decide) h
  show (Str.ofString (toString i)).length ≤ 61
  rw [PySem.ofString_length]
  exact e
theorem small_weight {i : Int} (h : i.natAbs < 10 ^ 60) : (PyData.int i).weight ≤ 200 := by
  have := small_log h
  show (if i == 0 then 0 else i.natAbs.log2 + 1) ≤ 200
  split <;> omega
structure SmallD (d : PyData) : Prop where
  sh : d.showable = true
  lv : d.leavesShort 61 = true
  wt : d.weight ≤ 600
theorem small_int {i : Int} (h : i.natAbs < 10 ^ 60) : (PyData.int i).showable = true ∧ (PyData.int i).leavesShort 61 = true := by
  have h1 := small_log h
  have h2 := small_shown h
  exact ⟨by show decide _ = true; exact decide_eq_true (by omega), by show decide _ = true; exact decide_eq_true h2⟩
theorem lamp_small {p : Int × Option Nat} (h1 : 1 ≤ p.1) (h2 : p.1 < 10 ^ 60) (h3 : ∀ y, p.2 = some y → y < 12) : SmallD (lampD p) := by
  obtain ⟨l, o⟩ := p
  have hl : l.natAbs < 10 ^ 60 := by simp only at h1 h2; omega
  obtain ⟨a1, a2⟩ := small_int hl
  have a3 := small_weight hl
  cases o with
  | none =>
    refine ⟨?_, ?_, ?_⟩
    · show ((PyData.int l).showable && (true && true)) = true
      rw [a1]; rfl
    · show ((PyData.int l).leavesShort 61 && (true && true)) = true
      rw [a2]; rfl
    · show (PyData.int l).weight + 1 + (0 + 1 + 0) ≤ 600
      omega
  | some y =>
    have := h3 y rfl
    have hy : (y : Int).natAbs < 10 ^ 60 := by omega
    obtain ⟨b1, b2⟩ := small_int hy
    have b3 := small_weight hy
    refine ⟨?_, ?_, ?_⟩
    · show ((PyData.int l).showable && ((PyData.int (y : Int)).showable && true)) = true
      rw [a1, b1]; rfl
    · show ((PyData.int l).leavesShort 61 && ((PyData.int (y : Int)).leavesShort 61 && true)) = true
      rw [a2, b2]; rfl
    · show (PyData.int l).weight + 1 + ((PyData.int (y : Int)).weight + 1 + 0) ≤ 600
      omega
theorem all_small {α : Type} {f : α → PyData} : ∀ xs : List α, (∀ a ∈ xs, SmallD (f a)) → PyData.showableAll (xs.map f) = true ∧ PyData.leavesShortAll 61 (xs.map f) = true ∧ PyData.weightAll (xs.map f) ≤ 601 * xs.length
  | [], _ => ⟨rfl, rfl, Nat.zero_le _⟩
  | x :: r, h => by
    have a := h x List.mem_cons_self
    obtain ⟨b1, b2, b3⟩ := all_small r fun y hy => h y (List.mem_cons_of_mem _ hy)
    have c := a.wt
    refine ⟨?_, ?_, ?_⟩
    · show ((f x).showable && PyData.showableAll (r.map f)) = true
      rw [a.sh, b1]; rfl
    · show ((f x).leavesShort 61 && PyData.leavesShortAll 61 (r.map f)) = true
      rw [a.lv, b2]; rfl
    · show (f x).weight + 1 + PyData.weightAll (r.map f) ≤ 601 * (r.length + 1)
      omega
theorem net_show {N : Net} (o : NetOk N) (s : Short N) : (netD N).showable = true ∧ (netD N).shown.length ≤ sizeLine := by
  have hi := o.hi
  obtain ⟨h1, h2, h3⟩ := all_small (f := lampD) N fun p hp => lamp_small (o.len p hp) (s p hp) fun y hy => by
    have := o.nx p hp y hy
    omega
  refine ⟨h1, ?_⟩
  have h4 := PyData.shown_le 61 (by decide) (netD N) h2
  have h5 : (netD N).weight ≤ 601 * 12 := Nat.le_trans h3 (Nat.mul_le_mul_left _ hi)
  have h6 : (61 + 2) * (netD N).weight ≤ 63 * (601 * 12) := Nat.mul_le_mul_left _ h5
  rw [sizeLine_eq]
  omega
/-! a way in the heap -/
theorem ints_at {S : List Addr} {H : Hp} : ∀ {xs : List V} (g : List Nat), DxA S H xs (g.map fun n : Nat => PyData.int (n : Int)) → xs = natV g
  | _, [], h => by
    cases h
    rfl
  | _, n :: r, h => by
    cases h with
    | cons a t =>
      cases a
      rw [ints_at r t]
      rfl
theorem nats_at {S : List Addr} {H : Hp} {v : V} {g : List Nat} (h : Dx S H v (natsD g)) : ∃ a : Addr, v = .ref a ∧ a ∉ S ∧ H a = some (.tup (natV g)) := by
  cases h with
  | @tup a xs ds n h r => exact ⟨a, rfl, n, by rw [h, ints_at g r]⟩
theorem way_at {S : List Addr} {H : Hp} {v : V} {N : Net} {x : Nat} (h : Dx S H v (wayD N x)) : ∃ a b c : Addr, v = .ref a ∧ a ∉ S ∧ H a = some (.tup [.ref b, .ref c]) ∧ H b = some (.tup (natV (wayA N x))) ∧ H c = some (.tup (natV (wayR N x))) ∧ b ∉ S ∧ c ∉ S := by
  cases h with
  | @tup a xs ds n h r =>
    cases r with
    | cons a1 r =>
      cases r with
      | cons a2 r =>
        cases r
        obtain ⟨b, rfl, nb, hb⟩ := nats_at a1
        obtain ⟨c, rfl, nc, hc⟩ := nats_at a2
        exact ⟨a, b, c, rfl, n, h, hb, hc, nb, nc⟩
theorem step_len (N : Net) (g : List Nat) : (step N g).length ≤ g.length + 1 := by
  unfold step
  split
  · omega
  · split
    · omega
    · rw [List.length_append]
      exact Nat.le_refl _
theorem itr_len (N : Net) (x : Nat) : ∀ n, (itr (step N) n [x]).length ≤ n + 1
  | 0 => Nat.le_refl _
  | n + 1 => by
    have h1 := itr_len N x n
    have h2 := step_len N (itr (step N) n [x])
    show (step N (itr (step N) n [x])).length ≤ _
    omega
theorem way_len {N : Net} (o : NetOk N) (x : Nat) : (natV (wayA N x)).length + (natV (wayR N x)).length ≤ 13 := by
  have h1 : (path N x).length ≤ N.length + 1 := itr_len N x N.length
  have h2 := o.hi
  rw [natV_len, natV_len]
  unfold wayA wayR
  rw [List.length_take, List.length_drop]
  omega
/-- t + u, whichever way it is made -/
theorem catA_any {K : PySem.W.Frag} {x y : V} {H : Hp} {Q : VK} {a b : Addr} {xs ys : List V} (hx : x = .ref a) (hy : y = .ref b) (h1 : SqT K H a xs) (h2 : SqT K H b ys) (hl : xs.length + ys.length ≤ sizeLine) (q : ∀ p H', SqT K H' p (xs ++ ys) → Kp [] H H' → Q (.ref p) H') : rCatA K x y H Q := by
  refine ⟨a, b, xs, ys, hx, hy, h1, h2, hl, fun e => ?_, fun _ e => ?_, fun _ _ p np => ?_⟩
  · refine q b H ?_ .rfl'
    rw [e]
    exact h2
  · refine q a H ?_ .rfl'
    rw [e, List.append_nil]
    exact h1
  · exact q p _ (SqT.of upd_same) (Kp.new np)
theorem Kp.seqT {S : List Addr} {K : PySem.W.Frag} {H H1 : Hp} (k : Kp S H H1) {b : Addr} {xs : List V} (nb : b ∉ S) (h : SqT K H b xs) : SqT K H1 b xs := by
  rcases h with (h | ⟨o, h⟩) | h
  · exact .inl (.inl (k.tup nb h))
  · exact .inl (.inr ⟨o, k.at_ b _ nb h fun ps z => by cases z⟩)
  · exact .inr h
end Em

namespace Em
open PySem PySem.Spec PyProof.Rows L2 Qt

/-! ### sorted(xs), xs a list of tuples of ints, none empty, of any lengths -/
def lexL : List Int → List Int → Bool
  | _, [] => false
  | [], _ :: _ => true
  | a :: as, b :: bs => if a = b then lexL as bs else decide (a < b)
theorem lexL_cons {a b : Int} {as bs : List Int} : lexL (a :: as) (b :: bs) = if a = b then lexL as bs else decide (a < b) := rfl
theorem lexL_asym : ∀ x y : List Int, lexL x y = true → lexL y x = false
  | _, [], h => by
    unfold lexL at h
    cases h
  | [], _ :: _, _ => rfl
  | a :: as, b :: bs, h => by
    rw [lexL_cons] at h ⊢
    by_cases e : a = b
    · rw [if_pos e] at h
      rw [if_pos e.symm]
      exact lexL_asym as bs h
    · rw [if_neg e] at h
      rw [if_neg (fun z => e z.symm)]
      have := of_decide_eq_true h
      exact decide_eq_false (by omega)
theorem lexL_tr : ∀ x y z : List Int, lexL y x = false → lexL z y = false → lexL z x = false
  | [], _, z, _, _ => by cases z <;> rfl
  | a :: as, [], _, h, _ => by cases h
  | a :: as, b :: bs, [], _, h => by cases h
  | a :: as, b :: bs, c :: cs, h1, h2 => by
    rw [lexL_cons] at h1 h2 ⊢
    by_cases e1 : b = a
    · by_cases e2 : c = b
      · rw [if_pos e1] at h1
        rw [if_pos e2] at h2
        rw [if_pos (e2.trans e1)]
        exact lexL_tr as bs cs h1 h2
      · rw [if_neg e2] at h2
        have := of_decide_eq_false h2
        rw [if_neg (by omega)]
        exact decide_eq_false (by omega)
    · rw [if_neg e1] at h1
      have q1 := of_decide_eq_false h1
      by_cases e2 : c = b
      · rw [if_neg (by omega)]
        exact decide_eq_false (by omega)
      · rw [if_neg e2] at h2
        have q2 := of_decide_eq_false h2
        rw [if_neg (by omega)]
        exact decide_eq_false (by omega)
theorem lexL_swo {α : Type} (k : α → List Int) : SrtO.Swo fun v u => lexL (k v) (k u) := ⟨fun x y => lexL_asym _ _, fun x y z => lexL_tr _ _ _⟩
/-- a tuple of ints -/
def TupN (h : Heap) (v : Value) (ns : List Int) : Prop := ∃ (a : Addr) (o : Obj) (its : Array Value) (n : Nat), v = .ref a ∧ h.get? a = some o ∧ o.cls = .type "tuple" ∧ o.data = .seq its n ∧ IntsAre its.toList ns
theorem TupN.keeps {h h' : Heap} {v : Value} {ns : List Int} (p : TupN h v ns) (k : ∀ b o, h.get? b = some o → o.cls = .type "tuple" → h'.get? b = some o) : TupN h' v ns := by
  obtain ⟨a, o, its, n, e, ho, hc, r⟩ := p
  exact ⟨a, o, its, n, e, k _ _ ho hc, hc, r⟩
theorem lex_go {prog : Program} {w : World} {A : Around} {s : Shared} {b fin : Bool} {Q : Bool → Shared → Prop} : ∀ {xs ys : List Value} {ns ms : List Int} (i : Nat), IntsAre xs ns → IntsAre ys ms → fin = decide (ns.length < ms.length) → Q (lexL ns ms) s → PySem.W.KatLex prog w A b fin Q (xs.zip ys) i s := by
  intro xs ys ns ms i hx hy hf h
  induction hx generalizing ys ms i with
  | nil =>
    cases hy with
    | nil => exact PySem.W.kat_nil (by rw [hf]; exact h)
    | cons q u hy => exact PySem.W.kat_nil (by rw [hf, decide_eq_true (by simp)]; exact h)
  | @cons p t xs ns hx ih =>
    cases hy with
    | nil => exact PySem.W.kat_nil (by rw [hf, decide_eq_false (by simp)]; exact h)
    | @cons q u ys ms hy =>
      show PySem.W.KatLex prog w A b fin Q ((Value.int p t, Value.int q u) :: xs.zip ys) i s
      refine PySem.W.kat_cons (wpAny_eqBool_int ?_)
      rw [lexL_cons] at h
      by_cases e : p = q
      · subst e
        rw [if_pos rfl] at h
        rw [beq_self_eq_true]
        refine PySem.W.kat_yes (ih (i + 1) hy ?_ h)
        rw [hf]
        simp
      · rw [if_neg e] at h
        rw [show (p == q) = false from beq_eq_false_iff_ne.mpr e]
        exact PySem.W.kat_no (TS.oneLt_ints _ h)
theorem tupn_cmp {prog : Program} {w : World} {A : Around} {s : Shared} {vs : List Value} {k : Value → List Int} (hp : ∀ v ∈ vs, TupN s.heap v (k v)) : SrtO.Cmp prog w A s (tuples' true) (fun p => p.1 ∈ vs) (SrtO.lt2 fun v u => lexL (k v) (k u)) := by
  intro p q hm hm'
  obtain ⟨a, o, its, n, e, ho, hc, hd, hi⟩ := hp _ hm
  obtain ⟨a', o', its', n', e', ho', hc', hd', hi'⟩ := hp _ hm'
  show wpAny (model prog w) A (keyLt' (tuples' true) p.1 q.1) (fun r s' => s' = s ∧ r = lexL (k p.1) (k q.1)) (fun _ _ => False) s
  generalize k p.1 = x at hi ⊢
  generalize k q.1 = y at hi' ⊢
  rw [e, e']
  refine PySem.W.kat_lt ho hd ho' hd' (lex_go 0 hi hi' ?_ ⟨rfl, rfl⟩)
  have h1 := hi.length
  have h2 := hi'.length
  rw [← h1, ← h2]
  rfl
theorem tupn_firsts {h : Heap} : ∀ vs : List Value, (∀ v ∈ vs, ∃ ns, ns ≠ [] ∧ TupN h v ns) → ∃ fs, PySem.W.KatTups h vs fs ∧ fs.length = vs.length ∧ ∀ f, f ∈ fs → ∃ n t, f = Value.int n t
  | [], _ => ⟨[], PySem.W.KatTups.nil, rfl, fun f hf => by simp at hf⟩
  | v :: vs, x => by
    obtain ⟨fs, k, hl, hi⟩ := tupn_firsts vs fun u hu => x u (List.mem_cons_of_mem _ hu)
    obtain ⟨ns, hne, a, o, xs, n, rfl, ho, hc, hdt, i⟩ := x v (List.mem_cons_self ..)
    obtain ⟨y, ys, e⟩ : ∃ y ys, xs.toList = y :: ys := by
      cases q : xs.toList with
      | nil =>
        rw [q] at i
        have l := i.length
        rw [List.length_nil] at l
        exact absurd (List.length_eq_zero_iff.mp l.symm) hne
      | cons y ys => exact ⟨y, ys, rfl⟩
    obtain ⟨m, t, hy⟩ := i.all y (by rw [e]; exact List.mem_cons_self ..)
    refine ⟨y :: fs, PySem.W.KatTups.cons ho hc hdt ?_ k, by simp [hl], ?_⟩
    · have z := congrArg (fun l : List Value => l[0]?) e
      simpa using z
    · intro f hf
      rcases List.mem_cons.mp hf with rfl | hf
      · exact ⟨m, t, hy⟩
      · exact hi f hf
theorem tupn_sortable {prog : Program} {w : World} {A : Around} {s : Shared} {a : Addr} {vs : List Value} {k : Value → List Int} (h0 : 0 < vs.length) (hp : ∀ v ∈ vs, TupN s.heap v (k v)) (hne : ∀ v ∈ vs, k v ≠ []) (ha : ∀ o, s.heap.get? a = some o → o.cls ≠ .type "tuple") : SrtO.SortableO prog w A s a vs fun v u => lexL (k v) (k u) := by
  intro h' keep
  have hp' : ∀ v ∈ vs, TupN h' v (k v) := fun v hm => (hp v hm).keeps fun b o e c => keep b o (fun z => by subst z; exact ha o e c) e
  obtain ⟨fs, h1, h2, h3⟩ := tupn_firsts vs fun v hm => ⟨_, hne v hm, hp' v hm⟩
  refine ⟨tuples' true, fun Q E hq => ?_, tupn_cmp hp'⟩
  refine PySem.W.kat_kind (T := .type "int") h1 (by omega) (fun f hm => ?_) (by rfl) ?_
  · obtain ⟨x, t, rfl⟩ := h3 f hm
    exact PySem.W.Looks.now
  · have e : (Value.type "int" != Value.type "tuple") = true := by first | decide +kernel | rfl | decide
    rw [e]
    exact hq
def rSortedN (K : PySem.W.Frag) : List V → Hp → VK → Prop := fun vs H Q => ∃ (a : Addr) (xs : List V) (k : V → List Int), vs = [V.ref a] ∧ SqL K H a xs ∧ (∀ x ∈ xs, k x ≠ [] ∧ ∃ t, x = V.ref t ∧ H t = some (.tup ((k x).map V.int))) ∧
  ∀ ys p, SrtO.Srtd (fun v u => lexL (k v) (k u)) ys → SrtO.Stb (fun v u => lexL (k v) (k u)) ys xs → H p = none → Q (.ref p) (upd H p (.lst ys))
section
variable {X : Cx}
theorem cr_sortedN : CallR X (.builtin "sorted") (rSortedN X.K) := by
  intro pins s σ H vs us Q I r h
  obtain ⟨a, xs, k, rfl, hs, hx, q⟩ := h
  obtain ⟨its, rv, hl, hz⟩ := I.list hs
  obtain ⟨u, rfl, ru⟩ := vals1 r
  obtain rfl : u = Value.ref a := ru
  obtain ⟨e1, e2⟩ := refs_back rv fun x m => by
    obtain ⟨_, t, e, _⟩ := hx x m
    exact ⟨t, e⟩
  have tn : ∀ v ∈ its, TupN s.heap v (k (backV v)) ∧ k (backV v) ≠ [] := fun v hv => by
    obtain ⟨t, rfl⟩ := e2 v hv
    have hm : V.ref t ∈ xs := by rw [e1]; exact List.mem_map.mpr ⟨_, hv, rfl⟩
    obtain ⟨hne, t', e, ht⟩ := hx _ hm
    cases e
    obtain ⟨_, its2, r2, o, ho, hc, n, hd⟩ := I.hok _ _ ht
    exact ⟨⟨t, o, _, n, rfl, ho, hc, hd, by rw [List.toList_toArray]; exact r2.ints⟩, hne⟩
  refine SrtO.sorted_ord (lexL_swo fun u => k (backV u)) hl.isList (by rw [← rv.length]; exact hz) (fun h2 h₁ a ha kk => ?_) fun out h1 h2 => ?_
  · refine tupn_sortable (s := { s with heap := h₁ }) (by omega) (fun v hm => (tn v hm).1.keeps fun b o e _ => (kk b o e).2) (fun v hm => (tn v hm).2) fun o e => ?_
    have e' : some o = some (seqObj "list" its.toArray 0) := e.symm.trans ha
    cases e'
    intro c
    exact absurd (Value.type.inj c) (by decide)
  · have h3 : ∀ u ∈ out, ∃ a, u = Value.ref a := fun u hu => e2 u (h2.perm.mem_iff.mp hu)
    obtain ⟨n, hn⟩ := sortedAll_at s.heap its out.toArray
    have hb : SrtO.Stb (fun v u => lexL (k v) (k u)) (out.map backV) xs := by
      rw [e1]
      exact SrtO.Stb.map (lexL_swo k) backV h2
    refine ⟨.ref _, upd H _ (.lst (out.map backV)), I.laid (t' := s.toks) (fun b o e => sortedAll_old e) (Nat.le_succ _) ⟨?_, out, n, vals_back h3, hn⟩, rfl, q _ _ (SrtO.srtd_map h1) hb (I.hok.fresh (Nat.le_succ _))⟩
    rw [hb.len]
    exact hz
end

/-! ### min(t), t a tuple of ints -/
section
variable {prog : Program} {w : World} {A : Around} {E : Value → Shared → Prop} {s : Shared} {l : Addr}
theorem min_intTup {xs : Array (Int × Tok)} {Q : Value → Shared → Prop} (hh : A.handled = none) (hl : s.heap.IsTuple l (intItems xs)) (hne : 0 < xs.size)
    (h : ∀ v h' tk, (intItems xs)[argBest (fun i j => decide (numAt xs i < numAt xs j)) (xs.size - 1)]? = some v → (∀ b o, s.heap.get? b = some o → h'.get? b = some o) → Q v { s with heap := h', toks := tk }) :
    wpAny (model prog w) A (call (.builtin "min") [.ref l]) Q E s := by
  have hlt : l < s.heap.objs.size := by obtain ⟨_, e, _⟩ := hl; exact Heap.lt_size e
  refine call_min_walk (wpAny_pyIter_tuple hl ?_)
  refine ⟨_, [_, l], [_], _, _, _, _, rfl, Walks.tuple (A := A.in1) hh _ l (Nat.ne_of_lt hlt) (intItems xs), ⟨⟨_, Heap.get?_push_size _ rfl, rfl, rfl⟩, hl.push _⟩, fun c hc => ?_, by simpa [intItems] using hne, CmpOf.ints_lt (numAt xs) (fun _ _ => intItems_at), fun v h' tk hP hk => ?_⟩
  · show c < (s.heap.push _).objs.size
    rw [Heap.size_push]
    rcases List.mem_cons.mp hc with rfl | hc
    · exact Nat.lt_succ_self _
    · rcases List.mem_cons.mp hc with rfl | hc
      · exact Nat.lt_succ_of_lt hlt
      · cases hc
  · refine h v h' tk (by simpa [intItems] using hP) fun c o e => hk c o (fun hm => ?_) (Heap.get?_push_of_some _ e)
    rcases List.mem_cons.mp hm with e1 | hm
    · exact absurd (e1 ▸ Heap.lt_size e) (Nat.lt_irrefl _)
    · cases hm
theorem min_rawT {its : List Value} {ns : List Int} {Q : Value → Shared → Prop} (hh : A.handled = none) (hl : s.heap.IsTuple l its.toArray) (hi : IntsAre its ns) (hne : 0 < ns.length)
    (h : ∀ h' tk M t', (∀ b o, s.heap.get? b = some o → h'.get? b = some o) → M ∈ ns → (∀ a, a ∈ ns → M ≤ a) → Q (.int M t') { s with heap := h', toks := tk }) : wpAny (model prog w) A (call (.builtin "min") [.ref l]) Q E s := by
  obtain ⟨xs, e⟩ := hi.allInts.items
  have hn : numsOf (intItems xs).toList = ns := by rw [← e]; exact hi.numsOf
  rw [nums_intItems] at hn
  subst hn
  rw [e] at hl
  have hsz : 0 < xs.size := by simpa using hne
  refine min_intTup hh hl hsz fun v h' tk hv hk => ?_
  obtain ⟨t, rfl⟩ := intItems_at hv
  obtain ⟨h1, h2⟩ := argBest_lt (numAt xs) (xs.size - 1)
  refine h h' tk _ t hk ?_ fun a ha => ?_
  · rw [numAt_eq]; exact PySem.getD_mem (by rw [List.length_map, Array.length_toList]; omega)
  · obtain ⟨j, hj, rfl⟩ := mem_getD ha
    rw [List.length_map, Array.length_toList] at hj
    rw [← numAt_eq]; exact h2 j (by omega)
end
def rMinT (K : PySem.W.Frag) : List V → Hp → VK → Prop := fun vs H Q => ∃ (a : Addr) (ns : List Int), vs = [V.ref a] ∧ SqT K H a (ns.map V.int) ∧ 0 < ns.length ∧ ∀ m, m ∈ ns → (∀ y, y ∈ ns → m ≤ y) → Q (.int m) H
theorem cr_minT {X : Cx} (hc : X.calm = true) : CallR X (.builtin "min") (rMinT X.K) := by
  intro pins s σ H vs us Q I r h
  obtain ⟨a, ns, rfl, hs, hne, q⟩ := h
  obtain ⟨its, rv, hl, _⟩ := I.tuple hs
  rw [Vals.ref1 r]
  exact min_rawT (I.ok.hd hc) hl rv.ints hne fun h' tk m t' hk h1 h2 => ⟨.int _, H, I.kept hk, ⟨_, rfl⟩, q m h1 h2⟩
end Em

namespace Em
open PySem PySem.Spec PyProof.Rows L2 Qt

/-! ### the rings of a net -/
theorem been_itr {N : Net} (o : NetOk N) {x : Nat} (hx : x < N.length) : ∀ i, Been N x i (itr (step N) i [x])
  | 0 => Been.start hx
  | i + 1 => by
    have h := been_itr o hx i
    show Been N x (i + 1) (step N (itr (step N) i [x]))
    cases z : nxt N (lastOf (itr (step N) i [x])) with
    | none =>
      rw [step_none z]
      exact h.still (step_none z)
    | some y =>
      by_cases hn : y ∈ itr (step N) i [x]
      · rw [step_in z hn]
        exact h.still (step_in z hn)
      · have e : step N (itr (step N) i [x]) = itr (step N) i [x] ++ [y] := by
          generalize itr (step N) i [x] = g at *
          unfold step
          rw [z]
          simp only [hn, if_false]
        rw [e]
        exact h.more o z hn
theorem path_been {N : Net} (o : NetOk N) {x : Nat} (hx : x < N.length) : Been N x N.length (path N x) := been_itr o hx _
theorem step_head {N : Net} {x : Nat} {g : List Nat} (h : ∃ t, g = x :: t) : ∃ t, step N g = x :: t := by
  obtain ⟨t, rfl⟩ := h
  unfold step
  split
  · exact ⟨t, rfl⟩
  · split
    · exact ⟨t, rfl⟩
    · exact ⟨_, rfl⟩
theorem itr_head (N : Net) (x : Nat) : ∀ n, ∃ t, itr (step N) n [x] = x :: t
  | 0 => ⟨[], rfl⟩
  | n + 1 => step_head (itr_head N x n)
theorem path_head (N : Net) (x : Nat) : ∃ t, path N x = x :: t := itr_head N x _
theorem way_cat (N : Net) (x : Nat) : wayA N x ++ wayR N x = path N x := List.take_append_drop _ _
theorem way_sub {N : Net} (o : NetOk N) {x : Nat} (hx : x < N.length) : ∀ y ∈ wayR N x, y < N.length := fun y hy => (path_been o hx).lt y (by rw [← way_cat]; exact List.mem_append_right _ hy)
def rootB (N : Net) (x : Nat) : Bool := decide (x ∈ wayR N x) && (wayR N x).all fun y => decide (x ≤ y)
theorem root_iff {N : Net} {x : Nat} : rootB N x = true ↔ x ∈ wayR N x ∧ ∀ y ∈ wayR N x, x ≤ y := by
  unfold rootB
  rw [Bool.and_eq_true, decide_eq_true_iff, List.all_eq_true]
  simp only [decide_eq_true_iff]
theorem root_ahead {N : Net} (o : NetOk N) {x : Nat} (hx : x < N.length) (h : x ∈ wayR N x) : wayA N x = [] := by
  have nd := (path_been o hx).nd
  obtain ⟨t, ht⟩ := path_head N x
  have e := way_cat N x
  cases q : wayA N x with
  | nil => rfl
  | cons z r =>
    rw [q] at e
    rw [← e] at nd
    rw [ht] at e
    have ez : z = x := (List.cons.inj e).1
    have := (List.nodup_cons.mp (show (z :: (r ++ wayR N x)).Nodup from nd)).1
    exact absurd (List.mem_append_right r (ez ▸ h)) this
theorem ahead_path {N : Net} {x : Nat} (h : wayA N x = []) : wayR N x = path N x := by
  have e := way_cat N x
  rw [h] at e
  exact e
/-- the least of the ring is x: that is a root -/
theorem root_min {N : Net} {x : Nat} {m : Int} (h1 : m ∈ (wayR N x).map fun n : Nat => (n : Int)) (h2 : ∀ y ∈ (wayR N x).map fun n : Nat => (n : Int), m ≤ y) : decide ((x : Int) = m) = rootB N x := by
  rw [Bool.eq_iff_iff, decide_eq_true_iff, root_iff]
  obtain ⟨n, hn, rfl⟩ := List.mem_map.mp h1
  have h3 : ∀ y ∈ wayR N x, n ≤ y := fun y hy => Int.ofNat_le.mp (h2 _ (List.mem_map.mpr ⟨y, hy, rfl⟩))
  constructor
  · intro e
    have : x = n := Int.ofNat_inj.mp e
    subst this
    exact ⟨hn, h3⟩
  · rintro ⟨a, b⟩
    have := h3 x a
    have := b n hn
    congr 1
    omega
def ringsL (N : Net) (i : Nat) : List Nat := (List.range i).filter (rootB N)
theorem ringsL_succ (N : Net) (i : Nat) : ringsL N (i + 1) = if rootB N i = true then ringsL N i ++ [i] else ringsL N i := by
  unfold ringsL
  rw [List.range_succ, List.filter_append]
  split
  · rename_i h
    rw [List.filter_cons_of_pos h]
    rfl
  · rename_i h
    rw [List.filter_cons_of_neg h]
    simp
theorem ringsL_len (N : Net) (i : Nat) : (ringsL N i).length ≤ i := by
  have := List.length_filter_le (rootB N) (List.range i)
  rw [List.length_range] at this
  exact this
theorem ringsL_mem {N : Net} {i x : Nat} (h : x ∈ ringsL N i) : x < i ∧ rootB N x = true := by
  have := List.mem_filter.mp h
  exact ⟨List.mem_range.mp this.1, this.2⟩
theorem ringsL_lt (N : Net) (i : Nat) : (ringsL N i).Pairwise (· < ·) := List.pairwise_lt_range.filter _
def ringD (N : Net) (x : Nat) : PyData := natsD (wayR N x)
def ringsD (N : Net) : PyData := .list ((ringsL N N.length).map (ringD N))
theorem rings_lay (N : Net) : (ringsD N).canLay0 = true := by
  show PyData.canLayAll0 ((ringsL N N.length).map (ringD N)) = true
  exact all_lay (fun x => nats_lay (wayR N x)) _
theorem rings_depth (N : Net) : (ringsD N).depth ≤ 2 := by
  show PyData.depthAll ((ringsL N N.length).map (ringD N)) + 1 ≤ 2
  have := all_depth (f := ringD N) (n := 1) (fun x => nats_depth (wayR N x)) (ringsL N N.length)
  omega
theorem rings_noDict (N : Net) : (ringsD N).hasDict = false := PyData.hasDict_of_canLay _ (rings_lay N)
theorem rings_shaped (N : Net) : SeqAt.shaped (ringsD N) = true := by
  unfold SeqAt.shaped
  rw [rings_lay, decide_eq_true (Nat.le_trans (rings_depth N) (by decide))]
  rfl
/-! sorted already -/
def toI : V → Int
  | .int i => i
  | _ => 0
def kH (H : Hp) : V → List Int
  | .ref t => (match H t with
    | some (.tup ys) => ys.map toI
    | _ => [])
  | _ => []
theorem kH_at {H : Hp} {t : Addr} {g : List Nat} (h : H t = some (.tup (natV g))) : kH H (.ref t) = g.map fun n : Nat => (n : Int) := by
  show (match H t with
    | some (.tup ys) => ys.map toI
    | _ => []) = _
  rw [h]
  show (natV g).map toI = _
  unfold natV
  rw [List.map_map]
  rfl
theorem rings_at {S : List Addr} {H : Hp} {N : Net} : ∀ {L : List Nat} {xs : List V}, DxA S H xs (L.map (ringD N)) → ∀ v ∈ xs, ∃ x ∈ L, ∃ t, v = .ref t ∧ H t = some (.tup (natV (wayR N x)))
  | [], _, h => by
    cases h
    intro v hv
    cases hv
  | x :: r, _, h => by
    cases h with
    | cons a t =>
      intro v hv
      rcases List.mem_cons.mp hv with rfl | hv
      · obtain ⟨ad, e, _, h⟩ := nats_at a
        exact ⟨x, List.mem_cons_self, ad, e, h⟩
      · obtain ⟨y, hy, q⟩ := rings_at t v hv
        exact ⟨y, List.mem_cons_of_mem _ hy, q⟩
theorem rings_srtd {S : List Addr} {H : Hp} {N : Net} : ∀ {L : List Nat} {xs : List V}, DxA S H xs (L.map (ringD N)) → L.Pairwise (· < ·) → (∀ x ∈ L, ∃ t, wayR N x = x :: t) → SrtO.Srtd (fun v u => lexL (kH H v) (kH H u)) xs
  | [], _, h, _, _ => by
    cases h
    exact List.Pairwise.nil
  | x :: r, _, h, hp, hh => by
    cases h with
    | cons a t =>
      obtain ⟨p1, p2⟩ := List.pairwise_cons.mp hp
      refine List.pairwise_cons.mpr ⟨fun v hv => ?_, rings_srtd t p2 fun y hy => hh y (List.mem_cons_of_mem _ hy)⟩
      obtain ⟨y, hy, tv, rfl, hv2⟩ := rings_at t v hv
      obtain ⟨ad, rfl, _, ha⟩ := nats_at a
      show lexL (kH H (.ref tv)) (kH H (.ref ad)) = false
      rw [kH_at hv2, kH_at ha]
      obtain ⟨t1, e1⟩ := hh x List.mem_cons_self
      obtain ⟨t2, e2⟩ := hh y (List.mem_cons_of_mem _ hy)
      have := p1 y hy
      rw [e1, e2, List.map_cons, List.map_cons, lexL_cons, if_neg (by omega)]
      exact decide_eq_false (by omega)
/-! ### laps -/
def lenOf (N : Net) (y : Nat) : Int := (N.getD y (1, none)).1
theorem lenOf_get {N : Net} {x : Nat} {p : Int × Option Nat} (h : N[x]? = some p) : lenOf N x = p.1 := by
  unfold lenOf
  rw [List.getD_eq_getElem?_getD, h]
  rfl
def lensR (N : Net) (x : Nat) : List Int := (wayR N x).map (lenOf N)
def LapD (N : Net) (x : Nat) (d : PyData) : Prop := (wayR N x = [] ∧ d = .none) ∨ (wayR N x ≠ [] ∧ ∃ m, m ∈ lensR N x ∧ (∀ y ∈ lensR N x, y ≤ m) ∧ d = .tuple [.int (lensR N x).sum, .int m])
theorem LapD.uniq {N : Net} {x : Nat} {d e : PyData} (h : LapD N x d) (k : LapD N x e) : d = e := by
  rcases h with ⟨h1, h2⟩ | ⟨h1, m, a, b, h2⟩ <;> rcases k with ⟨k1, k2⟩ | ⟨k1, n, c, f, k2⟩
  · rw [h2, k2]
  · exact absurd h1 k1
  · exact absurd k1 h1
  · have := b n c
    have := f m a
    have e : m = n := by omega
    rw [h2, k2, e]
theorem LapD.lay {N : Net} {x : Nat} {d : PyData} (h : LapD N x d) : d.canLay0 = true ∧ d.depth ≤ 1 := by
  rcases h with ⟨_, rfl⟩ | ⟨_, m, _, _, rfl⟩
  · exact ⟨rfl, Nat.zero_le _⟩
  · exact ⟨rfl, Nat.le_refl _⟩
theorem LapD.shaped {N : Net} {x : Nat} {d : PyData} (h : LapD N x d) : SeqAt.shaped d = true := by
  unfold SeqAt.shaped
  rw [h.lay.1, decide_eq_true (Nat.le_trans h.lay.2 (by decide))]
  rfl
theorem LapD.noDict {N : Net} {x : Nat} {d : PyData} (h : LapD N x d) : d.hasDict = false := PyData.hasDict_of_canLay _ h.lay.1
theorem Nw.fresh {H H1 : Hp} {a : Addr} {d : PyData} (h : Nw H H1 (.ref a) d) : H a = none := by
  cases q : H a with
  | none => rfl
  | some o =>
    have hd := h [a] fun s z => by
      obtain rfl : s = a := by simpa using z
      rw [q]
      exact fun z => by cases z
    cases hd with
    | lst n _ _ => exact absurd (List.mem_singleton.mpr rfl) n
    | tup n _ _ => exact absurd (List.mem_singleton.mpr rfl) n
    | dic n _ => exact absurd (List.mem_singleton.mpr rfl) n
theorem way_new {H H1 : Hp} {a b c : Addr} {N : Net} {x : Nat} (h : Nw H H1 (.ref a) (wayD N x)) (e : H1 a = some (.tup [.ref b, .ref c])) : Nw H H1 (.ref b) (natsD (wayA N x)) ∧ Nw H H1 (.ref c) (natsD (wayR N x)) := by
  have key : ∀ S : List Addr, (∀ s ∈ S, H s ≠ none) → Dx S H1 (.ref b) (natsD (wayA N x)) ∧ Dx S H1 (.ref c) (natsD (wayR N x)) := fun S z => by
    have hd := h S z
    cases hd with
    | @tup _ xs ds n h r =>
      rw [e] at h
      cases h
      cases r with
      | cons a1 r =>
        cases r with
        | cons a2 r => exact ⟨a1, a2⟩
  exact ⟨fun S z => (key S z).1, fun S z => (key S z).2⟩
theorem eqv_empty (g : List Nat) : PyData.eqv (natsD g) (.tuple []) = decide (g = []) := by
  cases g with
  | nil => exact SeqAt.eqv_refl _ rfl
  | cons x r => rfl
theorem nats_shaped (g : List Nat) : SeqAt.shaped (natsD g) = true := by
  unfold SeqAt.shaped
  rw [nats_lay, decide_eq_true (Nat.le_trans (nats_depth g) (by decide))]
  rfl
theorem nats_noDict (g : List Nat) : (natsD g).hasDict = false := PyData.hasDict_of_canLay _ (nats_lay g)
theorem DxA.flip {S : List Addr} {H : Hp} : ∀ {xs ys : List V} {ds : List PyData}, DxA S H xs ds → DxA S H ys ds → DxA S H xs ds := fun h _ => h
theorem eqv_none (ns : List Int) : PyData.eqv (.list (ns.map PyData.int)) (.list []) = decide (ns = []) := by
  cases ns with
  | nil => exact SeqAt.eqv_refl _ rfl
  | cons x r => rfl
theorem dp_ints {K : PySem.W.Frag} {H : Hp} : ∀ ns : List Int, DpAll K H (ns.map V.int) (ns.map PyData.int)
  | [] => .nil
  | n :: r => .cons (.int n) (dp_ints r)
theorem ints_shaped (ns : List Int) : SeqAt.shaped (.list (ns.map PyData.int)) = true := by
  have h1 : (PyData.list (ns.map PyData.int)).canLay0 = true := all_lay (f := PyData.int) (fun _ => rfl) ns
  have h2 : (PyData.list (ns.map PyData.int)).depth ≤ 1 := by
    have := all_depth (f := PyData.int) (n := 0) (fun _ => Nat.le_refl _) ns
    show PyData.depthAll (ns.map PyData.int) + 1 ≤ 1
    omega
  unfold SeqAt.shaped
  rw [h1, decide_eq_true (Nat.le_trans h2 (by decide))]
  rfl
end Em

namespace K04
open PySem PySem.Spec PyProof.Rows L2 Qt Em
/-! ### the text by places -/
def topS (i : Nat) : Stmt := PySem.Challenge.pw_emberlane_k04_rings_and_laps.main.body.getD i (.Pass ⟨0, 0, 0, 0⟩)
abbrev s_is_whole : Stmt := topS 6
abbrev s_is_whole_N : List Str := ["thing"]
theorem sc_is_whole : FnScope s_is_whole_N ["thing"] (defScope s_is_whole) := ⟨rfl, rfl, rfl, by decide +kernel, rfl, by decide +kernel, by decide +kernel⟩
abbrev s_is_pair : Stmt := topS 7
abbrev s_is_pair_N : List Str := ["thing"]
theorem sc_is_pair : FnScope s_is_pair_N ["thing"] (defScope s_is_pair) := ⟨rfl, rfl, rfl, by decide +kernel, rfl, by decide +kernel, by decide +kernel⟩
abbrev s_is_number_of_many : Stmt := topS 8
abbrev s_is_number_of_many_N : List Str := ["thing", "many"]
theorem sc_is_number_of_many : FnScope s_is_number_of_many_N ["thing", "many"] (defScope s_is_number_of_many) := ⟨rfl, rfl, rfl, by decide +kernel, rfl, by decide +kernel, by decide +kernel⟩
abbrev s_is_lamp_of_many : Stmt := topS 9
abbrev s_is_lamp_of_many_N : List Str := ["thing", "many", "length", "onward"]
theorem sc_is_lamp_of_many : FnScope s_is_lamp_of_many_N ["thing", "many"] (defScope s_is_lamp_of_many) := ⟨rfl, rfl, rfl, by decide +kernel, rfl, by decide +kernel, by decide +kernel⟩
abbrev s_is_net : Stmt := topS 10
abbrev s_is_net_N : List Str := ["thing", "many"]
theorem sc_is_net : FnScope s_is_net_N ["thing"] (defScope s_is_net) := ⟨rfl, rfl, rfl, by decide +kernel, rfl, by decide +kernel, by decide +kernel⟩
abbrev s_need_net : Stmt := topS 11
abbrev s_need_net_N : List Str := ["net"]
theorem sc_need_net : FnScope s_need_net_N ["net"] (defScope s_need_net) := ⟨rfl, rfl, rfl, by decide +kernel, rfl, by decide +kernel, by decide +kernel⟩
abbrev s_need_lamp : Stmt := topS 12
abbrev s_need_lamp_N : List Str := ["net", "lamp"]
theorem sc_need_lamp : FnScope s_need_lamp_N ["net", "lamp"] (defScope s_need_lamp) := ⟨rfl, rfl, rfl, by decide +kernel, rfl, by decide +kernel, by decide +kernel⟩
abbrev s_way_of : Stmt := topS 13
abbrev s_way_of_N : List Str := ["net", "lamp", "gone", "at", "first"]
theorem sc_way_of : FnScope s_way_of_N ["net", "lamp"] (defScope s_way_of) := ⟨rfl, rfl, rfl, by decide +kernel, rfl, by decide +kernel, by decide +kernel⟩
abbrev s_rings : Stmt := topS 14
abbrev s_rings_N : List Str := ["net", "found", "lamp", "_", "ring"]
theorem sc_rings : FnScope s_rings_N ["net"] (defScope s_rings) := ⟨rfl, rfl, rfl, by decide +kernel, rfl, by decide +kernel, by decide +kernel⟩
abbrev s_lap_of : Stmt := topS 15
abbrev s_lap_of_N : List Str := ["net", "lamp", "_", "ring", "lengths", "at"]
theorem sc_lap_of : FnScope s_lap_of_N ["net", "lamp"] (defScope s_lap_of) := ⟨rfl, rfl, rfl, by decide +kernel, rfl, by decide +kernel, by decide +kernel⟩
abbrev s_law_wick : Stmt := topS 17
abbrev s_law_wick_N : List Str := ["cell", "k"]
theorem sc_law_wick : FnScope s_law_wick_N ["cell", "k"] (defScope s_law_wick) := ⟨rfl, rfl, rfl, by decide +kernel, rfl, by decide +kernel, by decide +kernel⟩
abbrev s_law_pick : Stmt := topS 18
abbrev s_law_pick_N : List Str := ["wick", "many", "found", "burnt"]
theorem sc_law_pick : FnScope s_law_pick_N ["wick", "many"] (defScope s_law_pick) := ⟨rfl, rfl, rfl, by decide +kernel, rfl, by decide +kernel, by decide +kernel⟩
abbrev s_law_burns : Stmt := topS 19
abbrev s_law_burns_N : List Str := ["wick"]
theorem sc_law_burns : FnScope s_law_burns_N ["wick"] (defScope s_law_burns) := ⟨rfl, rfl, rfl, by decide +kernel, rfl, by decide +kernel, by decide +kernel⟩
abbrev s_law_mesh : Stmt := topS 20
abbrev s_law_mesh_N : List Str := ["wick", "many", "shape", "found", "k", "some"]
theorem sc_law_mesh : FnScope s_law_mesh_N ["wick"] (defScope s_law_mesh) := ⟨rfl, rfl, rfl, by decide +kernel, rfl, by decide +kernel, by decide +kernel⟩
abbrev s_law_way : Stmt := topS 21
abbrev s_law_way_N : List Str := ["mesh", "spot", "been", "turn", "further", "last", "at"]
theorem sc_law_way : FnScope s_law_way_N ["mesh", "spot"] (defScope s_law_way) := ⟨rfl, rfl, rfl, by decide +kernel, rfl, by decide +kernel, by decide +kernel⟩
abbrev s_law_loops : Stmt := topS 22
abbrev s_law_loops_N : List Str := ["mesh", "found", "spot", "ahead", "loop"]
theorem sc_law_loops : FnScope s_law_loops_N ["mesh"] (defScope s_law_loops) := ⟨rfl, rfl, rfl, by decide +kernel, rfl, by decide +kernel, by decide +kernel⟩
abbrev s_law_lap : Stmt := topS 23
abbrev s_law_lap_N : List Str := ["mesh", "spot", "lengths", "one"]
theorem sc_law_lap : FnScope s_law_lap_N ["mesh", "spot"] (defScope s_law_lap) := ⟨rfl, rfl, rfl, by decide +kernel, rfl, by decide +kernel, by decide +kernel⟩
abbrev s_law_right : Stmt := topS 24
abbrev s_law_right_N : List Str := ["wick", "mesh", "kept", "due", "found", "loop", "spot", "lap", "told"]
theorem sc_law_right : FnScope s_law_right_N ["wick"] (defScope s_law_right) := ⟨rfl, rfl, rfl, by decide +kernel, rfl, by decide +kernel, by decide +kernel⟩
abbrev s_law : Stmt := topS 25
abbrev s_law_N : List Str := ["script", "k", "cell"]
theorem sc_law : FnScope s_law_N ["script"] (defScope s_law) := ⟨rfl, rfl, rfl, by decide +kernel, rfl, by decide +kernel, by decide +kernel⟩

structure Ad where
  a_is_whole : Addr
  f_is_whole : FuncData
  a_is_pair : Addr
  f_is_pair : FuncData
  a_is_number_of_many : Addr
  f_is_number_of_many : FuncData
  a_is_lamp_of_many : Addr
  f_is_lamp_of_many : FuncData
  a_is_net : Addr
  f_is_net : FuncData
  a_need_net : Addr
  f_need_net : FuncData
  a_need_lamp : Addr
  f_need_lamp : FuncData
  a_way_of : Addr
  f_way_of : FuncData
  a_rings : Addr
  f_rings : FuncData
  a_lap_of : Addr
  f_lap_of : FuncData
  a_law_wick : Addr
  f_law_wick : FuncData
  a_law_pick : Addr
  f_law_pick : FuncData
  a_law_burns : Addr
  f_law_burns : FuncData
  a_law_mesh : Addr
  f_law_mesh : FuncData
  a_law_way : Addr
  f_law_way : FuncData
  a_law_loops : Addr
  f_law_loops : FuncData
  a_law_lap : Addr
  f_law_lap : FuncData
  a_law_right : Addr
  f_law_right : FuncData
  a_law : Addr
  f_law : FuncData
  c_EmberError : Addr
  c_NoNet : Addr
  c_NoLamp : Addr
  cd_is_net : Addr
  tb_is_net : Addr
structure Tx (K : PySem.W.Frag) (mg : Str → Option Value) (a : Ad) : Prop where
  is_whole : Df K mg "is_whole" s_is_whole ["thing"] a.a_is_whole a.f_is_whole
  is_pair : Df K mg "is_pair" s_is_pair ["thing"] a.a_is_pair a.f_is_pair
  is_number_of_many : Df K mg "is_number_of_many" s_is_number_of_many ["thing", "many"] a.a_is_number_of_many a.f_is_number_of_many
  is_lamp_of_many : Df K mg "is_lamp_of_many" s_is_lamp_of_many ["thing", "many"] a.a_is_lamp_of_many a.f_is_lamp_of_many
  is_net : Df K mg "is_net" s_is_net ["thing"] a.a_is_net a.f_is_net
  need_net : Df K mg "need_net" s_need_net ["net"] a.a_need_net a.f_need_net
  need_lamp : Df K mg "need_lamp" s_need_lamp ["net", "lamp"] a.a_need_lamp a.f_need_lamp
  way_of : Df K mg "way_of" s_way_of ["net", "lamp"] a.a_way_of a.f_way_of
  rings : Df K mg "rings" s_rings ["net"] a.a_rings a.f_rings
  lap_of : Df K mg "lap_of" s_lap_of ["net", "lamp"] a.a_lap_of a.f_lap_of
  law_wick : Df K mg "_law_wick" s_law_wick ["cell", "k"] a.a_law_wick a.f_law_wick
  law_pick : Df K mg "_law_pick" s_law_pick ["wick", "many"] a.a_law_pick a.f_law_pick
  law_burns : Df K mg "_law_burns" s_law_burns ["wick"] a.a_law_burns a.f_law_burns
  law_mesh : Df K mg "_law_mesh" s_law_mesh ["wick"] a.a_law_mesh a.f_law_mesh
  law_way : Df K mg "_law_way" s_law_way ["mesh", "spot"] a.a_law_way a.f_law_way
  law_loops : Df K mg "_law_loops" s_law_loops ["mesh"] a.a_law_loops a.f_law_loops
  law_lap : Df K mg "_law_lap" s_law_lap ["mesh", "spot"] a.a_law_lap a.f_law_lap
  law_right : Df K mg "_law_right" s_law_right ["wick"] a.a_law_right a.f_law_right
  law : Df K mg "law" s_law ["script"] a.a_law a.f_law
  n_all : mg "all" = none
  n_bool : mg "bool" = none
  n_enumerate : mg "enumerate" = none
  n_int : mg "int" = none
  n_isinstance : mg "isinstance" = none
  n_len : mg "len" = none
  n_list : mg "list" = none
  n_max : mg "max" = none
  n_min : mg "min" = none
  n_range : mg "range" = none
  n_repr : mg "repr" = none
  n_sorted : mg "sorted" = none
  n_sum : mg "sum" = none
  n_tuple : mg "tuple" = none
  c_MOST_LAMPS : ∃ t, mg "MOST_LAMPS" = some (.int 12 t)
  code_is_net : CodeIs K a.a_is_net a.cd_is_net
  g_EmberError : mg "EmberError" = some (.ref a.c_EmberError)
  g_NoNet : mg "NoNet" = some (.ref a.c_NoNet)
  g_NoLamp : mg "NoLamp" = some (.ref a.c_NoLamp)
def lv_is_whole : Nat := 1
def lv_is_pair : Nat := 1
def lv_is_number_of_many : Nat := 2
def lv_is_lamp_of_many : Nat := 3
def lv_is_net : Nat := 6
def lv_need_net : Nat := 7
def lv_need_lamp : Nat := 3
def lv_way_of : Nat := 8
def lv_rings : Nat := 9
def lv_lap_of : Nat := 9
def lv_law_wick : Nat := 1
def lv_law_pick : Nat := 1
def lv_law_burns : Nat := 2
def lv_law_mesh : Nat := 3
def lv_law_way : Nat := 1
def lv_law_loops : Nat := 2
def lv_law_lap : Nat := 2
def lv_law_right : Nat := 10
def lv_law : Nat := 11
def kg_lap_of_lamp_net {α : Type} : List α → List α → List α
  | [], [x0, x1] => [x1, x0]
  | _, _ => []
theorem kb_lap_of_lamp_net {K : PySem.W.Frag} {mg : Str → Option Value} {a : Ad} (T : Tx K mg a) : KBinds K a.f_lap_of ["net", "lamp"] ["lamp", "net"] kg_lap_of_lamp_net kg_lap_of_lamp_net := by
  obtain ⟨oc, od, kV, doc, pm, an, cdv, ct, osl, e, lk, hcd⟩ := T.lap_of.F.ex
  refine ⟨fun s us ws _ hl => ?_, fun {vs us zs ws} rv rz => ?_⟩
  · rw [e]
    match us, ws, hl with
    | [], [x0, x1], _ => exact BindsTo.of_eq rfl
  · cases rv with
    | cons _ _ => exact (show Vals [] [] from .nil)
    | nil =>
      cases rz with
      | nil => exact (show Vals [] [] from .nil)
      | cons r0 rz =>
        cases rz with
        | nil => exact (show Vals [] [] from .nil)
        | cons r1 rz =>
          cases rz with
          | cons _ _ => exact (show Vals [] [] from .nil)
          | nil => exact .cons r1 (.cons r0 (.nil))
def kg_rings_net {α : Type} : List α → List α → List α
  | [], [x0] => [x0]
  | _, _ => []
theorem kb_rings_net {K : PySem.W.Frag} {mg : Str → Option Value} {a : Ad} (T : Tx K mg a) : KBinds K a.f_rings ["net"] ["net"] kg_rings_net kg_rings_net := by
  obtain ⟨oc, od, kV, doc, pm, an, cdv, ct, osl, e, lk, hcd⟩ := T.rings.F.ex
  refine ⟨fun s us ws _ hl => ?_, fun {vs us zs ws} rv rz => ?_⟩
  · rw [e]
    match us, ws, hl with
    | [], [x0], _ => exact BindsTo.of_eq rfl
  · cases rv with
    | cons _ _ => exact (show Vals [] [] from .nil)
    | nil =>
      cases rz with
      | nil => exact (show Vals [] [] from .nil)
      | cons r0 rz =>
        cases rz with
        | cons _ _ => exact (show Vals [] [] from .nil)
        | nil => exact .cons r0 (.nil)
/-! ### is_whole, is_pair, is_number_of_many, is_lamp_of_many: quiet -/
section
variable {c : Qc} {a : Ad} {S : List Addr} {v u : V} {d e : PyData}
theorem qf_is_whole (O : c.Ok) (T : Tx c.K c.mg a) (h : Dx S c.H v d) : QF c 1 a.a_is_whole a.f_is_whole ["thing"] [v] (.bl (isW d)) := by
  refine q_fun O T.is_whole.F sc_is_whole (by decide +kernel) rfl fun L cdv => ?_
  have e1 : isW d = (kindB d "int" && !kindB d "bool") := by cases d <;> rfl
  rw [e1]
  exact qb_ret (q_and2 (qe_isi (C := "int") O h (q_name rfl) rfl T.n_isinstance rfl T.n_int (by decide +kernel) (by decide)) fun _ => q_not (qe_isi (C := "bool") O h (q_name rfl) rfl T.n_isinstance rfl T.n_bool (by decide +kernel) (by decide)))
def pairB : PyData → Bool
  | .tuple ds => (ds.length : Int) == 2
  | _ => false
theorem qf_is_pair (O : c.Ok) (T : Tx c.K c.mg a) (h : Dx S c.H v d) : QF c 1 a.a_is_pair a.f_is_pair ["thing"] [v] (.bl (pairB d)) := by
  refine q_fun O T.is_pair.F sc_is_pair (by decide +kernel) rfl fun L cdv => ?_
  have h1 : ∀ {k p1 p2 p3 pos}, QE c k (envOfC "is_pair" (defScope s_is_pair) L a.a_is_pair cdv) [("thing", v)] (.Call (.Name "isinstance" p1) [.Name "thing" p2, .Name (Str.ofString "tuple") p3] [] pos) (.bl (kindB d "tuple")) :=
    qe_isi (C := "tuple") O h (q_name rfl) rfl T.n_isinstance rfl T.n_tuple (by decide +kernel) (by decide)
  have e1 : pairB d = (kindB d "tuple" && pairB d) := by cases d <;> rfl
  rw [e1]
  refine qb_ret (q_and2 h1 fun z => ?_)
  cases h with
  | tup n h r =>
    have := r.len
    show QE _ _ _ _ _ (.bl ((_ : Int) == 2))
    rw [← this]
    exact q_cmp qo_eq (q_callB O (qc_lenT (tupQ_of O h)) rfl T.n_len (by decide +kernel) (qa_cons (q_name rfl) qa_nil)) q_int rfl
  | non => cases z
  | bl b => cases z
  | int i => cases z
  | str y => cases z
  | lst n h r => cases z
  | dic n h => cases z
theorem qf_is_number_of_many {m : Nat} (O : c.Ok) (T : Tx c.K c.mg a) (h : Dx S c.H v d) : QF c 2 a.a_is_number_of_many a.f_is_number_of_many ["thing", "many"] [v, .int m] (.bl (numB m d)) := by
  refine q_fun O T.is_number_of_many.F sc_is_number_of_many (by decide +kernel) rfl fun L cdv => ?_
  have e1 : numB m d = (isW d && numB m d) := by cases d <;> rfl
  rw [e1]
  refine qb_ret (q_and2 (q_call O (qf_is_whole O T h) T.is_whole.b rfl rfl T.is_whole.g T.is_whole.F.kp (qa_cons (q_name rfl) qa_nil)) fun z => ?_)
  cases h with
  | int i => exact q_chain qo_le qo_lt q_int (q_name rfl) (q_name rfl)
  | non => cases z
  | bl b => cases z
  | tup n h r => cases z
  | str y => cases z
  | lst n h r => cases z
  | dic n h => cases z
theorem lampB_pair {m : Nat} (h : pairB d = false) : lampB m d = false := by
  cases d with
  | tuple ds =>
    match ds, h with
    | [], _ => rfl
    | [_], _ => rfl
    | [_, _], h => cases h
    | _ :: _ :: _ :: _, _ => rfl
  | _ => rfl
theorem qf_is_lamp_of_many {m : Nat} (O : c.Ok) (T : Tx c.K c.mg a) (h : Dx S c.H v d) : QF c 3 a.a_is_lamp_of_many a.f_is_lamp_of_many ["thing", "many"] [v, .int m] (.bl (lampB m d)) := by
  refine q_fun O T.is_lamp_of_many.F sc_is_lamp_of_many (by decide +kernel) rfl fun L cdv => ?_
  have hp : ∀ {N : Nm} {p1 p2 pos}, N.lookup ("thing" : Str) = some v → QE c 2 (envOfC "is_lamp_of_many" (defScope s_is_lamp_of_many) L a.a_is_lamp_of_many cdv) N (.Call (.Name "is_pair" p1) [.Name "thing" p2] [] pos) (.bl (pairB d)) := fun hN =>
    q_call O (fun A R args us s r => qf_is_pair O T h A R args us s (r.mono (by decide))) T.is_pair.b rfl rfl T.is_pair.g T.is_pair.F.kp (qa_cons (q_name hN) qa_nil)
  cases z : pairB d with
  | false =>
    rw [lampB_pair z]
    refine qb_ifT (qt_not (t := false) (qt_val ?_)) (qb_ret q_bool)
    rw [← z]
    exact hp rfl
  | true =>
    refine qb_ifF (qt_not (t := true) (qt_val ?_)) ?_
    · rw [← z]
      exact hp rfl
    cases h with
    | @tup ad xs ds n h r =>
      have hl : (ds.length : Int) = 2 := by simpa [pairB] using z
      match ds, r with
      | [d1, d2], .cons (v := v1) r1 (.cons (v := v2) r2 .nil) =>
        refine qb_two (q_name rfl) (tupQ_of O h) rfl rfl (fun y hy => ?_) ?_
        · by_cases e1 : y = "thing"
          · rw [e1]; rfl
          · by_cases e2 : y = "many"
            · rw [e2]; rfl
            · have q1 : (y == ("thing" : Str)) = false := by simpa using e1
              have q2 : (y == ("many" : Str)) = false := by simpa using e2
              simp [List.zip, List.zipWith, List.lookup, q1, q2] at hy
        · have hw : ∀ {N : Nm} {p1 p2 pos}, N.lookup ("length" : Str) = some v1 → QE c 2 (envOfC "is_lamp_of_many" (defScope s_is_lamp_of_many) L a.a_is_lamp_of_many cdv) N (.Call (.Name "is_whole" p1) [.Name "length" p2] [] pos) (.bl (isW d1)) := fun hN =>
            q_call O (fun A R args us s r => qf_is_whole O T r1 A R args us s (r.mono (by decide))) T.is_whole.b rfl rfl T.is_whole.g T.is_whole.F.kp (qa_cons (q_name hN) qa_nil)
          cases y1 : isW d1 with
          | false =>
            have e3 : lampB m (.tuple [d1, d2]) = false := by
              have : lenB d1 = false := by cases d1 <;> first | rfl | cases y1
              show (lenB d1 && _) = false
              rw [this]; rfl
            rw [e3]
            refine qb_ifT (qt_orT (qt_not (t := false) (qt_val ?_))) (qb_ret q_bool)
            rw [← y1]
            exact hw rfl
          | true =>
            cases r1 with
            | int i =>
              have h0 : ∀ {p1 p2 p3 p4}, QT c 2 (envOfC "is_lamp_of_many" (defScope s_is_lamp_of_many) L a.a_is_lamp_of_many cdv) (("onward", v2) :: ("length", .int i) :: [("thing", .ref ad), ("many", .int m)])
                  (.UnaryOp .Not (.Call (.Name "is_whole" p1) [.Name "length" p2] [] p3) p4) false := by
                refine qt_not (t := true) (qt_val ?_)
                exact hw rfl
              have e4 : lampB m (.tuple [.int i, d2]) = (!decide (i < 1) && nxB m d2) := rfl
              cases y2 : decide (i < 1) with
              | true =>
                rw [e4, y2]
                exact qb_ifT (qt_or2 h0 (y2 ▸ qt_cmp qo_lt (q_name rfl) q_int rfl)) (qb_ret q_bool)
              | false =>
                rw [e4, y2]
                refine qb_ifF (qt_or2 h0 (y2 ▸ qt_cmp qo_lt (q_name rfl) q_int rfl)) ?_
                have e5 : (!false && nxB m d2) = (decide (v2 = .non) || numB m d2) := by
                  cases r2 <;> first | rfl | (simp [nxB])
                rw [e5]
                refine qb_ret (q_or2 (q_isN (q_name rfl)) fun _ => ?_)
                exact q_call O (fun A R args us s r => qf_is_number_of_many O T r2 A R args us s (r.mono (by decide))) T.is_number_of_many.b rfl rfl T.is_number_of_many.g T.is_number_of_many.F.kp (qa_cons (q_name rfl) (qa_cons (q_name rfl) qa_nil))
            | non => cases y1
            | bl b => cases y1
            | tup n h r => cases y1
            | str y => cases y1
            | lst n h r => cases y1
            | dic n h => cases y1
    | non => cases z
    | bl b => cases z
    | int i => cases z
    | str y => cases z
    | lst n h r => cases z
    | dic n h => cases z
end
/-! ### is_net -/
section
variable {P : Program} {w : World} {K : PySem.W.Frag} {mg : Str → Option Value} {base : Heap} {a : Ad}
/-- is_net(thing), thing any data -/
def spIsNet (TB : Addr) : Sp := fun vs H Q _ => ∃ (S : List Addr) (v : V) (d : PyData), vs = [v] ∧ Dx S H v d ∧ GxR.TabG H TB ∧ ∀ H', Kp [] H H' → Q (.bl (netB d)) H'
theorem ok_is_net (T : Tx K mg a) (TB : GxR.TabB base mg a.cd_is_net a.tb_is_net) : FnOk P w K mg base CX0 6 a.a_is_net a.f_is_net ["thing"] (spIsNet a.tb_is_net) := by
  refine okC T.is_net.F T.code_is_net sc_is_net (fun vs H Q E h => ?_) (fun A outer s H vs Q E hr h => ?_)
  · obtain ⟨S, v, d, rfl, _⟩ := h
    rfl
  obtain ⟨S, v, d, rfl, hd, ht, q⟩ := h
  refine ⟨_, (pss_cons (ps_if (pt_not (pt_val (pe_callB call_isi (by rfl) T.n_isinstance (by decide +kernel) (pa_cons (pv 0) (pa_cons (pe_bltn (v := .ty "tuple") (by rfl) T.n_tuple (by decide +kernel) rfl) pa_nil))))) (pss_one (ps_ret pe_bl)) pss_nil)
      (pss_cons (ps_set (i := 1) sc_is_net.nd rfl (by first | exact .inl rfl | exact .inr rfl) (pe_callB call_len_seq (by rfl) T.n_len (by decide +kernel) (pa_cons (pv 0) pa_nil)))
      (pss_cons (ps_if (PW.pt (pw_or (pt_cmpR op_lt (pv 1) pe_int (nomark _)) (pw_or1 (pt_cmpR op_gt (pv 1) (pe_glob (v := .int 12) rfl T.c_MOST_LAMPS.choose_spec ⟨_, rfl⟩) (nomark _))))) (pss_one (ps_ret pe_bl)) pss_nil)
      (pss_one (ps_ret (pe_allQ (k := 1) (hr.mono (by decide)) (by rfl) T.n_all TB rfl ⟨rfl, rfl, by decide +kernel, by decide +kernel, by decide +kernel, free_by (by decide +kernel)⟩ (pv 0) (fun _ => rfl))))))), ?_⟩
  have hk : PySem.W.kitOne K (.type (kname d)) (.type "tuple") = some (kindB d "tuple") := kit_data (by decide)
  refine ⟨v, rfl, v, .ty "tuple", _, _, _, rfl, .ty _, tyx_of hd, hk, _, rfl, ?_⟩
  cases z : kindB d "tuple" with
  | false =>
    refine iteT ?_
    have e : netB d = false := by cases d <;> first | rfl | cases z
    have := q H Kp.rfl'
    rw [e] at this
    exact this
  | true =>
    refine iteF ?_
    cases hd with
    | @tup ad xs ds n h r =>
      have hl : (xs.length : Int) = (ds.length : Int) := by rw [r.len]
      -- many = len(thing)
      refine ⟨.ref ad, rfl, ad, xs, rfl, .inr (SqT.of h), ?_⟩
      rw [hl]
      -- if many < 1 or many > MOST_LAMPS
      refine ⟨.int ds.length, rfl, _, _, rfl, rfl, _, rfl, ?_⟩
      have e0 : netB (.tuple ds) = (!decide ((ds.length : Int) < 1) && !decide ((12 : Int) < (ds.length : Int)) && (ds.map (lampB ds.length)).all id) := rfl
      cases z1 : decide ((ds.length : Int) < 1) with
      | true =>
        refine iteT (iteT ?_)
        have := q H Kp.rfl'
        rw [e0, z1] at this
        exact this
      | false =>
        refine iteF ⟨.int ds.length, rfl, _, _, rfl, rfl, _, rfl, ?_⟩
        cases z2 : decide ((12 : Int) < (ds.length : Int)) with
        | true =>
          refine iteT ?_
          have := q H Kp.rfl'
          rw [e0, z1, z2] at this
          exact this
        | false =>
          refine iteF ?_
          -- return all(..)
          refine ⟨.ref ad, rfl, ad, xs, ds.map (lampB ds.length), [("many", .int ds.length)], rfl, .inl (SqT.of h), ht, fun y vy hy => ?_, ⟨by rw [List.length_map, r.len], fun hd env OK hsc j xv b hx hb => ?_⟩, fun H2 hT => ?_⟩
          · by_cases ey : y = "many"
            · subst ey
              have e2 : V.int ds.length = vy := by simpa [List.lookup] using hy
              subst e2
              exact ⟨by decide, by decide +kernel, by decide +kernel, 1, rfl, rfl, (by decide +kernel : (defScope s_is_net).names.lookup _ = some .cell)⟩
            · have ey' : (y == ("many" : Str)) = false := by simpa using ey
              simp [List.lookup, ey'] at hy
          · obtain ⟨dj, hdj, hxv⟩ := r.get hx
            rw [List.getElem?_map, hdj] at hb
            cases hb
            have OT : Tx (Qc.mk P w K mg (wipe H a.tb_is_net) hd).K (Qc.mk P w K mg (wipe H a.tb_is_net) hd).mg a := T
            have hw : Dx S (wipe H a.tb_is_net) xv dj := hxv.wiped ht
            refine q_call OK (qf_is_lamp_of_many OK OT hw) T.is_lamp_of_many.b rfl ?_ T.is_lamp_of_many.g T.is_lamp_of_many.F.kp (qa_cons (q_name rfl) (qa_cons (q_name rfl) qa_nil))
            show env.scope.names.lookup _ = _
            rw [hsc]
            decide +kernel
          · have := q H2 (Kp.tabbed ht hT)
            rw [e0, z1, z2] at this
            exact this
    | non => cases z
    | bl b => cases z
    | int i => cases z
    | str y => cases z
    | lst n h r => cases z
    | dic n h => cases z
end

/-! ### need_net, need_lamp of what is right -/
section
variable {P : Program} {w : World} {K : PySem.W.Frag} {mg : Str → Option Value} {base : Heap} {a : Ad}
def spNeedNet (TB : Addr) : Sp := fun vs H Q _ => ∃ (S : List Addr) (v : V) (N : Net), vs = [v] ∧ Dx S H v (netD N) ∧ NetOk N ∧ GxR.TabG H TB ∧ ∀ H', Kp [] H H' → Q .non H'
theorem ok_need_net (T : Tx K mg a) (TB : GxR.TabB base mg a.cd_is_net a.tb_is_net) : FnOk P w K mg base CX0 7 a.a_need_net a.f_need_net ["net"] (spNeedNet a.tb_is_net) := by
  have G_is_net := ok_is_net (P := P) (w := w) (base := base) T TB
  refine T.need_net.F.ok sc_need_net (fun vs H Q E h => ?_) (fun cdv A outer s H vs Q E hr h => ?_)
  · obtain ⟨S, v, N, rfl, _⟩ := h
    rfl
  obtain ⟨S, v, N, rfl, hd, ok, ht, q⟩ := h
  refine ⟨_, (pss_one (ps_if (pt_not (pt_val (pe_call G_is_net (hr.mono (by decide)) (by rfl) T.is_net.g T.is_net.F.kp T.is_net.b .nil pass0 (pa_cons (pv 0) pa_nil)))) (pss_one ps_never) pss_nil)), ?_⟩
  refine ⟨v, rfl, S, v, netD N, rfl, hd, ht, fun H' k => ⟨true, by rw [netB_of ok], ?_⟩⟩
  exact iteF (q H' k)
def spNeedLamp : Sp := fun vs H Q _ => ∃ (S : List Addr) (v : V) (N : Net) (x : Nat), vs = [v, .int x] ∧ Dx S H v (netD N) ∧ x < N.length ∧ Q .non H
theorem ok_need_lamp (T : Tx K mg a) : FnOk P w K mg base CX0 3 a.a_need_lamp a.f_need_lamp ["net", "lamp"] spNeedLamp := by
  have G_is_number_of_many : FnOk P w K mg base CX0 2 a.a_is_number_of_many a.f_is_number_of_many ["thing", "many"] (fun vs H Q _ => ∃ (x m : Nat), vs = [.int x, .int m] ∧ x < m ∧ Q (.bl true) H) := by
    refine fn_ofQ (fun vs H Q E h => ?_) fun vs H Q E h => ?_
    · obtain ⟨x, m, rfl, _⟩ := h
      rfl
    · obtain ⟨x, m, rfl, hx, q⟩ := h
      refine ⟨.bl true, q, fun hd OK => ?_⟩
      have OT : Tx (Qc.mk P w K mg H hd).K (Qc.mk P w K mg H hd).mg a := T
      have := qf_is_number_of_many (S := []) (m := m) OK OT (.int (x : Int))
      have e : numB m (.int (x : Int)) = true := by
        show (decide ((0 : Int) ≤ (x : Int)) && decide ((x : Int) < (m : Int))) = true
        rw [decide_eq_true (by omega), decide_eq_true (by omega)]
        rfl
      rw [e] at this
      exact fun A R args us s r => this A R args us s (r.mono (by decide))
  refine T.need_lamp.F.ok sc_need_lamp (fun vs H Q E h => ?_) (fun cdv A outer s H vs Q E hr h => ?_)
  · obtain ⟨S, v, N, x, rfl, _⟩ := h
    rfl
  obtain ⟨S, v, N, x, rfl, hd, hx, q⟩ := h
  refine ⟨_, (pss_one (ps_if (pt_not (pt_val (pe_call G_is_number_of_many (hr.mono (by decide)) (by rfl) T.is_number_of_many.g T.is_number_of_many.F.kp T.is_number_of_many.b .nil pass0 (pa_cons (pv 1) (pa_cons (pe_callB call_len_seq (by rfl) T.n_len (by decide +kernel) (pa_cons (pv 0) pa_nil)) pa_nil))))) (pss_one ps_never) pss_nil)), ?_⟩
  cases hd with
  | @tup ad xs ds n h r =>
    have e := r.len
    rw [List.length_map] at e
    refine ⟨.int x, rfl, .ref ad, rfl, ad, xs, rfl, .inr (SqT.of h), x, N.length, by rw [e]; rfl, hx, true, rfl, ?_⟩
    exact iteF q
end

/-! ### way_of -/
section
variable {P : Program} {w : World} {K : PySem.W.Frag} {mg : Str → Option Value} {base : Heap} {a : Ad}
def spWayOf (TB : Addr) : Sp := fun vs H Q _ => ∃ (S : List Addr) (v : V) (N : Net) (x : Nat), vs = [v, .int x] ∧ Dx S H v (netD N) ∧ NetOk N ∧ x < N.length ∧ GxR.TabG H TB ∧ ∀ v' H', Kp [] H H' → Nw H H' v' (wayD N x) → Q v' H'
theorem ok_way_of (T : Tx K mg a) (TB : GxR.TabB base mg a.cd_is_net a.tb_is_net) : FnOk P w K mg base CX0 8 a.a_way_of a.f_way_of ["net", "lamp"] (spWayOf a.tb_is_net) := by
  have G_need_net := ok_need_net (P := P) (w := w) (base := base) T TB
  have G_need_lamp := ok_need_lamp (P := P) (w := w) (base := base) T
  refine T.way_of.F.ok sc_way_of (fun vs H Q E h => ?_) (fun cdv A outer s H vs Q E hr h => ?_)
  · obtain ⟨S, v, N, x, rfl, _⟩ := h
    rfl
  obtain ⟨S, v, N, x, rfl, hd, ok, hx, ht, q⟩ := h
  refine ⟨_, (pss_cons (ps_expr (pe_call G_need_net (hr.mono (by decide)) (by rfl) T.need_net.g T.need_net.F.kp T.need_net.b .nil pass0 (pa_cons (pv 0) pa_nil)))
      (pss_cons (ps_expr (pe_call G_need_lamp (hr.mono (by decide)) (by rfl) T.need_lamp.g T.need_lamp.F.kp T.need_lamp.b .nil pass0 (pa_cons (pv 0) (pa_cons (pv 1) pa_nil))))
      (pss_cons (ps_set (i := 2) sc_way_of.nd rfl (by first | exact .inl rfl | exact .inr rfl) (pe_lst pa_nil))
      (pss_cons (ps_set (i := 3) sc_way_of.nd rfl (by first | exact .inl rfl | exact .inr rfl) (pv 1))
      (pss_cons (ps_while PassesOwn.never (PW.pt (pw_and (pt_cmpR op_notN (pv 3) pe_non (nomark _)) (pw_and1 (pt_cmpR op_notIn_seq (pv 3) (pv 2) (by rfl))))) (pss_cons (ps_expr (pe_bm PySem.F.plainAttrs_list PySem.F.slot_list_append PySem.F.type_list_append mt_append (pv 2) (pa_cons (pv 3) pa_nil)))
      (pss_one (ps_set (i := 3) sc_way_of.nd rfl (by first | exact .inl rfl | exact .inr rfl) (pe_ix ix_tup (pe_ix ix_tup (pv 0) (pv 3) (fun _ _ => rfl)) pe_int (fun _ _ => rfl))))))
      (pss_cons (ps_if (pt_cmpR op_isN (pv 3) pe_non (nomark _)) (pss_one (ps_ret (pe_tup (pa_cons (pe_callTy call_tuple_of (by rfl) T.n_tuple (by decide +kernel) (pa_cons (pv 2) pa_nil)) (pa_cons (pe_tup pa_nil) pa_nil))))) pss_nil)
      (pss_cons (ps_set (i := 4) sc_way_of.nd rfl (by first | exact .inl rfl | exact .inr rfl) (pe_bm PySem.F.plainAttrs_list PySem.F.slot_list_index PySem.F.type_list_index mt_index (pv 2) (pa_cons (pv 3) pa_nil)))
      (pss_one (ps_ret (pe_tup (pa_cons (pe_callTy call_tuple_of (by rfl) T.n_tuple (by decide +kernel) (pa_cons (pe_slice sl_list (pv 2) po_none (po_some (pv 4))) pa_nil)) (pa_cons (pe_callTy call_tuple_of (by rfl) T.n_tuple (by decide +kernel) (pa_cons (pe_slice sl_list (pv 2) (po_some (pv 4)) po_none) pa_nil)) pa_nil)))))))))))), ?_⟩
  -- need_net(net), need_lamp(net, lamp)
  refine ⟨v, rfl, S, v, N, rfl, hd, ok, ht, fun Ha ka => ?_⟩
  have hda : Dx S Ha v (netD N) := hd.kp ka fun _ z => by cases z
  refine ⟨v, rfl, .int x, rfl, S, v, N, x, rfl, hda, hx, ?_⟩
  -- gone = [], at = lamp
  refine ⟨Nat.zero_le _, fun gp ng => ⟨.int x, rfl, ?_⟩⟩
  have hdl : ∀ l, Dx S (upd Ha gp (.lst l)) v (netD N) := fun l => hda.kp (Kp.new (S := []) ng) fun _ z => by cases z
  obtain ⟨I, hI⟩ : ∃ I : Nat → L2.St → Hp → Prop, I = fun m σ H3 => ∃ (g : List Nat) (at_ : V), σ = [some v, some (.int x), some (.ref gp), some at_, none] ∧ H3 = upd Ha gp (.lst (natV g)) ∧ ((g = [] ∧ at_ = .int x) ∨ ∃ i, Gone N x i g ∧ at_ = nxV (nxt N (lastOf g))) ∧ m + g.length = N.length + 1 := ⟨_, rfl⟩
  refine ⟨I, ⟨N.length + 1, by rw [hI]; exact ⟨[], _, rfl, rfl, .inl ⟨rfl, rfl⟩, rfl⟩⟩, fun m σ H3 hW => ?_⟩
  rw [hI] at hW
  obtain ⟨g, at_, rfl, rfl, hg, hm⟩ := hW
  have hdg := hdl (natV g)
  have hgp : (upd Ha gp (.lst (natV g))) gp = some (.lst (natV g)) := upd_same
  have kg : Kp [] H (upd Ha gp (.lst (natV g))) := ka.tr (Kp.new ng)
  have trg : ∀ b, H b ≠ none → (upd Ha gp (.lst (natV g))) b ≠ none := kg.tr_
  have hlen : g.length ≤ N.length := by
    rcases hg with ⟨e, _⟩ | ⟨i, gi, _⟩
    · rw [e]; exact Nat.zero_le _
    · exact gi.le
  have h12 := ok.hi
  have zl : (natV g).length < sizeLine := by rw [natV_len]; exact Nat.lt_of_le_of_lt (Nat.le_trans hlen h12) (by decide)
  have two : (∃ y : Nat, at_ = .int y ∧ y < N.length ∧ ((g = [] ∧ y = x) ∨ ∃ i, Gone N x i g ∧ nxt N (lastOf g) = some y)) ∨ (at_ = .non ∧ ∃ i, Gone N x i g ∧ nxt N (lastOf g) = none) := by
    rcases hg with ⟨e, e2⟩ | ⟨i, gi, e2⟩
    · exact .inl ⟨x, e2, hx, .inl ⟨e, rfl⟩⟩
    · cases z : nxt N (lastOf g) with
      | none => rw [z] at e2; exact .inr ⟨e2, i, gi, rfl⟩
      | some y => rw [z] at e2; exact .inl ⟨y, e2, nxt_lt ok z, .inr ⟨i, gi, rfl⟩⟩
  rcases two with ⟨y, rfl, hy, hst⟩ | ⟨rfl, i, gi, hnx⟩
  · -- a lamp is come to
    refine ⟨.int y, rfl, rfl, _, rfl, iteT ?_⟩
    refine ⟨.int y, rfl, .ref gp, rfl, gp, natV g, rfl, .inl (SqL.of hgp), rfl, natV_flat g, _, rfl, ?_⟩
    show if (!inV (.int (y : Int)) (natV g)) = true then _ else _
    rw [inV_natV]
    by_cases hn : y ∈ g
    · -- it was come by: the loop is over
      rw [decide_eq_true hn]
      refine iteF ?_
      rcases hst with ⟨e, _⟩ | ⟨i, gi, hnx⟩
      · rw [e] at hn; cases hn
      have hpa : path N x = g := gi.done (step_in hnx hn)
      have hcut : cutAt N (path N x) = g.idxOf y := by rw [hpa]; unfold cutAt; rw [hnx]
      have hix : g.idxOf y < g.length := List.idxOf_lt_length_iff.mpr hn
      have hge : g[g.idxOf y]? = some y := by rw [List.getElem?_eq_getElem hix, List.getElem_idxOf hix]
      -- if at is None
      refine ⟨.int y, rfl, rfl, _, rfl, iteF ?_⟩
      -- first = gone.index(at)
      refine ⟨.ref gp, rfl, .inl ⟨rfl, _, SqL.of hgp⟩, .int y, rfl, gp, natV g, .int y, g.idxOf y, .int y, rfl, rfl, SqL.of hgp, rfl, natV_flat g, natV_get hge, by show ((y : Int) == (y : Int)) = true; simp, fun j z hj hz => ?_, ?_⟩
      · obtain ⟨u, hu, rfl⟩ : ∃ u, g[j]? = some u ∧ z = .int (u : Int) := by
          unfold natV at hz
          rw [List.getElem?_map] at hz
          cases q1 : g[j]? with
          | none => rw [q1] at hz; cases hz
          | some u => rw [q1] at hz; exact ⟨u, rfl, (Option.some.inj hz).symm⟩
        show ((u : Int) == (y : Int)) = false
        have hne : u ≠ y := idx_ne hj hu
        simp only [beq_eq_false_iff_ne]
        omega
      -- return (tuple(gone[:first]), tuple(gone[first:]))
      refine ⟨.ref gp, rfl, .int (g.idxOf y : Nat), rfl, _, rfl, gp, natV g, rfl, SqL.of hgp, fun p1 n1 => ?_⟩
      obtain ⟨H1, e1⟩ : ∃ H1, H1 = upd (upd Ha gp (.lst (natV g))) p1 (.lst (cutV (natV g) none (some (g.idxOf y : Nat)))) := ⟨_, rfl⟩
      rw [← e1]
      have k1 : Kp [] (upd Ha gp (.lst (natV g))) H1 := e1 ▸ Kp.new n1
      refine ⟨p1, _, rfl, .inl ⟨SqL.of (by rw [e1]; exact upd_same), fun t1 nt1 => ?_⟩⟩
      rw [natV_cut0 (Nat.le_of_lt hix)]
      obtain ⟨H2, e2⟩ : ∃ H2, H2 = upd H1 t1 (.tup (natV (g.take (g.idxOf y)))) := ⟨_, rfl⟩
      rw [← e2]
      have k2 : Kp [] H1 H2 := e2 ▸ Kp.new nt1
      have w1 : Nw H H2 (.ref t1) (natsD (g.take (g.idxOf y))) := by
        rw [e2]
        exact Nw.tup (kg.tr k1).tr_ nt1 (nwA_natV _)
      have hgp2 : H2 gp = some (.lst (natV g)) := (k1.tr k2).lst (by simp) hgp
      refine ⟨.ref gp, rfl, .int (g.idxOf y : Nat), rfl, _, rfl, gp, natV g, rfl, SqL.of hgp2, fun p2 n2 => ?_⟩
      obtain ⟨H3, e3⟩ : ∃ H3, H3 = upd H2 p2 (.lst (cutV (natV g) (some (g.idxOf y : Nat)) none)) := ⟨_, rfl⟩
      rw [← e3]
      have k3 : Kp [] H2 H3 := e3 ▸ Kp.new n2
      refine ⟨p2, _, rfl, .inl ⟨SqL.of (by rw [e3]; exact upd_same), fun t2 nt2 => ?_⟩⟩
      rw [natV_cut1 (Nat.le_of_lt hix)]
      obtain ⟨H4, e4⟩ : ∃ H4, H4 = upd H3 t2 (.tup (natV (g.drop (g.idxOf y)))) := ⟨_, rfl⟩
      rw [← e4]
      have k4 : Kp [] H3 H4 := e4 ▸ Kp.new nt2
      have kh4 : Kp [] H H4 := kg.tr (k1.tr (k2.tr (k3.tr k4)))
      have w2 : Nw H H4 (.ref t2) (natsD (g.drop (g.idxOf y))) := by
        rw [e4]
        exact Nw.tup (kg.tr (k1.tr (k2.tr k3))).tr_ nt2 (nwA_natV _)
      refine ⟨by show 2 ≤ sizeLine; decide, fun t3 n3 => q _ _ (kh4.tr (Kp.new n3)) ?_⟩
      have e5 : wayD N x = .tuple [natsD (g.take (g.idxOf y)), natsD (g.drop (g.idxOf y))] := by
        unfold wayD wayA wayR
        rw [hcut, hpa]
      rw [e5]
      exact Nw.tup kh4.tr_ n3 (.cons (w1.kp (k3.tr k4)) (.cons w2 .nil))
    · rw [decide_eq_false hn]
      refine iteT ⟨fun σ' H' => ∃ m', m' < m ∧ I m' σ' H', fun _ _ h => h, ?_⟩
      obtain ⟨p, hp⟩ : ∃ p, N[y]? = some p := ⟨N[y], List.getElem?_eq_getElem hy⟩
      -- gone.append(at)
      refine ⟨.ref gp, rfl, .inl ⟨rfl, _, SqL.of hgp⟩, .int y, rfl, gp, natV g, .int y, rfl, rfl, hgp, zl, ?_⟩
      rw [upd_upd]
      -- at = net[at][1]
      obtain ⟨ad, xs, rfl, _, h1, hl1, hat⟩ := net_at (hdl (natV g ++ [.int (y : Int)]))
      obtain ⟨la, hxl, _, h2⟩ := hat y p hp
      refine ⟨.ref ad, rfl, .int y, rfl, ad, xs, y, .ref la, rfl, rfl, SqT.of h1, atI_nat hxl, la, _, 1, nxV p.2, rfl, rfl, SqT.of h2, atI_nat (j := 1) rfl, ?_⟩
      rw [hI]
      have hyg : Gone N x (g.length) (g ++ [y]) := by
        rcases hst with ⟨e, e2⟩ | ⟨i, gi, hnx⟩
        · subst e; subst e2; exact Gone.start hx
        · have := gi.more ok hnx hn
          rwa [← gi.len] at this
      have hgl := hyg.le
      rw [List.length_append] at hgl
      refine ⟨m - 1, by simp at hgl; omega, g ++ [y], nxV p.2, rfl, by rw [natV_app], .inr ⟨_, hyg, by rw [last_app, nxt_get hp]⟩, ?_⟩
      rw [List.length_append]
      simp at hgl ⊢
      omega
  · -- the way is over
    refine ⟨.non, rfl, rfl, _, rfl, iteF ?_⟩
    refine ⟨.non, rfl, rfl, _, rfl, iteT ?_⟩
    have hpa : path N x = g := gi.done (step_none hnx)
    have hcut : cutAt N (path N x) = g.length := by rw [hpa]; unfold cutAt; rw [hnx]
    refine ⟨.ref gp, rfl, gp, natV g, rfl, .inl ⟨SqL.of hgp, fun t1 nt1 => ?_⟩⟩
    obtain ⟨H2, e2⟩ : ∃ H2, H2 = upd (upd Ha gp (.lst (natV g))) t1 (.tup (natV g)) := ⟨_, rfl⟩
    rw [← e2]
    have k2 : Kp [] (upd Ha gp (.lst (natV g))) H2 := e2 ▸ Kp.new nt1
    have w1 : Nw H H2 (.ref t1) (natsD g) := by
      rw [e2]
      exact Nw.tup kg.tr_ nt1 (nwA_natV _)
    refine ⟨Nat.zero_le _, fun t2 nt2 => ?_⟩
    obtain ⟨H4, e4⟩ : ∃ H4, H4 = upd H2 t2 (.tup []) := ⟨_, rfl⟩
    rw [← e4]
    have k4 : Kp [] H2 H4 := e4 ▸ Kp.new nt2
    have kh4 : Kp [] H H4 := kg.tr (k2.tr k4)
    have w2 : Nw H H4 (.ref t2) (natsD []) := by
      rw [e4]
      exact Nw.tup (kg.tr k2).tr_ nt2 .nil
    refine ⟨by show 2 ≤ sizeLine; decide, fun t3 n3 => q _ _ (kh4.tr (Kp.new n3)) ?_⟩
    have e5 : wayD N x = .tuple [natsD g, natsD []] := by
      unfold wayD wayA wayR
      rw [hcut, hpa, List.take_length, List.drop_length]
    rw [e5]
    exact Nw.tup kh4.tr_ n3 (.cons (w1.kp k4) (.cons w2 .nil))
end

/-! ### the law's draws -/
section
variable {P : Program} {w : World} {K : PySem.W.Frag} {mg : Str → Option Value} {base : Heap} {a : Ad}
/-- a wick: three numbers, at most n draws were made -/
def Wick (H : Hp) (p : Addr) (n : Nat) : Prop := ∃ x y z : Int, H p = some (.lst [.int x, .int y, .int z]) ∧ 0 ≤ x ∧ 0 ≤ y ∧ y < 2 ^ 160 ∧ 0 ≤ z ∧ z ≤ n
theorem Wick.mono {H : Hp} {p : Addr} {n m : Nat} (h : Wick H p n) (l : n ≤ m) : Wick H p m := by
  obtain ⟨x, y, z, e, h1, h2, h3, h4, h5⟩ := h
  exact ⟨x, y, z, e, h1, h2, h3, h4, by omega⟩
theorem Wick.kp {S : List Addr} {H H1 : Hp} {p : Addr} {n : Nat} (h : Wick H p n) (k : Kp S H H1) (hp : p ∉ S) : Wick H1 p n := by
  obtain ⟨x, y, z, e, r⟩ := h
  exact ⟨x, y, z, k.lst hp e, r⟩
theorem Wick.tr {H : Hp} {p : Addr} {n : Nat} (h : Wick H p n) : H p ≠ none := by
  obtain ⟨x, y, z, e, _⟩ := h
  rw [e]
  exact fun q => by cases q
def spWick : Sp := fun vs H Q _ => ∃ (c : Int) (k : Nat), vs = [.int c, .int k] ∧ k < 100 ∧ ∀ p, H p = none → ∀ H', Kp [] H H' → Wick H' p 0 → Q (.ref p) H'
theorem ok_law_wick (T : Tx K mg a) : FnOk P w K mg base CX0 1 a.a_law_wick a.f_law_wick ["cell", "k"] spWick := by
  refine T.law_wick.F.ok sc_law_wick (fun vs H Q E h => ?_) (fun cdv A outer s H vs Q E hr h => ?_)
  · obtain ⟨c, k, rfl, _⟩ := h
    rfl
  obtain ⟨c, k, rfl, hk, q⟩ := h
  refine ⟨_, (pss_one (ps_ret (pe_lst (pa_cons (pe_callB (call_max2 rfl) (by rfl) T.n_max (by decide +kernel) (pa_cons pe_int (pa_cons (pe_op op_sub (pv 0) (pe_op op_powW pe_int pe_int)) pa_nil))) (pa_cons (pe_op op_add (pe_op op_mod (pv 0) (pe_op op_add (pe_op op_powW pe_int pe_int) pe_int)) (pe_op op_mulW pe_int (pv 1))) (pa_cons pe_int pa_nil)))))), ?_⟩
  refine ⟨.int c, rfl, _, _, rfl, rfl, ⟨by decide, by decide⟩, _, _, rfl, rfl, _, _, rfl, ?_⟩
  refine ⟨.int c, rfl, _, _, rfl, rfl, ⟨by decide, by decide⟩, _, _, rfl, rfl, _, _, rfl, rfl, (by show (0 : Int) < _; decide), .int k, rfl, _, _, rfl, rfl, wide_mul (a := 13) (b := 8) (by decide) (by omega) (by decide) (by decide) (by decide), _, _, rfl, rfl, ?_⟩
  refine ⟨by show 3 ≤ sizeLine; decide, fun p np => q p np _ (Kp.new np) ⟨_, _, _, upd_same, ?_, ?_, ?_, Int.le_refl 0, Int.le_refl 0⟩⟩
  · split <;> omega
  · have := Int.emod_nonneg c (show ((10 : Int) ^ (44 : Int).toNat + 31) ≠ 0 by decide)
    omega
  · have := Int.emod_lt_of_pos c (show 0 < ((10 : Int) ^ (44 : Int).toNat + 31) by decide)
    have e : ((10 : Int) ^ (44 : Int).toNat + 31) + 8009 * 100 < 2 ^ 160 := by decide
    omega
def spPick : Sp := fun vs H Q _ => ∃ (p : Addr) (m : Int) (n : Nat), vs = [.ref p, .int m] ∧ 0 < m ∧ m < 2 ^ 8000 ∧ Wick H p n ∧ n < 100000 ∧ ∀ r H', 0 ≤ r → r < m → Kp [p] H H' → Wick H' p (n + 1) → Q (.int r) H'
theorem ok_law_pick (T : Tx K mg a) : FnOk P w K mg base CX0 1 a.a_law_pick a.f_law_pick ["wick", "many"] spPick := by
  refine T.law_pick.F.ok sc_law_pick (fun vs H Q E h => ?_) (fun cdv A outer s H vs Q E hr h => ?_)
  · obtain ⟨p, m, n, rfl, _⟩ := h
    rfl
  obtain ⟨p, m, n, rfl, hm, hm2, ⟨x, y, z, hp, hx, hy, hy2, hz, hz2⟩, hn, q⟩ := h
  refine ⟨_, (pss_cons (ps_if (pt_cmpR op_gt (pe_ix ix_list (pv 0) pe_int (fun _ _ => rfl)) pe_int (nomark _)) (pss_cons (ps_set (i := 2) sc_law_pick.nd rfl (by first | exact .inl rfl | exact .inr rfl) (pe_op op_mod (pe_ix ix_list (pv 0) pe_int (fun _ _ => rfl)) (pv 1)))
      (pss_cons (ps_asg (pe_op op_fdivW (pe_ix ix_list (pv 0) pe_int (fun _ _ => rfl)) (pv 1)) (pg_sub (pv 0) pe_int set_list))
      (pss_one (ps_ret (pv 2))))) pss_nil)
      (pss_cons (ps_augS (pv 0) pe_int pget_list pe_int ip_add set_list)
      (pss_cons (ps_set (i := 3) sc_law_pick.nd rfl (by first | exact .inl rfl | exact .inr rfl) (pe_op op_mod (pe_op op_powW (pe_op op_add (pe_ix ix_list (pv 0) pe_int (fun _ _ => rfl)) (pe_op op_mulW pe_int (pe_ix ix_list (pv 0) pe_int (fun _ _ => rfl)))) pe_int) (pe_op op_add (pe_op op_powW pe_int pe_int) pe_int)))
      (pss_cons (ps_set (i := 3) sc_law_pick.nd rfl (by first | exact .inl rfl | exact .inr rfl) (pe_op op_mod (pe_op op_powW (pe_op op_add (pv 3) (pe_op op_mulW (pe_op op_mulW pe_int (pe_ix ix_list (pv 0) pe_int (fun _ _ => rfl))) (pe_ix ix_list (pv 0) pe_int (fun _ _ => rfl)))) pe_int) (pe_op op_add (pe_op op_powW pe_int pe_int) pe_int)))
      (pss_one (ps_ret (pe_op op_mod (pe_op op_fdivW (pv 3) pe_int) (pv 1)))))))), ?_⟩
  have nt : ∀ ps, HO.lst [V.int x, .int y, .int z] ≠ .tbl ps := fun ps e => by cases e
  refine ⟨.ref p, rfl, p, _, 0, .int x, rfl, rfl, SqL.of hp, atI_nat (j := 0) rfl, _, _, rfl, rfl, _, rfl, ite2 (fun e => ?_) (fun e => ?_)⟩
  · have hx0 : 0 < x := of_decide_eq_true e
    refine ⟨.ref p, rfl, p, _, 0, .int x, rfl, rfl, SqL.of hp, atI_nat (j := 0) rfl, .int m, rfl, x, m, rfl, rfl, hm, ?_⟩
    refine ⟨.ref p, rfl, p, _, 0, .int x, rfl, rfl, SqL.of hp, atI_nat (j := 0) rfl, .int m, rfl, x, m, rfl, rfl, ⟨hm, big_log hm hm2⟩, ?_⟩
    refine ⟨.ref p, rfl, p, _, 0, 0, rfl, rfl, hp, rfl, ?_⟩
    refine ⟨.int (x % m), rfl, ?_⟩
    refine q _ _ (Int.emod_nonneg _ (by omega)) (Int.emod_lt_of_pos _ hm) (Kp.put (by simp) hp nt) ⟨x / m, y, z, upd_same, Int.ediv_nonneg hx (by omega), hy, hy2, hz, by omega⟩
  · have hx0 : x = 0 := by
      have : ¬ 0 < x := fun h => e (decide_eq_true h)
      omega
    -- wick[2] += 1
    refine ⟨.ref p, rfl, p, _, 2, .int z, rfl, rfl, SqL.of hp, rfl, z, 1, rfl, rfl, p, _, 2, 2, rfl, rfl, hp, rfl, ?_⟩
    obtain ⟨H1, e1⟩ : ∃ H1, H1 = upd H p (.lst [.int x, .int y, .int (z + 1)]) := ⟨_, rfl⟩
    have hp1 : H1 p = some (.lst [.int x, .int y, .int (z + 1)]) := by rw [e1]; exact upd_same
    have k1 : Kp [p] H H1 := e1 ▸ Kp.put (by simp) hp nt
    show tSeq _ _ _ _ (upd H p (.lst [.int x, .int y, .int (z + 1)]))
    rw [← e1]
    -- burnt = (wick[1] + 612977 * wick[2]) ** 5 % (10 ** 41 + 109)
    refine ⟨.ref p, rfl, p, _, 1, .int y, rfl, rfl, SqL.of hp1, atI_nat (j := 1) rfl, .ref p, rfl, p, _, 2, .int (z + 1), rfl, rfl, SqL.of hp1, atI_nat (j := 2) rfl, _, _, rfl, rfl, wide_mul (a := 20) (b := 20) (by decide) (by omega) (by decide) (by decide) (by decide), _, _, rfl, rfl, _, _, rfl, rfl, pow_ok (n := 200) (e := 5) (by omega) (by decide) (by decide), _, _, rfl, rfl, ⟨by decide, by decide⟩, _, _, rfl, rfl, _, _, rfl, rfl, (by show (0 : Int) < _; decide), ?_⟩
    have l1 := Int.emod_nonneg ((y + 612977 * (z + 1)) ^ (5 : Int).toNat) (show ((10 : Int) ^ (41 : Int).toNat + 109) ≠ 0 by decide)
    have l2 := Int.emod_lt_of_pos ((y + 612977 * (z + 1)) ^ (5 : Int).toNat) (show 0 < ((10 : Int) ^ (41 : Int).toNat + 109) by decide)
    have l3 : ((10 : Int) ^ (41 : Int).toNat + 109) < 2 ^ 140 := by decide
    obtain ⟨b1, eb⟩ : ∃ b1, b1 = (y + 612977 * (z + 1)) ^ (5 : Int).toNat % ((10 : Int) ^ (41 : Int).toNat + 109) := ⟨_, rfl⟩
    rw [← eb] at l1 l2
    -- burnt = (burnt + 32452843 * wick[2] * wick[2]) ** 3 % (10 ** 36 + 67)
    have l4 : 32452843 * (z + 1) < 2 ^ 50 := by omega
    have l5 : 0 ≤ 32452843 * (z + 1) := by omega
    have l6 : (32452843 * (z + 1) * (z + 1)).natAbs < 2 ^ (50 + 20) := wide_lt (by omega) (by omega)
    refine ⟨.int b1, by rw [eb]; rfl, .ref p, rfl, p, _, 2, .int (z + 1), rfl, rfl, SqL.of hp1, atI_nat (j := 2) rfl, _, _, rfl, rfl, wide_mul (a := 26) (b := 20) (by decide) (by omega) (by decide) (by decide) (by decide), .ref p, rfl, p, _, 2, .int (z + 1), rfl, rfl, SqL.of hp1, atI_nat (j := 2) rfl, _, _, rfl, rfl, wide_mul (a := 50) (b := 20) (by omega) (by omega) (by decide) (by decide) (by decide), _, _, rfl, rfl, _, _, rfl, rfl, pow_ok (n := 200) (e := 3) (by omega) (by decide) (by decide), _, _, rfl, rfl, ⟨by decide, by decide⟩, _, _, rfl, rfl, _, _, rfl, rfl, (by show (0 : Int) < _; decide), ?_⟩
    obtain ⟨b2, eb2⟩ : ∃ b2, b2 = (b1 + 32452843 * (z + 1) * (z + 1)) ^ (3 : Int).toNat % ((10 : Int) ^ (36 : Int).toNat + 67) := ⟨_, rfl⟩
    -- return burnt // 2048 % many
    refine ⟨.int b2, by rw [eb2]; rfl, _, _, rfl, rfl, ⟨by decide, by decide⟩, .int m, rfl, _, _, rfl, rfl, hm, ?_⟩
    exact q _ _ (Int.emod_nonneg _ (by omega)) (Int.emod_lt_of_pos _ hm) k1 ⟨x, y, z + 1, hp1, hx, hy, hy2, by omega, by omega⟩
def spBurns : Sp := fun vs H Q _ => ∃ (p : Addr) (n : Nat), vs = [.ref p] ∧ Wick H p n ∧ n < 99000 ∧ ∀ r H', 1 ≤ r → r < 10 ^ 60 → Kp [p] H H' → Wick H' p (n + 3) → Q (.int r) H'
theorem ok_law_burns (T : Tx K mg a) : FnOk P w K mg base CX0 2 a.a_law_burns a.f_law_burns ["wick"] spBurns := by
  have G_law_pick := ok_law_pick (P := P) (w := w) (base := base) T
  refine T.law_burns.F.ok sc_law_burns (fun vs H Q E h => ?_) (fun cdv A outer s H vs Q E hr h => ?_)
  · obtain ⟨p, n, rfl, _⟩ := h
    rfl
  obtain ⟨p, n, rfl, hw, hn, q⟩ := h
  refine ⟨_, (pss_one (ps_ret (pe_ix ix_list (pe_lst (pa_cons pe_int (pa_cons pe_int (pa_cons (pe_op op_add pe_int (pe_call G_law_pick (hr.mono (by decide)) (by rfl) T.law_pick.g T.law_pick.F.kp T.law_pick.b .nil pass0 (pa_cons (pv 0) (pa_cons pe_int pa_nil)))) (pa_cons (pe_op op_add pe_int (pe_call G_law_pick (hr.mono (by decide)) (by rfl) T.law_pick.g T.law_pick.F.kp T.law_pick.b .nil pass0 (pa_cons (pv 0) (pa_cons (pe_op op_powW pe_int pe_int) pa_nil)))) (pa_cons (pe_op op_sub (pe_op op_powW pe_int pe_int) pe_int) pa_nil)))))) (pe_call G_law_pick (hr.mono (by decide)) (by rfl) T.law_pick.g T.law_pick.F.kp T.law_pick.b .nil pass0 (pa_cons (pv 0) (pa_cons pe_int pa_nil))) (fun _ _ => rfl)))), ?_⟩
  refine ⟨.ref p, rfl, p, 9, n, rfl, by decide, by decide, hw, by omega, fun r1 H1 a1 b1 k1 w1 => ⟨_, _, rfl, rfl, ?_⟩⟩
  refine ⟨.ref p, rfl, _, _, rfl, rfl, ⟨by decide, by decide⟩, p, _, n + 1, rfl, by decide, by decide, w1, by omega, fun r2 H2 a2 b2 k2 w2 => ⟨_, _, rfl, rfl, ?_⟩⟩
  refine ⟨_, _, rfl, rfl, ⟨by decide, by decide⟩, _, _, rfl, rfl, by show 5 ≤ sizeLine; decide, fun l nl => ?_⟩
  have hlp : l ∉ [p] := by
    have : p ≠ l := fun e => w2.tr (e ▸ nl)
    simpa using this.symm
  refine ⟨.ref p, rfl, p, 5, n + 2, rfl, by decide, by decide, w2.kp (Kp.new (S := []) nl) (by simp), by omega, fun r3 H3 a3 b3 k3 w3 => ?_⟩
  obtain ⟨v, hv, hm⟩ := at_mem (xs := [.int 1, .int 2, .int (1 + r1), .int (1 + r2), .int (10 ^ (60 : Int).toNat - 1)]) a3 (by simpa using b3)
  refine ⟨l, _, r3, v, rfl, rfl, SqL.of (k3.lst hlp upd_same), hv, ?_⟩
  have kk : Kp [p] H H3 := k1.tr (k2.tr ((Kp.new nl).tr k3))
  have e60 : (10 : Int) ^ (60 : Int).toNat = 10 ^ 60 := by decide
  have e59 : (10 : Int) ^ (59 : Int).toNat < 10 ^ 60 - 1 := by decide
  simp only [List.mem_cons, List.not_mem_nil, or_false] at hm
  rcases hm with rfl | rfl | rfl | rfl | rfl
  · exact q _ _ (by decide) (by decide) kk w3
  · exact q _ _ (by decide) (by decide) kk w3
  · exact q _ _ (by omega) (by omega) kk w3
  · exact q _ _ (by omega) (by omega) kk w3
  · exact q _ _ (by decide) (by decide) kk w3
def spMesh : Sp := fun vs H Q _ => ∃ (p : Addr) (n : Nat), vs = [.ref p] ∧ Wick H p n ∧ n < 98000 ∧ ∀ v H' N, NetOk N → Short N → Nw H H' v (netD N) → Kp [p] H H' → Wick H' p (n + 200) → Q v H'
theorem ok_law_mesh (T : Tx K mg a) : FnOk P w K mg base CX0 3 a.a_law_mesh a.f_law_mesh ["wick"] spMesh := by
  have G_law_pick := ok_law_pick (P := P) (w := w) (base := base) T
  have G_law_burns := ok_law_burns (P := P) (w := w) (base := base) T
  refine T.law_mesh.F.ok sc_law_mesh (fun vs H Q E h => ?_) (fun cdv A outer s H vs Q E hr h => ?_)
  · obtain ⟨p, n, rfl, _⟩ := h
    rfl
  obtain ⟨p, n, rfl, hw, hn, q⟩ := h
  refine ⟨_, (pss_cons (ps_set (i := 1) sc_law_mesh.nd rfl (by first | exact .inl rfl | exact .inr rfl) (pe_ix ix_list (pe_lst (pa_cons (pe_op op_add pe_int (pe_call G_law_pick (hr.mono (by decide)) (by rfl) T.law_pick.g T.law_pick.F.kp T.law_pick.b .nil pass0 (pa_cons (pv 0) (pa_cons pe_int pa_nil)))) (pa_cons (pe_op op_add pe_int (pe_call G_law_pick (hr.mono (by decide)) (by rfl) T.law_pick.g T.law_pick.F.kp T.law_pick.b .nil pass0 (pa_cons (pv 0) (pa_cons pe_int pa_nil)))) (pa_cons pe_int pa_nil)))) (pe_call G_law_pick (hr.mono (by decide)) (by rfl) T.law_pick.g T.law_pick.F.kp T.law_pick.b .nil pass0 (pa_cons (pv 0) (pa_cons pe_int pa_nil))) (fun _ _ => rfl)))
      (pss_cons (ps_set (i := 2) sc_law_mesh.nd rfl (by first | exact .inl rfl | exact .inr rfl) (pe_call G_law_pick (hr.mono (by decide)) (by rfl) T.law_pick.g T.law_pick.F.kp T.law_pick.b .nil pass0 (pa_cons (pv 0) (pa_cons pe_int pa_nil))))
      (pss_cons (ps_set (i := 3) sc_law_mesh.nd rfl (by first | exact .inl rfl | exact .inr rfl) (pe_lst pa_nil))
      (pss_cons (ps_for PassesOwn.never rfl (pi_range1 (by rfl) T.n_range (pa_cons (pv 1) pa_nil)) (pg_name (i := 4) sc_law_mesh.nd rfl (by first | exact .inl rfl | exact .inr rfl)) (pss_cons (ps_set (i := 5) sc_law_mesh.nd rfl (by first | exact .inl rfl | exact .inr rfl) (pe_lst (pa_cons (pe_call G_law_pick (hr.mono (by decide)) (by rfl) T.law_pick.g T.law_pick.F.kp T.law_pick.b .nil pass0 (pa_cons (pv 0) (pa_cons (pv 1) pa_nil))) (pa_cons (pe_op op_mod (pe_op op_add (pv 4) pe_int) (pv 1)) (pa_cons (pe_ix ix_list (pe_lst (pa_cons (pv 4) (pa_cons pe_non pa_nil))) (pe_call G_law_pick (hr.mono (by decide)) (by rfl) T.law_pick.g T.law_pick.F.kp T.law_pick.b .nil pass0 (pa_cons (pv 0) (pa_cons pe_int pa_nil))) (fun _ _ => rfl)) (pa_cons (pe_call G_law_pick (hr.mono (by decide)) (by rfl) T.law_pick.g T.law_pick.F.kp T.law_pick.b .nil pass0 (pa_cons (pv 0) (pa_cons (pe_op op_add (pv 4) pe_int) pa_nil))) pa_nil))))))
      (pss_one (ps_expr (pe_bm PySem.F.plainAttrs_list PySem.F.slot_list_append PySem.F.type_list_append mt_append (pv 3) (pa_cons (pe_tup (pa_cons (pe_call G_law_burns (hr.mono (by decide)) (by rfl) T.law_burns.g T.law_burns.F.kp T.law_burns.b .nil pass0 (pa_cons (pv 0) pa_nil)) (pa_cons (pe_ix ix_list (pv 5) (pe_ix ix_list (pe_lst (pa_cons pe_int (pa_cons pe_int (pa_cons (pe_call G_law_pick (hr.mono (by decide)) (by rfl) T.law_pick.g T.law_pick.F.kp T.law_pick.b .nil pass0 (pa_cons (pv 0) (pa_cons pe_int pa_nil))) (pa_cons (pe_ix ix_list (pe_lst (pa_cons pe_int (pa_cons pe_int (pa_cons pe_int (pa_cons pe_int pa_nil))))) (pe_call G_law_pick (hr.mono (by decide)) (by rfl) T.law_pick.g T.law_pick.F.kp T.law_pick.b .nil pass0 (pa_cons (pv 0) (pa_cons pe_int pa_nil))) (fun _ _ => rfl)) pa_nil))))) (pv 2) (fun _ _ => rfl)) (fun _ _ => rfl)) pa_nil))) pa_nil))))))
      (pss_one (ps_ret (pe_callTy call_tuple_of (by rfl) T.n_tuple (by decide +kernel) (pa_cons (pv 3) pa_nil)))))))), ?_⟩
  -- many = [..][..]
  refine ⟨.ref p, rfl, p, 12, n, rfl, by decide, by decide, hw, by omega, fun r1 H1 a1 b1 k1 w1 => ⟨_, _, rfl, rfl, ?_⟩⟩
  refine ⟨.ref p, rfl, p, 4, n + 1, rfl, by decide, by decide, w1, by omega, fun r2 H2 a2 b2 k2 w2 => ⟨_, _, rfl, rfl, ?_⟩⟩
  refine ⟨by show 3 ≤ sizeLine; decide, fun l nl => ?_⟩
  have hlp : l ∉ [p] := by
    have : p ≠ l := fun e => w2.tr (e ▸ nl)
    simpa using this.symm
  refine ⟨.ref p, rfl, p, 3, n + 2, rfl, by decide, by decide, w2.kp (Kp.new (S := []) nl) (by simp), by omega, fun r3 H3 a3 b3 k3 w3 => ?_⟩
  obtain ⟨mv, hv, hm⟩ := at_mem (xs := [.int (1 + r1), .int (1 + r2), .int 12]) a3 (by simpa using b3)
  refine ⟨l, _, r3, mv, rfl, rfl, SqL.of (k3.lst hlp upd_same), hv, ?_⟩
  have kH3 : Kp [p] H H3 := k1.tr (k2.tr ((Kp.new nl).tr k3))
  obtain ⟨m, rfl, hm1, hm2⟩ : ∃ m : Nat, mv = .int (m : Int) ∧ 1 ≤ m ∧ m ≤ 12 := by
    simp only [List.mem_cons, List.not_mem_nil, or_false] at hm
    rcases hm with rfl | rfl | rfl
    · exact ⟨(1 + r1).toNat, by congr 1; omega, by omega, by omega⟩
    · exact ⟨(1 + r2).toNat, by congr 1; omega, by omega, by omega⟩
    · exact ⟨12, rfl, by decide, by decide⟩
  -- shape = _law_pick(wick, 4)
  refine ⟨.ref p, rfl, p, 4, n + 3, rfl, by decide, by decide, w3, by omega, fun sh H4 a4 b4 k4 w4 => ?_⟩
  -- found = []
  refine ⟨Nat.zero_le _, fun fp nf => ?_⟩
  obtain ⟨H5, e5⟩ : ∃ H5, H5 = upd H4 fp (.lst []) := ⟨_, rfl⟩
  have hf5 : H5 fp = some (.lst []) := by rw [e5]; exact upd_same
  have w5 : Wick H5 p (n + 4) := by rw [e5]; exact w4.kp (Kp.new (S := []) nf) (by simp)
  have kH5 : Kp [p] H H5 := kH3.tr (k4.tr (by rw [e5]; exact Kp.new nf))
  have hfp : fp ∉ [p] := by
    have : p ≠ fp := fun e => w4.tr (e ▸ nf)
    simpa using this.symm
  show (fun H0 => _) (upd H4 fp (.lst []))
  rw [← e5]
  have hp5 : H5 p ≠ none := w5.tr
  have hf5' : H5 fp ≠ none := by rw [hf5]; exact fun q => by cases q
  have hS0 : ∀ s ∈ [fp, p], H5 s ≠ none := fun s z => by
    simp only [List.mem_cons, List.not_mem_nil, or_false] at z
    rcases z with rfl | rfl
    · exact hf5'
    · exact hp5
  -- for k in range(many)
  refine ⟨.int m, rfl, m, rfl, by omega, by omega, for_range (n := m) (fun i σ H' => ∃ (k4 k5 : Option V) (vs : List V) (Nk : Net), σ = [some (.ref p), some (.int m), some (.int sh), some (.ref fp), k4, k5] ∧ H' fp = some (.lst vs) ∧ NwA H5 H' vs (Nk.map lampD) ∧ Nk.length = i ∧ (∀ z ∈ Nk, 1 ≤ z.1 ∧ z.1 < 10 ^ 60 ∧ ∀ y, z.2 = some y → y < m) ∧ Kp [fp, p] H5 H' ∧ Wick H' p (n + 4 + 8 * i)) ⟨none, none, [], [], rfl, hf5, .nil, rfl, fun z hz => (by cases hz), .rfl', w5⟩ (fun i σ H6 hi hP => ?_) (fun σ H6 hP => ?_)⟩
  · obtain ⟨o4, o5, vs, Nk, rfl, hf6, hv6, hl6, hN6, kH6, w6⟩ := hP
    -- some = [..]
    refine ⟨.ref p, rfl, .int m, rfl, p, m, _, rfl, by omega, by omega, w6, by omega, fun q1 H7 a7 b7 k7 w7 => ?_⟩
    refine ⟨.int (0 + i), rfl, _, _, rfl, rfl, .int m, rfl, _, _, rfl, rfl, by omega, ?_⟩
    refine ⟨.int (0 + i), rfl, by show 2 ≤ sizeLine; decide, fun l1 nl1 => ?_⟩
    have c7 : ∀ {b}, H7 b = none → b ∉ [p] := fun {b} nb => by
      have : p ≠ b := fun e => w7.tr (e ▸ nb)
      simpa using this.symm
    refine ⟨.ref p, rfl, p, 2, _, rfl, by decide, by decide, w7.kp (Kp.new (S := []) nl1) (by simp), by omega, fun q2 H8 a8 b8 k8 w8 => ?_⟩
    obtain ⟨v3, hv3, hm3⟩ := at_mem (xs := [.int (0 + i), .non]) a8 (by simpa using b8)
    refine ⟨l1, _, q2, v3, rfl, rfl, SqL.of (k8.lst (c7 nl1) upd_same), hv3, ?_⟩
    have k78 : Kp [p] H7 H8 := (Kp.new nl1).tr k8
    refine ⟨.ref p, rfl, .int (0 + i), rfl, _, _, rfl, rfl, p, _, _, rfl, by omega, by omega, w8, by omega, fun q4 H9 a9 b9 k9 w9 => ?_⟩
    refine ⟨by show 4 ≤ sizeLine; decide, fun sp_ nsp => ?_⟩
    obtain ⟨H10, e10⟩ : ∃ H10, H10 = upd H9 sp_ (.lst [.int q1, .int ((0 + i + 1) % m), v3, .int q4]) := ⟨_, rfl⟩
    rw [← e10]
    have hsp10 : H10 sp_ = some (.lst [.int q1, .int ((0 + i + 1) % m), v3, .int q4]) := by rw [e10]; exact upd_same
    have k910 : Kp [p] H9 H10 := e10 ▸ Kp.new nsp
    have k610 : Kp [p] H6 H10 := k7.tr (k78.tr (k9.tr k910))
    have hspp : sp_ ∉ [p] := by
      have : p ≠ sp_ := fun e => w9.tr (e ▸ nsp)
      simpa using this.symm
    have hf10 : H10 fp = some (.lst vs) := k610.lst hfp hf6
    have w10 : Wick H10 p (n + 4 + 8 * i + 3) := by rw [e10]; exact w9.kp (Kp.new (S := []) nsp) (by simp)
    -- every one of some is a number of a lamp, or none
    have hnx : ∀ v ∈ [V.int q1, .int ((0 + (i : Int) + 1) % m), v3, .int q4], ∃ o : Option Nat, v = nxV o ∧ ∀ y, o = some y → y < m := by
      intro v hv
      simp only [List.mem_cons, List.not_mem_nil, or_false] at hv hm3
      have fin : ∀ z : Int, 0 ≤ z → z < m → ∃ o : Option Nat, V.int z = nxV o ∧ ∀ y, o = some y → y < m := fun z h0 h1 =>
        ⟨some z.toNat, by show V.int z = V.int (z.toNat : Int); congr 1; omega, fun y e => by cases e; omega⟩
      rcases hv with rfl | rfl | rfl | rfl
      · exact fin _ a7 b7
      · exact fin _ (Int.emod_nonneg _ (by omega)) (Int.emod_lt_of_pos _ (by omega))
      · rcases hm3 with rfl | rfl
        · exact fin _ (by omega) (by omega)
        · exact ⟨none, rfl, fun y e => by cases e⟩
      · exact fin _ a9 (by omega)
    -- found.append((_law_burns(wick), some[..]))
    refine ⟨.ref fp, rfl, .inl ⟨rfl, _, SqL.of hf10⟩, ?_⟩
    refine ⟨.ref p, rfl, p, _, rfl, w10, by omega, fun b1 H11 a11 b11 k11 w11 => ?_⟩
    refine ⟨.ref sp_, rfl, ?_⟩
    refine ⟨.ref p, rfl, p, 4, _, rfl, by decide, by decide, w11, by omega, fun q5 H12 a12 b12 k12 w12 => ?_⟩
    refine ⟨by show 4 ≤ sizeLine; decide, fun l2 nl2 => ?_⟩
    have c12 : ∀ {b}, H12 b = none → b ∉ [p] := fun {b} nb => by
      have : p ≠ b := fun e => w12.tr (e ▸ nb)
      simpa using this.symm
    refine ⟨.ref p, rfl, p, 4, _, rfl, by decide, by decide, w12.kp (Kp.new (S := []) nl2) (by simp), by omega, fun q6 H13 a13 b13 k13 w13 => ?_⟩
    obtain ⟨v6, hv6', hm6⟩ := at_mem (xs := [.int 0, .int 0, .int 1, .int 3]) a13 (by simpa using b13)
    refine ⟨l2, _, q6, v6, rfl, rfl, SqL.of (k13.lst (c12 nl2) upd_same), hv6', ?_⟩
    refine ⟨by show 4 ≤ sizeLine; decide, fun l3 nl3 => ?_⟩
    obtain ⟨v7, hv7, hm7⟩ := at_mem (xs := [.int 0, .int 1, .int q5, v6]) a4 (by simpa using b4)
    refine ⟨.int sh, rfl, l3, _, sh, v7, rfl, rfl, SqL.of upd_same, hv7, ?_⟩
    obtain ⟨q7, rfl, a14, b14⟩ : ∃ q7, v7 = .int q7 ∧ 0 ≤ q7 ∧ q7 < 4 := by
      simp only [List.mem_cons, List.not_mem_nil, or_false] at hm6 hm7
      rcases hm7 with rfl | rfl | rfl | rfl
      · exact ⟨_, rfl, by decide, by decide⟩
      · exact ⟨_, rfl, by decide, by decide⟩
      · exact ⟨_, rfl, a12, b12⟩
      · rcases hm6 with rfl | rfl | rfl | rfl <;> exact ⟨_, rfl, by decide, by decide⟩
    obtain ⟨v8, hv8, hm8⟩ := at_mem (xs := [.int q1, .int ((0 + (i : Int) + 1) % m), v3, .int q4]) a14 (by simpa using b14)
    obtain ⟨o8, rfl, ho8⟩ := hnx v8 hm8
    have k1013 : Kp [p] H10 H13 := k11.tr (k12.tr ((Kp.new nl2).tr k13))
    obtain ⟨H14, e14⟩ : ∃ H14, H14 = upd H13 l3 (.lst [.int 0, .int 1, .int q5, v6]) := ⟨_, rfl⟩
    rw [← e14]
    have k1014 : Kp [p] H10 H14 := k1013.tr (e14 ▸ Kp.new nl3)
    have w14 : Wick H14 p (n + 4 + 8 * i + 3 + 3 + 1 + 1) := by rw [e14]; exact w13.kp (Kp.new (S := []) nl3) (by simp)
    refine ⟨sp_, _, q7, nxV o8, rfl, rfl, SqL.of (k1014.lst hspp hsp10), hv8, ?_⟩
    refine ⟨by show 2 ≤ sizeLine; decide, fun tp ntp => ?_⟩
    obtain ⟨H15, e15⟩ : ∃ H15, H15 = upd H14 tp (.tup [.int b1, nxV o8]) := ⟨_, rfl⟩
    rw [← e15]
    have k1415 : Kp [] H14 H15 := e15 ▸ Kp.new ntp
    have k615 : Kp [p] H6 H15 := k610.tr (k1014.tr k1415.of0)
    have hf15 : H15 fp = some (.lst vs) := k615.lst hfp hf6
    have lvs : vs.length = i := by
      have e := (hv6 [] (fun s z => by cases z)).len
      rw [List.length_map] at e
      omega
    refine ⟨fp, vs, .ref tp, rfl, rfl, hf15, Nat.lt_of_lt_of_le (show vs.length < 1000 by omega) (by decide), ?_⟩
    obtain ⟨H16, e16⟩ : ∃ H16, H16 = upd H15 fp (.lst (vs ++ [.ref tp])) := ⟨_, rfl⟩
    rw [← e16]
    have k1516 : Kp [fp] H15 H16 := e16 ▸ Kp.put (by simp) hf15 (fun ps e => by cases e)
    have k615' : Kp [fp, p] H6 H15 := k615.wk fun x z => by simp only [List.mem_cons, List.not_mem_nil, or_false] at z ⊢; exact .inr z
    have k1516' : Kp [fp, p] H15 H16 := k1516.wk fun x z => by simp only [List.mem_cons, List.not_mem_nil, or_false] at z ⊢; exact .inl z
    have k616 : Kp [fp, p] H6 H16 := k615'.tr k1516'
    have hpf : p ∉ [fp] := by
      have : p ≠ fp := fun e => hfp (by simp [e])
      simpa using this
    have trA : ∀ b, H5 b ≠ none → H14 b ≠ none := fun b h => k1014.tr_ b (k610.tr_ b (kH6.tr_ b h))
    have hnew : Nw H5 H16 (.ref tp) (lampD (b1, o8)) := by
      refine Nw.kpS (S0 := [fp, p]) ?_ k1516' hS0
      rw [e15]
      refine Nw.tup trA ntp (.cons (.int b1) (.cons ?_ .nil))
      cases o8 with
      | none => exact .non
      | some y => exact .int _
    refine ⟨some (.int (0 + i)), some (.ref sp_), vs ++ [.ref tp], Nk ++ [(b1, o8)], rfl, by rw [e16]; exact upd_same, ?_, by rw [List.length_append, hl6]; rfl, fun z hz => ?_, kH6.tr k616, ?_⟩
    · rw [List.map_append]
      exact (hv6.kpS k616 hS0).app (.cons hnew .nil)
    · rcases List.mem_append.mp hz with hz | hz
      · exact hN6 z hz
      · obtain rfl : z = (b1, o8) := by simpa using hz
        exact ⟨a11, b11, fun y e => ho8 y e⟩
    · exact ((w14.kp k1415 (by simp)).kp k1516 hpf).mono (by omega)
  · obtain ⟨o4, o5, vs, Nk, rfl, hf6, hv6, hl6, hN6, kH6, w6⟩ := hP
    refine ⟨.ref fp, rfl, fp, vs, rfl, .inl ⟨SqL.of hf6, fun tp ntp => ?_⟩⟩
    obtain ⟨H7, e7⟩ : ∃ H7, H7 = upd H6 tp (.tup vs) := ⟨_, rfl⟩
    rw [← e7]
    have k67 : Kp [] H6 H7 := e7 ▸ Kp.new ntp
    have okN : NetOk Nk := ⟨by omega, by omega, fun z hz => (hN6 z hz).1, fun z hz y e => by rw [hl6]; exact (hN6 z hz).2.2 y e⟩
    refine q (.ref tp) H7 Nk okN (fun z hz => (hN6 z hz).2.1) ?_ ?_ ?_
    · rw [e7]
      exact Nw.tup (fun b h => kH6.tr_ b (kH5.tr_ b h)) ntp (hv6.old kH5.tr_)
    · have hfH : H fp = none := by
        cases e : H fp with
        | none => rfl
        | some o => exact absurd nf ((kH3.tr k4).tr_ fp (by rw [e]; exact fun q => by cases q))
      exact Kp.drop hfH ((kH5.wk fun x z => List.mem_cons_of_mem _ z).tr (kH6.tr k67.of0))
    · exact (w6.kp k67 (by simp)).mono (by omega)
end

/-! ### the law's own way -/
section
variable {P : Program} {w : World} {K : PySem.W.Frag} {mg : Str → Option Value} {base : Heap} {a : Ad}
def spLawWay : Sp := fun vs H Q _ => ∃ (S : List Addr) (v : V) (N : Net) (x : Nat), vs = [v, .int x] ∧ Dx S H v (netD N) ∧ NetOk N ∧ x < N.length ∧ ∀ v' H', Kp [] H H' → Nw H H' v' (wayD N x) → Q v' H'
theorem ok_law_way (T : Tx K mg a) : FnOk P w K mg base CX0 1 a.a_law_way a.f_law_way ["mesh", "spot"] spLawWay := by
  refine T.law_way.F.ok sc_law_way (fun vs H Q E h => ?_) (fun cdv A outer s H vs Q E hr h => ?_)
  · obtain ⟨S, v, N, x, rfl, _⟩ := h
    rfl
  obtain ⟨S, v, N, x, rfl, hd, ok, hx, q⟩ := h
  refine ⟨_, (pss_cons (ps_set (i := 2) sc_law_way.nd rfl (by first | exact .inl rfl | exact .inr rfl) (pe_lst (pa_cons (pv 1) pa_nil)))
      (pss_cons (ps_for PassesOwn.never rfl (pi_range1 (by rfl) T.n_range (pa_cons (pe_callB call_len_seq (by rfl) T.n_len (by decide +kernel) (pa_cons (pv 0) pa_nil)) pa_nil)) (pg_name (i := 3) sc_law_way.nd rfl (by first | exact .inl rfl | exact .inr rfl)) (pss_cons (ps_set (i := 4) sc_law_way.nd rfl (by first | exact .inl rfl | exact .inr rfl) (pe_ix ix_tup (pe_ix ix_tup (pv 0) (pe_ix ix_list (pv 2) (pe_un un_neg pe_int) (fun _ _ => rfl)) (fun _ _ => rfl)) pe_int (fun _ _ => rfl)))
      (pss_one (ps_if (PW.pt (pw_and (pt_cmpR op_notN (pv 4) pe_non (nomark _)) (pw_and1 (pt_cmpR op_notIn_seq (pv 4) (pv 2) (by rfl))))) (pss_one (ps_expr (pe_bm PySem.F.plainAttrs_list PySem.F.slot_list_append PySem.F.type_list_append mt_append (pv 2) (pa_cons (pv 4) pa_nil)))) pss_nil))))
      (pss_cons (ps_set (i := 5) sc_law_way.nd rfl (by first | exact .inl rfl | exact .inr rfl) (pe_ix ix_tup (pe_ix ix_tup (pv 0) (pe_ix ix_list (pv 2) (pe_un un_neg pe_int) (fun _ _ => rfl)) (fun _ _ => rfl)) pe_int (fun _ _ => rfl)))
      (pss_cons (ps_set (i := 6) sc_law_way.nd rfl (by first | exact .inl rfl | exact .inr rfl) (pe_ifExp (pt_cmpR op_isN (pv 5) pe_non (nomark _)) (pe_callB call_len_seq (by rfl) T.n_len (by decide +kernel) (pa_cons (pv 2) pa_nil)) (pe_bm PySem.F.plainAttrs_list PySem.F.slot_list_index PySem.F.type_list_index mt_index (pv 2) (pa_cons (pv 5) pa_nil))))
      (pss_one (ps_ret (pe_tup (pa_cons (pe_callTy call_tuple_of (by rfl) T.n_tuple (by decide +kernel) (pa_cons (pe_slice sl_list (pv 2) po_none (po_some (pv 6))) pa_nil)) (pa_cons (pe_callTy call_tuple_of (by rfl) T.n_tuple (by decide +kernel) (pa_cons (pe_slice sl_list (pv 2) (po_some (pv 6)) po_none) pa_nil)) pa_nil))))))))), ?_⟩
  have h12 := ok.hi
  obtain ⟨ad, xs, rfl, _, h1, hl1, _⟩ := net_at hd
  -- been = [spot]
  refine ⟨.int x, rfl, by show 1 ≤ sizeLine; decide, fun gp ng => ?_⟩
  obtain ⟨Hb, eb⟩ : ∃ Hb : List Nat → Hp, Hb = fun g => upd H gp (.lst (natV g)) := ⟨_, rfl⟩
  have kb : ∀ g, Kp [] H (Hb g) := fun g => by rw [eb]; exact Kp.new ng
  have hgp : ∀ g, Hb g gp = some (.lst (natV g)) := fun g => by rw [eb]; exact upd_same
  have hdb : ∀ g, Dx S (Hb g) (.ref ad) (netD N) := fun g => hd.kp (kb g) fun _ z => by cases z
  have hup : ∀ g g', upd (Hb g) gp (.lst (natV g')) = Hb g' := fun g g' => by rw [eb]; exact upd_upd
  have e0 : upd H gp (.lst [.int (x : Int)]) = Hb [x] := by rw [eb]; rfl
  rw [e0]
  have hat : ∀ g, Hb g ad = some (.tup xs) := fun g => (kb g).tup (by simp) h1
  -- for turn in range(len(mesh))
  refine ⟨.ref ad, rfl, ad, xs, rfl, .inr (SqT.of (hat _)), N.length, by rw [hl1], by omega, by omega, for_range (n := N.length) (fun i σ H' => ∃ (o3 o4 : Option V) (g : List Nat), σ = [some (.ref ad), some (.int x), some (.ref gp), o3, o4, none, none] ∧ H' = Hb g ∧ Been N x i g) ⟨none, none, [x], rfl, rfl, Been.start hx⟩ (fun i σ H6 hi hP => ?_) (fun σ H6 hP => ?_)⟩
  · obtain ⟨o3, o4, g, rfl, rfl, hg⟩ := hP
    have hlt := last_lt hg
    obtain ⟨p, hp⟩ : ∃ p, N[lastOf g]? = some p := ⟨N[lastOf g], List.getElem?_eq_getElem hlt⟩
    obtain ⟨ad2, xs2, e2, _, h2, hl2, hat2⟩ := net_at (hdb g)
    cases e2
    obtain ⟨la, hxl, _, h3⟩ := hat2 _ p hp
    refine ⟨.ref ad, rfl, .ref gp, rfl, 1, rfl, gp, natV g, -1, _, rfl, rfl, SqL.of (hgp g), natV_last hg, ad, xs2, lastOf g, .ref la, rfl, rfl, SqT.of h2, atI_nat hxl, la, _, 1, nxV p.2, rfl, rfl, SqT.of h3, atI_nat (j := 1) rfl, ?_⟩
    rw [← nxt_get hp]
    cases z : nxt N (lastOf g) with
    | none =>
      refine ⟨.non, rfl, rfl, _, rfl, iteF ?_⟩
      exact ⟨some (.int (0 + i)), some .non, g, rfl, rfl, hg.still (step_none z)⟩
    | some y =>
      refine ⟨.int y, rfl, rfl, _, rfl, iteT ?_⟩
      refine ⟨.int y, rfl, .ref gp, rfl, gp, natV g, rfl, .inl (SqL.of (hgp g)), rfl, natV_flat g, _, rfl, ?_⟩
      show if (!inV (.int (y : Int)) (natV g)) = true then _ else _
      rw [inV_natV]
      by_cases hn : y ∈ g
      · rw [decide_eq_true hn]
        exact iteF ⟨some (.int (0 + i)), some (.int y), g, rfl, rfl, hg.still (step_in z hn)⟩
      · rw [decide_eq_false hn]
        have hle := hg.le
        refine iteT ⟨.ref gp, rfl, .inl ⟨rfl, _, SqL.of (hgp g)⟩, .int y, rfl, gp, natV g, .int y, rfl, rfl, hgp g, Nat.lt_of_lt_of_le (show (natV g).length < 1000 by rw [natV_len]; omega) (by decide), ?_⟩
        rw [← natV_app, hup]
        exact ⟨some (.int (0 + i)), some (.int y), g ++ [y], rfl, rfl, hg.more ok z hn⟩
  · obtain ⟨o3, o4, g, rfl, rfl, hg⟩ := hP
    have hlt := last_lt hg
    obtain ⟨hpa, hst⟩ := hg.done
    obtain ⟨p, hp⟩ : ∃ p, N[lastOf g]? = some p := ⟨N[lastOf g], List.getElem?_eq_getElem hlt⟩
    obtain ⟨ad2, xs2, e2, _, h2, hl2, hat2⟩ := net_at (hdb g)
    cases e2
    obtain ⟨la, hxl, _, h3⟩ := hat2 _ p hp
    refine ⟨.ref ad, rfl, .ref gp, rfl, 1, rfl, gp, natV g, -1, _, rfl, rfl, SqL.of (hgp g), natV_last hg, ad, xs2, lastOf g, .ref la, rfl, rfl, SqT.of h2, atI_nat hxl, la, _, 1, nxV p.2, rfl, rfl, SqT.of h3, atI_nat (j := 1) rfl, ?_⟩
    rw [← nxt_get hp]
    rcases z : nxt N (lastOf g) with _ | y
    case' none =>
      obtain ⟨c, hcl, hcc, hce⟩ : ∃ c : Nat, c ≤ g.length ∧ cutAt N (path N x) = c ∧ (natV g).length = c := ⟨g.length, Nat.le_refl _, by rw [hpa]; unfold cutAt; rw [z], natV_len g⟩
      refine ⟨.non, rfl, rfl, _, rfl, iteT ⟨.ref gp, rfl, gp, natV g, rfl, .inl (SqL.of (hgp g)), ?_⟩⟩
      rw [hce]
    case' some =>
      have hn := step_mem z hst
      have hix : g.idxOf y < g.length := List.idxOf_lt_length_iff.mpr hn
      have hge : g[g.idxOf y]? = some y := by rw [List.getElem?_eq_getElem hix, List.getElem_idxOf hix]
      obtain ⟨c, hcl, hcc, hce⟩ : ∃ c : Nat, c ≤ g.length ∧ cutAt N (path N x) = c ∧ g.idxOf y = c := ⟨g.idxOf y, Nat.le_of_lt hix, by rw [hpa]; unfold cutAt; rw [z], rfl⟩
      refine ⟨.int y, rfl, rfl, _, rfl, iteF ⟨.ref gp, rfl, .inl ⟨rfl, _, SqL.of (hgp g)⟩, .int y, rfl, gp, natV g, .int y, g.idxOf y, .int y, rfl, rfl, SqL.of (hgp g), rfl, natV_flat g, natV_get hge, by show ((y : Int) == (y : Int)) = true; simp, fun j z hj hz => ?_, ?_⟩⟩
      · obtain ⟨u, hu, rfl⟩ : ∃ u, g[j]? = some u ∧ z = .int (u : Int) := by
          unfold natV at hz
          rw [List.getElem?_map] at hz
          cases q1 : g[j]? with
          | none => rw [q1] at hz; cases hz
          | some u => rw [q1] at hz; exact ⟨u, rfl, (Option.some.inj hz).symm⟩
        show ((u : Int) == (y : Int)) = false
        have hne : u ≠ y := idx_ne hj hu
        simp only [beq_eq_false_iff_ne]
        omega
      rw [hce]
    all_goals
      refine ⟨.ref gp, rfl, .int (c : Nat), rfl, _, rfl, gp, natV g, rfl, SqL.of (hgp g), fun p1 n1 => ?_⟩
      obtain ⟨H1, e1⟩ : ∃ H1, H1 = upd (Hb g) p1 (.lst (cutV (natV g) none (some (c : Nat)))) := ⟨_, rfl⟩
      rw [← e1]
      have k1 : Kp [] (Hb g) H1 := e1 ▸ Kp.new n1
      refine ⟨p1, _, rfl, .inl ⟨SqL.of (by rw [e1]; exact upd_same), fun t1 nt1 => ?_⟩⟩
      rw [natV_cut0 hcl]
      obtain ⟨H2, e2⟩ : ∃ H2, H2 = upd H1 t1 (.tup (natV (g.take c))) := ⟨_, rfl⟩
      rw [← e2]
      have k2 : Kp [] H1 H2 := e2 ▸ Kp.new nt1
      have w1 : Nw H H2 (.ref t1) (natsD (g.take c)) := by
        rw [e2]
        exact Nw.tup ((kb g).tr k1).tr_ nt1 (nwA_natV _)
      have hgp2 : H2 gp = some (.lst (natV g)) := (k1.tr k2).lst (by simp) (hgp g)
      refine ⟨.ref gp, rfl, .int (c : Nat), rfl, _, rfl, gp, natV g, rfl, SqL.of hgp2, fun p2 n2 => ?_⟩
      obtain ⟨H3, e3⟩ : ∃ H3, H3 = upd H2 p2 (.lst (cutV (natV g) (some (c : Nat)) none)) := ⟨_, rfl⟩
      rw [← e3]
      have k3 : Kp [] H2 H3 := e3 ▸ Kp.new n2
      refine ⟨p2, _, rfl, .inl ⟨SqL.of (by rw [e3]; exact upd_same), fun t2 nt2 => ?_⟩⟩
      rw [natV_cut1 hcl]
      obtain ⟨H4, e4⟩ : ∃ H4, H4 = upd H3 t2 (.tup (natV (g.drop c))) := ⟨_, rfl⟩
      rw [← e4]
      have k4 : Kp [] H3 H4 := e4 ▸ Kp.new nt2
      have kh4 : Kp [] H H4 := (kb g).tr (k1.tr (k2.tr (k3.tr k4)))
      have w2 : Nw H H4 (.ref t2) (natsD (g.drop c)) := by
        rw [e4]
        exact Nw.tup ((kb g).tr (k1.tr (k2.tr k3))).tr_ nt2 (nwA_natV _)
      refine ⟨by show 2 ≤ sizeLine; decide, fun t3 n3 => q _ _ (kh4.tr (Kp.new n3)) ?_⟩
      have e5 : wayD N x = .tuple [natsD (g.take c), natsD (g.drop c)] := by
        unfold wayD wayA wayR
        rw [hcc, hpa]
      rw [e5]
      exact Nw.tup kh4.tr_ n3 (.cons (w1.kp (k3.tr k4)) (.cons w2 .nil))
end

/-! ### rings, lap_of -/
section
variable {P : Program} {w : World} {K : PySem.W.Frag} {mg : Str → Option Value} {base : Heap} {a : Ad}
def spRings (TB : Addr) : Sp := fun vs H Q _ => ∃ (S : List Addr) (v : V) (N : Net), vs = [v] ∧ Dx S H v (netD N) ∧ NetOk N ∧ GxR.TabG H TB ∧ ∀ v' H', Kp [] H H' → Nw H H' v' (ringsD N) → Q v' H'
theorem ok_rings (T : Tx K mg a) (TB : GxR.TabB base mg a.cd_is_net a.tb_is_net) : FnOk P w K mg base CX0 9 a.a_rings a.f_rings ["net"] (spRings a.tb_is_net) := by
  have G_need_net := ok_need_net (P := P) (w := w) (base := base) T TB
  have G_way_of := ok_way_of (P := P) (w := w) (base := base) T TB
  refine T.rings.F.ok sc_rings (fun vs H Q E h => ?_) (fun cdv A outer s H vs Q E hr h => ?_)
  · obtain ⟨S, v, N, rfl, _⟩ := h
    rfl
  obtain ⟨S, v, N, rfl, hd, ok, ht, q⟩ := h
  refine ⟨_, (pss_cons (ps_expr (pe_call G_need_net (hr.mono (by decide)) (by rfl) T.need_net.g T.need_net.F.kp T.need_net.b .nil pass0 (pa_cons (pv 0) pa_nil)))
      (pss_cons (ps_set (i := 1) sc_rings.nd rfl (by first | exact .inl rfl | exact .inr rfl) (pe_lst pa_nil))
      (pss_cons (ps_for PassesOwn.never rfl (pi_range1 (by rfl) T.n_range (pa_cons (pe_callB call_len_seq (by rfl) T.n_len (by decide +kernel) (pa_cons (pv 0) pa_nil)) pa_nil)) (pg_name (i := 2) sc_rings.nd rfl (by first | exact .inl rfl | exact .inr rfl)) (pss_cons (ps_asg (pe_call G_way_of (hr.mono (by decide)) (by rfl) T.way_of.g T.way_of.F.kp T.way_of.b .nil pass0 (pa_cons (pv 0) (pa_cons (pv 2) pa_nil))) (pg_tup (by rfl) (pgs_cons (pg_name (i := 3) sc_rings.nd rfl (by first | exact .inl rfl | exact .inr rfl)) (pgs_cons (pg_name (i := 4) sc_rings.nd rfl (by first | exact .inl rfl | exact .inr rfl)) pgs_nil))))
      (pss_one (ps_if (PW.pt (pw_and (pt_truth (pv 4) (by intro _; rfl)) (pw_and1 (pt_cmpR op_eq (pv 2) (pe_callB (cr_minT rfl) (by rfl) T.n_min (by decide +kernel) (pa_cons (pv 4) pa_nil)) (nomark _))))) (pss_one (ps_expr (pe_bm PySem.F.plainAttrs_list PySem.F.slot_list_append PySem.F.type_list_append mt_append (pv 1) (pa_cons (pv 4) pa_nil)))) pss_nil))))
      (pss_one (ps_ret (pv 1)))))), ?_⟩
  have h12 := ok.hi
  have noS : ∀ {x : Addr}, x ∈ ([] : List Addr) → x ∈ S := fun z => by cases z
  -- need_net(net)
  refine ⟨v, rfl, S, v, N, rfl, hd, ok, ht, fun Ha ka => ?_⟩
  have hda : Dx S Ha v (netD N) := hd.kp ka fun _ => noS
  obtain ⟨ad, xs, rfl, _, hx1, hl1, _⟩ := net_at hda
  -- found = []
  refine ⟨Nat.zero_le _, fun fp nf => ?_⟩
  obtain ⟨H1, e1⟩ : ∃ H1, H1 = upd Ha fp (.lst []) := ⟨_, rfl⟩
  rw [← e1]
  have k1 : Kp [] Ha H1 := e1 ▸ Kp.new nf
  have hf1 : H1 fp = some (.lst []) := by rw [e1]; exact upd_same
  have hd1 : Dx (fp :: S) H1 (.ref ad) (netD N) := (hda.ap nf).kp k1 fun _ z => by cases z
  have ht1 := k1.tab _ (ka.tab _ ht)
  have hfH : H fp = none := by
    cases e : H fp with
    | none => rfl
    | some o => exact absurd nf (ka.tr_ fp (by rw [e]; exact fun q => by cases q))
  have kH1 : Kp [] H H1 := ka.tr k1
  have hf1n : ∀ s ∈ [fp], H1 s ≠ none := fun s z => by
    obtain rfl : s = fp := by simpa using z
    rw [hf1]
    exact fun q => by cases q
  have hS1 : ∀ {x : Addr}, x ∈ [fp] → x ∈ fp :: S := fun z => by
    obtain rfl := List.mem_singleton.mp z
    exact List.mem_cons_self
  -- for lamp in range(len(net))
  refine ⟨.ref ad, rfl, ad, xs, rfl, .inr (SqT.of (k1.tup (by simp) hx1)), N.length, by rw [hl1], by omega, by omega, for_range (n := N.length) (fun i σ H' => ∃ (o2 o3 o4 : Option V) (vs : List V), σ = [some (.ref ad), some (.ref fp), o2, o3, o4] ∧ H' fp = some (.lst vs) ∧ NwA H1 H' vs ((ringsL N i).map (ringD N)) ∧ Kp [fp] H1 H') ⟨none, none, none, [], rfl, hf1, .nil, .rfl'⟩ (fun i σ H2 hi hP => ?_) (fun σ H2 hP => ?_)⟩
  · obtain ⟨o2, o3, o4, vs, rfl, hf2, hv2, k2⟩ := hP
    have ei : (0 + (i : Int)) = (i : Int) := by omega
    rw [ei]
    have hd2 := hd1.kp k2 fun _ => hS1
    -- _, ring = way_of(net, lamp)
    refine ⟨.ref ad, rfl, .int i, rfl, fp :: S, .ref ad, N, i, rfl, hd2, ok, hi, k2.tab _ ht1, fun vw H3 k3 nw => ?_⟩
    obtain ⟨xa, xb, xc, rfl, _, ha, hb, hc, _, _⟩ := way_at (nw [] fun _ z => by cases z)
    refine ⟨xa, _, rfl, SqT.of ha, rfl, _, _, rfl, _, _, rfl, rfl, ?_⟩
    have hf3 : H3 fp = some (.lst vs) := k3.lst (by simp) hf2
    have k23 : Kp [fp] H1 H3 := k2.tr k3.of0
    have hv3 := hv2.kp k3
    -- if ring and lamp == min(ring)
    have hnR := (way_new nw ha).2
    have eNat : natV (wayR N i) = ((wayR N i).map fun n : Nat => (n : Int)).map V.int := by unfold natV; rw [List.map_map]; rfl
    have tru : TruV K (.ref xc) H3 (!decide (wayR N i = [])) := by
      refine .inr (.inl ⟨_, SqT.of hc, ?_⟩)
      cases wayR N i with
      | nil => rfl
      | cons _ _ => rfl
    refine ⟨.ref xc, rfl, _, tru, ?_⟩
    have still : rootB N i = false → ∃ (o2 o3 o4 : Option V) (vs' : List V), [some (V.ref ad), some (.ref fp), some (.int (i : Int)), some (.ref xb), some (.ref xc)] = [some (V.ref ad), some (.ref fp), o2, o3, o4] ∧ H3 fp = some (.lst vs') ∧ NwA H1 H3 vs' ((ringsL N (i + 1)).map (ringD N)) ∧ Kp [fp] H1 H3 := fun e => by
      refine ⟨_, _, _, vs, rfl, hf3, ?_, k23⟩
      rw [ringsL_succ, e]
      exact hv3
    by_cases hne : wayR N i = []
    · rw [decide_eq_true hne]
      refine iteF (iteF (still ?_))
      cases z : rootB N i with
      | false => rfl
      | true =>
        have := (root_iff.mp z).1
        rw [hne] at this
        cases this
    · rw [decide_eq_false hne]
      refine iteT ⟨.int i, rfl, .ref xc, rfl, xc, (wayR N i).map fun n : Nat => (n : Int), rfl, by rw [← eNat]; exact SqT.of hc, ?_, fun m hm1 hm2 => ?_⟩
      · rw [List.length_map]
        exact List.length_pos_iff.mpr hne
      have em : decide (V.int (i : Int) = V.int m) = rootB N i := by
        rw [← root_min hm1 hm2]
        exact decide_eq_decide.mpr ⟨fun e => by cases e; rfl, fun e => by rw [e]⟩
      refine ⟨rfl, _, rfl, ?_⟩
      rw [em]
      cases z : rootB N i with
      | false => exact iteF (still z)
      | true =>
        have lvs : vs.length ≤ i := by
          have e := (hv2 [] (fun s z => by cases z)).len
          rw [List.length_map] at e
          have := ringsL_len N i
          omega
        refine iteT ⟨.ref fp, rfl, .inl ⟨rfl, _, SqL.of hf3⟩, .ref xc, rfl, fp, vs, .ref xc, rfl, rfl, hf3, Nat.lt_of_lt_of_le (show vs.length < 1000 by omega) (by decide), ?_⟩
        obtain ⟨H4, e4⟩ : ∃ H4, H4 = upd H3 fp (.lst (vs ++ [.ref xc])) := ⟨_, rfl⟩
        rw [← e4]
        have k4 : Kp [fp] H3 H4 := e4 ▸ Kp.put (by simp) hf3 (fun ps e => by cases e)
        refine ⟨_, _, _, vs ++ [.ref xc], rfl, by rw [e4]; exact upd_same, ?_, k23.tr k4⟩
        rw [ringsL_succ, z, if_pos rfl, List.map_append]
        exact (hv3.kpS k4 hf1n).app (.cons ((hnR.old k2.tr_).kpS k4 hf1n) .nil)
  · obtain ⟨o2, o3, o4, vs, rfl, hf2, hv2, k2⟩ := hP
    refine ⟨.ref fp, rfl, q _ _ (Kp.drop hfH ((kH1.wk fun _ z => by cases z).tr k2)) ?_⟩
    intro S2 hS2
    have hn : fp ∉ S2 := fun z => hS2 _ z hfH
    exact .lst hn hf2 ((hv2.old kH1.tr_) S2 hS2)
def spLap (TB : Addr) : Sp := fun vs H Q _ => ∃ (S : List Addr) (v : V) (N : Net) (x : Nat), vs = [v, .int x] ∧ Dx S H v (netD N) ∧ NetOk N ∧ x < N.length ∧ GxR.TabG H TB ∧ ∀ v' H' d, Kp [] H H' → Nw H H' v' d → LapD N x d → Q v' H'
theorem ok_lap_of (T : Tx K mg a) (TB : GxR.TabB base mg a.cd_is_net a.tb_is_net) : FnOk P w K mg base CX0 9 a.a_lap_of a.f_lap_of ["net", "lamp"] (spLap a.tb_is_net) := by
  have G_way_of := ok_way_of (P := P) (w := w) (base := base) T TB
  refine T.lap_of.F.ok sc_lap_of (fun vs H Q E h => ?_) (fun cdv A outer s H vs Q E hr h => ?_)
  · obtain ⟨S, v, N, x, rfl, _⟩ := h
    rfl
  obtain ⟨S, v, N, x, rfl, hd, ok, hx, ht, q⟩ := h
  refine ⟨_, (pss_cons (ps_asg (pe_call G_way_of (hr.mono (by decide)) (by rfl) T.way_of.g T.way_of.F.kp T.way_of.b .nil pass0 (pa_cons (pv 0) (pa_cons (pv 1) pa_nil))) (pg_tup (by rfl) (pgs_cons (pg_name (i := 2) sc_lap_of.nd rfl (by first | exact .inl rfl | exact .inr rfl)) (pgs_cons (pg_name (i := 3) sc_lap_of.nd rfl (by first | exact .inl rfl | exact .inr rfl)) pgs_nil))))
      (pss_cons (ps_if (pt_not (pt_truth (pv 3) (by intro _; rfl))) (pss_one (ps_ret pe_non)) pss_nil)
      (pss_cons (ps_setLc (i := 4) (own := [("at", 5)]) (g := gName 5) (by rfl) sc_lap_of.nd rfl rfl (sw_true rfl rfl rfl (by decide +kernel)) (pi_tup (pv 3)) (blkOk_by (own := [("at", 5)]) (N := s_lap_of_N) (sc := defScope s_lap_of) (by decide +kernel)) (fun _ _ _ _ _ => (pg_name (i := 5) sc_lap_of.nd rfl (by first | exact .inl rfl | exact .inr rfl))) (fun _ _ _ _ _ => pts_nil) (fun _ _ _ _ _ => (pe_ix (ix_tupK (K := K) rfl) (pe_ix (ix_tupK (K := K) rfl) (pv 0) (pv 5) (fun _ _ => rfl)) pe_int (fun _ _ => rfl))))
      (pss_one (ps_ret (pe_tup (pa_cons (pe_callB (cr_sum rfl) (by rfl) T.n_sum (by decide +kernel) (pa_cons (pv 4) pa_nil)) (pa_cons (pe_callB (cr_max rfl) (by rfl) T.n_max (by decide +kernel) (pa_cons (pv 4) pa_nil)) pa_nil)))))))), ?_⟩
  refine ⟨v, rfl, .int x, rfl, S, v, N, x, rfl, hd, ok, hx, ht, fun vw H1 k1 nw => ?_⟩
  obtain ⟨xa, xb, xc, rfl, _, ha, hb, hc, _, _⟩ := way_at (nw [] fun _ z => by cases z)
  refine ⟨xa, _, rfl, SqT.of ha, rfl, _, _, rfl, _, _, rfl, rfl, ?_⟩
  have tru : TruV K (.ref xc) H1 (!decide (wayR N x = [])) := by
    refine .inr (.inl ⟨_, SqT.of hc, ?_⟩)
    cases wayR N x with
    | nil => rfl
    | cons _ _ => rfl
  refine ⟨.ref xc, rfl, _, tru, ?_⟩
  by_cases hne : wayR N x = []
  · rw [decide_eq_true hne]
    exact iteT (q .non H1 .none k1 .non (.inl ⟨hne, rfl⟩))
  rw [decide_eq_false hne]
  refine iteF ?_
  have hd1 : Dx S H1 v (netD N) := hd.kp k1 fun _ z => by cases z
  have hsub := way_sub ok hx
  -- lengths = [net[at][0] for at in ring]
  refine ⟨.ref xc, rfl, xc, rfl, ⟨_, SqT.of hc⟩, fun D nD => ?_⟩
  have lenR : (wayR N x).length ≤ 13 := by
    have := way_len ok x
    rw [natV_len, natV_len] at this
    omega
  have kD : ∀ l, Kp [] H1 (upd H1 D (.lst l)) := fun l => Kp.new nD
  refine lc_tup (xs := natV (wayR N x)) (fun j H' => H' = upd H1 D (.lst (((lensR N x).take j).map V.int))) ?_ (fun j H' _ e => ?_) (fun j y H' hy e => ?_) (fun H' e => ?_)
  · rfl
  · rw [e]
    exact SqT.of ((kD _).tup (by simp) hc)
  · rw [e]
    obtain ⟨z, hz, rfl⟩ : ∃ z : Nat, (wayR N x)[j]? = some z ∧ y = .int (z : Int) := by
      unfold natV at hy
      rw [List.getElem?_map] at hy
      cases q1 : (wayR N x)[j]? with
      | none => rw [q1] at hy; cases hy
      | some u => rw [q1] at hy; exact ⟨u, rfl, (Option.some.inj hy).symm⟩
    have hj := (List.getElem?_eq_some_iff.mp hz).1
    have hzN := hsub z (List.mem_of_getElem? hz)
    obtain ⟨p, hp⟩ : ∃ p, N[z]? = some p := ⟨N[z], List.getElem?_eq_getElem hzN⟩
    obtain ⟨ad, xs, rfl, _, h2, hl2, hat⟩ := net_at (hd1.kp (kD (((lensR N x).take j).map V.int)) fun _ z => by cases z)
    obtain ⟨la, hxl, _, h3⟩ := hat z p hp
    refine ⟨rfl, .ref ad, rfl, .int z, rfl, ad, xs, z, .ref la, rfl, rfl, SqT.of h2, atI_nat hxl, la, _, 0, .int p.1, rfl, rfl, SqT.of h3, atI_nat (j := 0) rfl, ?_⟩
    refine ⟨_, upd_same, Nat.lt_of_le_of_lt (m := 13) (by rw [List.length_map, List.length_take]; unfold lensR; rw [List.length_map]; omega) (by decide), ?_⟩
    rw [upd_upd]
    have e2 : (lensR N x)[j]? = some p.1 := by
      unfold lensR
      rw [List.getElem?_map, hz]
      show some (lenOf N z) = _
      rw [lenOf_get hp]
    have e3 : (lensR N x).take (j + 1) = (lensR N x).take j ++ [p.1] := by rw [List.take_add_one, e2]; rfl
    rw [e3, List.map_append]
    rfl
  · rw [e, natV_len, List.take_of_length_le (by unfold lensR; rw [List.length_map]; exact Nat.le_refl _)]
    have k2 := kD ((lensR N x).map V.int)
    have hD : (upd H1 D (.lst ((lensR N x).map V.int))) D = some (.lst ((lensR N x).map V.int)) := upd_same
    have hne2 : 0 < (lensR N x).length := by
      unfold lensR
      rw [List.length_map]
      exact List.length_pos_iff.mpr hne
    obtain ⟨H2, e2⟩ : ∃ H2, H2 = upd H1 D (.lst ((lensR N x).map V.int)) := ⟨_, rfl⟩
    rw [← e2] at k2 hD ⊢
    refine ⟨.ref D, rfl, D, lensR N x, rfl, SqL.of hD, .ref D, rfl, D, lensR N x, rfl, SqL.of hD, hne2, fun m hm1 hm2 => ?_⟩
    refine ⟨by show 2 ≤ sizeLine; decide, fun t nt => q _ _ _ (k1.tr (k2.tr (Kp.new nt))) (Nw.tup (k1.tr k2).tr_ nt (.cons (.int _) (.cons (.int _) .nil))) (.inr ⟨hne, m, hm1, hm2, rfl⟩)⟩
end

/-! ### the law -/
section
variable {P : Program} {w : World} {K : PySem.W.Frag} {mg : Str → Option Value} {base : Heap} {a : Ad}
def spLoops : Sp := fun vs H Q _ => ∃ (S : List Addr) (v : V) (N : Net), vs = [v] ∧ Dx S H v (netD N) ∧ NetOk N ∧ ∀ v' H', Kp [] H H' → Nw H H' v' (ringsD N) → Q v' H'
theorem ok_law_loops (T : Tx K mg a) : FnOk P w K mg base CX0 2 a.a_law_loops a.f_law_loops ["mesh"] spLoops := by
  have G_law_way := ok_law_way (P := P) (w := w) (base := base) T
  refine T.law_loops.F.ok sc_law_loops (fun vs H Q E h => ?_) (fun cdv A outer s H vs Q E hr h => ?_)
  · obtain ⟨S, v, N, rfl, _⟩ := h
    rfl
  obtain ⟨S, v, N, rfl, hd, ok, q⟩ := h
  refine ⟨_, (pss_cons (ps_set (i := 1) sc_law_loops.nd rfl (by first | exact .inl rfl | exact .inr rfl) (pe_lst pa_nil))
      (pss_cons (ps_for PassesOwn.never rfl (pi_range1 (by rfl) T.n_range (pa_cons (pe_callB call_len_seq (by rfl) T.n_len (by decide +kernel) (pa_cons (pv 0) pa_nil)) pa_nil)) (pg_name (i := 2) sc_law_loops.nd rfl (by first | exact .inl rfl | exact .inr rfl)) (pss_cons (ps_asg (pe_call G_law_way (hr.mono (by decide)) (by rfl) T.law_way.g T.law_way.F.kp T.law_way.b .nil pass0 (pa_cons (pv 0) (pa_cons (pv 2) pa_nil))) (pg_tup (by rfl) (pgs_cons (pg_name (i := 3) sc_law_loops.nd rfl (by first | exact .inl rfl | exact .inr rfl)) (pgs_cons (pg_name (i := 4) sc_law_loops.nd rfl (by first | exact .inl rfl | exact .inr rfl)) pgs_nil))))
      (pss_one (ps_if (PW.pt (pw_and (pt_cmpR (op_eqD hr.units) (pv 3) (pe_tup pa_nil) (nomark _)) (pw_and1 (pt_cmpR op_eq (pe_callB (cr_minT rfl) (by rfl) T.n_min (by decide +kernel) (pa_cons (pv 4) pa_nil)) (pv 2) (nomark _))))) (pss_one (ps_expr (pe_bm PySem.F.plainAttrs_list PySem.F.slot_list_append PySem.F.type_list_append mt_append (pv 1) (pa_cons (pv 4) pa_nil)))) pss_nil))))
      (pss_one (ps_ret (pe_callB cr_sortedN (by rfl) T.n_sorted (by decide +kernel) (pa_cons (pv 1) pa_nil)))))), ?_⟩
  have h12 := ok.hi
  obtain ⟨ad, xs, rfl, _, hx1, hl1, _⟩ := net_at hd
  refine ⟨Nat.zero_le _, fun fp nf => ?_⟩
  obtain ⟨H1, e1⟩ : ∃ H1, H1 = upd H fp (.lst []) := ⟨_, rfl⟩
  rw [← e1]
  have k1 : Kp [] H H1 := e1 ▸ Kp.new nf
  have hf1 : H1 fp = some (.lst []) := by rw [e1]; exact upd_same
  have hd1 : Dx (fp :: S) H1 (.ref ad) (netD N) := (hd.ap nf).kp k1 fun _ z => by cases z
  have hf1n : ∀ s ∈ [fp], H1 s ≠ none := fun s z => by
    obtain rfl : s = fp := by simpa using z
    rw [hf1]
    exact fun q => by cases q
  have hS1 : ∀ {x : Addr}, x ∈ [fp] → x ∈ fp :: S := fun z => by
    obtain rfl := List.mem_singleton.mp z
    exact List.mem_cons_self
  refine ⟨.ref ad, rfl, ad, xs, rfl, .inr (SqT.of (k1.tup (by simp) hx1)), N.length, by rw [hl1], by omega, by omega, for_range (n := N.length) (fun i σ H' => ∃ (o2 o3 o4 : Option V) (vs : List V), σ = [some (.ref ad), some (.ref fp), o2, o3, o4] ∧ H' fp = some (.lst vs) ∧ NwA H1 H' vs ((ringsL N i).map (ringD N)) ∧ Kp [fp] H1 H') ⟨none, none, none, [], rfl, hf1, .nil, .rfl'⟩ (fun i σ H2 hi hP => ?_) (fun σ H2 hP => ?_)⟩
  · obtain ⟨o2, o3, o4, vs, rfl, hf2, hv2, k2⟩ := hP
    have ei : (0 + (i : Int)) = (i : Int) := by omega
    rw [ei]
    have hd2 := hd1.kp k2 fun _ => hS1
    refine ⟨.ref ad, rfl, .int i, rfl, fp :: S, .ref ad, N, i, rfl, hd2, ok, hi, fun vw H3 k3 nw => ?_⟩
    have hw3 := nw [] fun _ z => by cases z
    obtain ⟨xa, xb, xc, rfl, _, ha, hb, hc, _, _⟩ := way_at hw3
    refine ⟨xa, _, rfl, SqT.of ha, rfl, _, _, rfl, _, _, rfl, rfl, ?_⟩
    have hf3 : H3 fp = some (.lst vs) := k3.lst (by simp) hf2
    have k23 : Kp [fp] H1 H3 := k2.tr k3.of0
    have hv3 := hv2.kp k3
    obtain ⟨hnA, hnR⟩ := way_new nw ha
    have eNat : natV (wayR N i) = ((wayR N i).map fun n : Nat => (n : Int)).map V.int := by unfold natV; rw [List.map_map]; rfl
    have still : ∀ H', Kp [] H3 H' → rootB N i = false → ∃ (o2 o3 o4 : Option V) (vs' : List V), [some (V.ref ad), some (.ref fp), some (.int (i : Int)), some (.ref xb), some (.ref xc)] = [some (V.ref ad), some (.ref fp), o2, o3, o4] ∧ H' fp = some (.lst vs') ∧ NwA H1 H' vs' ((ringsL N (i + 1)).map (ringD N)) ∧ Kp [fp] H1 H' := fun H' k e => by
      refine ⟨_, _, _, vs, rfl, k.lst (by simp) hf3, ?_, k23.tr k.of0⟩
      rw [ringsL_succ, e]
      exact hv3.kp k
    -- ahead == () and min(loop) == spot
    refine ⟨.ref xb, rfl, Nat.zero_le _, fun e ne => ?_⟩
    obtain ⟨H4, e4⟩ : ∃ H4, H4 = upd H3 e (.tup []) := ⟨_, rfl⟩
    rw [← e4]
    have k4 : Kp [] H3 H4 := e4 ▸ Kp.new ne
    have he4 : H4 e = some (.tup []) := by rw [e4]; exact upd_same
    have dA : Dx [] H4 (.ref xb) (natsD (wayA N i)) := (hnA [] fun _ z => by cases z).kp k4 fun _ z => by cases z
    refine ⟨natsD (wayA N i), .tuple [], dA.dp (nats_noDict _), .tup (SqT.of he4) .nil, nats_shaped _, by decide, _, rfl, ?_⟩
    rw [eqv_empty]
    have hf4 : H4 fp = some (.lst vs) := k4.lst (by simp) hf3
    by_cases hA : wayA N i = []
    · rw [decide_eq_true hA]
      have hR : 0 < (wayR N i).length := by
        rw [ahead_path hA]
        obtain ⟨t, ht⟩ := path_head N i
        rw [ht]
        exact Nat.succ_pos _
      refine iteT ⟨.ref xc, rfl, xc, (wayR N i).map fun n : Nat => (n : Int), rfl, by rw [← eNat]; exact SqT.of (k4.tup (by simp) hc), by rw [List.length_map]; exact hR, fun m hm1 hm2 => ?_⟩
      have em : decide (V.int m = V.int (i : Int)) = rootB N i := by
        rw [← root_min hm1 hm2]
        exact decide_eq_decide.mpr ⟨fun e => by cases e; rfl, fun e => by rw [e]⟩
      refine ⟨.int i, rfl, rfl, _, rfl, ?_⟩
      rw [em]
      cases z : rootB N i with
      | false => exact iteF (still H4 k4 z)
      | true =>
        have lvs : vs.length ≤ i := by
          have e := (hv2 [] (fun s z => by cases z)).len
          rw [List.length_map] at e
          have := ringsL_len N i
          omega
        refine iteT ⟨.ref fp, rfl, .inl ⟨rfl, _, SqL.of hf4⟩, .ref xc, rfl, fp, vs, .ref xc, rfl, rfl, hf4, Nat.lt_of_lt_of_le (show vs.length < 1000 by omega) (by decide), ?_⟩
        obtain ⟨H5, e5⟩ : ∃ H5, H5 = upd H4 fp (.lst (vs ++ [.ref xc])) := ⟨_, rfl⟩
        rw [← e5]
        have k5 : Kp [fp] H4 H5 := e5 ▸ Kp.put (by simp) hf4 (fun ps e => by cases e)
        refine ⟨_, _, _, vs ++ [.ref xc], rfl, by rw [e5]; exact upd_same, ?_, k23.tr (k4.of0.tr k5)⟩
        rw [ringsL_succ, z, if_pos rfl, List.map_append]
        exact ((hv3.kp k4).kpS k5 hf1n).app (.cons (((hnR.kp k4).old k2.tr_).kpS k5 hf1n) .nil)
    · rw [decide_eq_false hA]
      refine iteF (iteF (still H4 k4 ?_))
      cases z : rootB N i with
      | false => rfl
      | true => exact absurd (root_ahead ok hi (root_iff.mp z).1) hA
  · obtain ⟨o2, o3, o4, vs, rfl, hf2, hv2, k2⟩ := hP
    -- return sorted(found)
    have hv := hv2 [] fun s z => by cases z
    refine ⟨.ref fp, rfl, fp, vs, kH H2, rfl, SqL.of hf2, fun v hm => ?_, fun ys u hs hb nu => ?_⟩
    · obtain ⟨x, hx, t, rfl, ht⟩ := rings_at hv v hm
      refine ⟨?_, t, rfl, ?_⟩
      · rw [kH_at ht]
        intro e
        have e := List.map_eq_nil_iff.mp e
        have := (root_iff.mp (ringsL_mem hx).2).1
        rw [e] at this
        cases this
      · rw [kH_at ht, List.map_map]
        exact ht
    · have hh : ∀ x ∈ ringsL N N.length, ∃ t, wayR N x = x :: t := fun x hx => by
        obtain ⟨h1, h2⟩ := ringsL_mem hx
        rw [ahead_path (root_ahead ok h1 (root_iff.mp h2).1)]
        exact path_head N x
      obtain rfl : ys = vs := SrtO.stb_uniq (lexL_swo _) hs (rings_srtd hv (ringsL_lt N _) hh) hb
      have hfH : H fp = none := nf
      have kH2 : Kp [] H H2 := Kp.drop hfH ((k1.wk fun _ z => by cases z).tr k2)
      exact q _ _ (kH2.tr (Kp.new nu)) (Nw.lst kH2.tr_ nu (hv2.old k1.tr_))
def spLawLap : Sp := fun vs H Q _ => ∃ (S : List Addr) (v : V) (N : Net) (x : Nat), vs = [v, .int x] ∧ Dx S H v (netD N) ∧ NetOk N ∧ x < N.length ∧ ∀ v' H' d, Kp [] H H' → Nw H H' v' d → LapD N x d → Q v' H'
theorem ok_law_lap (T : Tx K mg a) : FnOk P w K mg base CX0 2 a.a_law_lap a.f_law_lap ["mesh", "spot"] spLawLap := by
  have G_law_way := ok_law_way (P := P) (w := w) (base := base) T
  refine T.law_lap.F.ok sc_law_lap (fun vs H Q E h => ?_) (fun cdv A outer s H vs Q E hr h => ?_)
  · obtain ⟨S, v, N, x, rfl, _⟩ := h
    rfl
  obtain ⟨S, v, N, x, rfl, hd, ok, hx, q⟩ := h
  refine ⟨_, (pss_cons (ps_setLc (i := 2) (own := [("one", 3)]) (g := gName 3) (by rfl) sc_law_lap.nd rfl rfl (sw_true rfl rfl rfl (by decide +kernel)) (pi_tup (pe_ix ix_tup (pe_call G_law_way (hr.mono (by decide)) (by rfl) T.law_way.g T.law_way.F.kp T.law_way.b .nil pass0 (pa_cons (pv 0) (pa_cons (pv 1) pa_nil))) pe_int (fun _ _ => rfl))) (blkOk_by (own := [("one", 3)]) (N := s_law_lap_N) (sc := defScope s_law_lap) (by decide +kernel)) (fun _ _ _ _ _ => (pg_name (i := 3) sc_law_lap.nd rfl (by first | exact .inl rfl | exact .inr rfl))) (fun _ _ _ _ _ => pts_nil) (fun _ _ _ _ _ => (pe_ix (ix_tupK (K := K) rfl) (pe_ix (ix_tupK (K := K) rfl) (pv 0) (pv 3) (fun _ _ => rfl)) pe_int (fun _ _ => rfl))))
      (pss_one (ps_ret (pe_ifExp (pt_cmpR (op_eqD hr.units) (pv 2) (pe_lst pa_nil) (nomark _)) pe_non (pe_tup (pa_cons (pe_callB (cr_sum rfl) (by rfl) T.n_sum (by decide +kernel) (pa_cons (pv 2) pa_nil)) (pa_cons (pe_callB (cr_max rfl) (by rfl) T.n_max (by decide +kernel) (pa_cons (pv 2) pa_nil)) pa_nil))))))), ?_⟩
  have hsub := way_sub ok hx
  refine ⟨v, rfl, .int x, rfl, S, v, N, x, rfl, hd, ok, hx, fun vw H1 k1 nw => ?_⟩
  obtain ⟨xa, xb, xc, rfl, _, ha, hb, hc, _, _⟩ := way_at (nw [] fun _ z => by cases z)
  have hd1 : Dx S H1 v (netD N) := hd.kp k1 fun _ z => by cases z
  refine ⟨xa, _, 1, .ref xc, rfl, rfl, SqT.of ha, atI_nat (j := 1) rfl, xc, rfl, ⟨_, SqT.of hc⟩, fun D nD => ?_⟩
  have lenR : (wayR N x).length ≤ 13 := by
    have := way_len ok x
    rw [natV_len, natV_len] at this
    omega
  have kD : ∀ l, Kp [] H1 (upd H1 D (.lst l)) := fun l => Kp.new nD
  refine lc_tup (xs := natV (wayR N x)) (fun j H' => H' = upd H1 D (.lst (((lensR N x).take j).map V.int))) ?_ (fun j H' _ e => ?_) (fun j y H' hy e => ?_) (fun H' e => ?_)
  · rfl
  · rw [e]
    exact SqT.of ((kD _).tup (by simp) hc)
  · rw [e]
    obtain ⟨z, hz, rfl⟩ : ∃ z : Nat, (wayR N x)[j]? = some z ∧ y = .int (z : Int) := by
      unfold natV at hy
      rw [List.getElem?_map] at hy
      cases q1 : (wayR N x)[j]? with
      | none => rw [q1] at hy; cases hy
      | some u => rw [q1] at hy; exact ⟨u, rfl, (Option.some.inj hy).symm⟩
    have hj := (List.getElem?_eq_some_iff.mp hz).1
    have hzN := hsub z (List.mem_of_getElem? hz)
    obtain ⟨p, hp⟩ : ∃ p, N[z]? = some p := ⟨N[z], List.getElem?_eq_getElem hzN⟩
    obtain ⟨ad, xs, rfl, _, h2, hl2, hat⟩ := net_at (hd1.kp (kD (((lensR N x).take j).map V.int)) fun _ z => by cases z)
    obtain ⟨la, hxl, _, h3⟩ := hat z p hp
    refine ⟨rfl, .ref ad, rfl, .int z, rfl, ad, xs, z, .ref la, rfl, rfl, SqT.of h2, atI_nat hxl, la, _, 0, .int p.1, rfl, rfl, SqT.of h3, atI_nat (j := 0) rfl, ?_⟩
    refine ⟨_, upd_same, Nat.lt_of_le_of_lt (m := 13) (by rw [List.length_map, List.length_take]; unfold lensR; rw [List.length_map]; omega) (by decide), ?_⟩
    rw [upd_upd]
    have e2 : (lensR N x)[j]? = some p.1 := by
      unfold lensR
      rw [List.getElem?_map, hz]
      show some (lenOf N z) = _
      rw [lenOf_get hp]
    have e3 : (lensR N x).take (j + 1) = (lensR N x).take j ++ [p.1] := by rw [List.take_add_one, e2]; rfl
    rw [e3, List.map_append]
    rfl
  · rw [e, natV_len, List.take_of_length_le (by unfold lensR; rw [List.length_map]; exact Nat.le_refl _)]
    have k2 := kD ((lensR N x).map V.int)
    have hD : (upd H1 D (.lst ((lensR N x).map V.int))) D = some (.lst ((lensR N x).map V.int)) := upd_same
    obtain ⟨H2, e2⟩ : ∃ H2, H2 = upd H1 D (.lst ((lensR N x).map V.int)) := ⟨_, rfl⟩
    rw [← e2] at k2 hD ⊢
    -- return None if lengths == [] else (sum(lengths), max(lengths))
    have lenL : (lensR N x).length = (wayR N x).length := by unfold lensR; rw [List.length_map]
    refine ⟨.ref D, rfl, Nat.zero_le _, fun e nE => ?_⟩
    obtain ⟨H3, e3⟩ : ∃ H3, H3 = upd H2 e (.lst []) := ⟨_, rfl⟩
    rw [← e3]
    have k3 : Kp [] H2 H3 := e3 ▸ Kp.new nE
    have he3 : H3 e = some (.lst []) := by rw [e3]; exact upd_same
    have hD3 := k3.lst (by simp) hD
    refine ⟨.list ((lensR N x).map PyData.int), .list [], Dp.lst (SqL.of hD3) (dp_ints _), .lst (SqL.of he3) .nil, ints_shaped _, by decide, _, rfl, ?_⟩
    rw [eqv_none]
    by_cases hne : wayR N x = []
    · rw [decide_eq_true (by unfold lensR; rw [hne]; rfl)]
      exact iteT (q .non H3 .none (k1.tr (k2.tr k3)) .non (.inl ⟨hne, rfl⟩))
    · have hne2 : 0 < (lensR N x).length := by
        rw [lenL]
        exact List.length_pos_iff.mpr hne
      rw [decide_eq_false (fun z => by rw [z] at hne2; exact absurd hne2 (by decide))]
      refine iteF ⟨.ref D, rfl, D, lensR N x, rfl, SqL.of hD3, .ref D, rfl, D, lensR N x, rfl, SqL.of hD3, hne2, fun m hm1 hm2 => ?_⟩
      refine ⟨by show 2 ≤ sizeLine; decide, fun t nt => q _ _ _ (k1.tr (k2.tr (k3.tr (Kp.new nt)))) (Nw.tup (k1.tr (k2.tr k3)).tr_ nt (.cons (.int _) (.cons (.int _) .nil))) (.inr ⟨hne, m, hm1, hm2, rfl⟩)⟩
def spRight (TB : Addr) : Sp := fun vs H Q _ => ∃ (p : Addr), vs = [.ref p] ∧ Wick H p 0 ∧ GxR.TabG H TB ∧ ∀ H', Kp [p] H H' → Q (.bl true) H'
theorem ok_law_right (T : Tx K mg a) (TB : GxR.TabB base mg a.cd_is_net a.tb_is_net) : FnG P w K mg base CX0 10 a.a_law_right a.f_law_right ["wick"] (spRight a.tb_is_net) := by
  have G_law_mesh := ok_law_mesh (P := P) (w := w) (base := base) T
  have G_law_loops := ok_law_loops (P := P) (w := w) (base := base) T
  have G_law_lap := ok_law_lap (P := P) (w := w) (base := base) T
  have G_rings := ok_rings (P := P) (w := w) (base := base) T TB
  have G_lap_of := ok_lap_of (P := P) (w := w) (base := base) T TB
  refine okG0 T.law_right.F sc_law_right (fun vs H Q E h => ?_) (fun cdv A outer s H vs Q E hG hr h => ?_)
  · obtain ⟨p, rfl, _⟩ := h
    rfl
  obtain ⟨p, rfl, hw, ht, q⟩ := h
  refine ⟨_, (pss_cons (ps_set (i := 1) sc_law_right.nd rfl (by first | exact .inl rfl | exact .inr rfl) (pe_call G_law_mesh (hr.mono (by decide)) (by rfl) T.law_mesh.g T.law_mesh.F.kp T.law_mesh.b .nil pass0 (pa_cons (pv 0) pa_nil)))
      (pss_cons (ps_set (i := 2) sc_law_right.nd rfl (by first | exact .inl rfl | exact .inr rfl) (pe_callB (call_repr hG hr) (by rfl) T.n_repr (by decide +kernel) (pa_cons (pv 1) pa_nil)))
      (pss_cons (ps_set (i := 3) sc_law_right.nd rfl (by first | exact .inl rfl | exact .inr rfl) (pe_call G_law_loops (hr.mono (by decide)) (by rfl) T.law_loops.g T.law_loops.F.kp T.law_loops.b .nil pass0 (pa_cons (pv 1) pa_nil)))
      (pss_cons (ps_set (i := 4) sc_law_right.nd rfl (by first | exact .inl rfl | exact .inr rfl) (pe_call G_rings (hr.mono (by decide)) (by rfl) T.rings.g T.rings.F.kp T.rings.b .nil pass0 (pa_cons (pv 1) pa_nil)))
      (pss_cons (ps_if (PW.pt (pw_or (pt_not (pt_val (pe_callB call_isi (by rfl) T.n_isinstance (by decide +kernel) (pa_cons (pv 4) (pa_cons (pe_bltn (v := .ty "list") (by rfl) T.n_list (by decide +kernel) rfl) pa_nil))))) (pw_or (pt_cmpR (op_neD hr.units) (pv 4) (pv 3) (nomark _)) (pw_or1 (pt_cmpR (op_neD hr.units) (pe_lc (own := [("loop", 5)]) (g := gName 5) (by rfl) sc_law_right.nd (pi_list (pv 4)) (blkOk_by (own := [("loop", 5)]) (N := s_law_right_N) (sc := defScope s_law_right) (by decide +kernel)) (fun _ _ _ _ _ => (pg_name (i := 5) sc_law_right.nd rfl (by first | exact .inl rfl | exact .inr rfl))) (fun _ _ _ _ _ => (pts_one (pt_not (pt_val (pe_callB (call_isiK (K := K) rfl) (by rfl) T.n_isinstance (by decide +kernel) (pa_cons (pv 5) (pa_cons (pe_bltn (v := .ty "tuple") (by rfl) T.n_tuple (by decide +kernel) rfl) pa_nil))))))) (fun _ _ _ _ _ => (pv 5))) (pe_lst pa_nil) (nomark _)))))) (pss_one (ps_ret pe_bl)) pss_nil)
      (pss_cons (ps_expr (pe_bm PySem.F.plainAttrs_list PySem.F.slot_list_append PySem.F.type_list_append mt_append (pv 4) (pa_cons (pe_tup (pa_cons pe_int pa_nil)) pa_nil)))
      (pss_cons (ps_expr (pe_bm0 PySem.F.plainAttrs_list PySem.F.slot_list_reverse PySem.F.type_list_reverse mt_reverse (pv 4)))
      (pss_cons (ps_if (pt_cmpR (op_neD hr.units) (pe_kwG (FnG.of G_rings) hG (hr.mono (by decide)) (by rfl) T.rings.g T.rings.F.kp (kb_rings_net T) pass0 (pk_cons (pv 1) pk_nil)) (pv 3) (nomark _)) (pss_one (ps_ret pe_bl)) pss_nil)
      (pss_cons (ps_for PassesOwn.never rfl (pi_range1 (by rfl) T.n_range (pa_cons (pe_callB call_len_seq (by rfl) T.n_len (by decide +kernel) (pa_cons (pv 1) pa_nil)) pa_nil)) (pg_name (i := 6) sc_law_right.nd rfl (by first | exact .inl rfl | exact .inr rfl)) (pss_cons (ps_set (i := 7) sc_law_right.nd rfl (by first | exact .inl rfl | exact .inr rfl) (pe_call G_law_lap (hr.mono (by decide)) (by rfl) T.law_lap.g T.law_lap.F.kp T.law_lap.b .nil pass0 (pa_cons (pv 1) (pa_cons (pv 6) pa_nil))))
      (pss_one (ps_for PassesOwn.never rfl (pi_list (pe_lst (pa_cons (pe_call G_lap_of (hr.mono (by decide)) (by rfl) T.lap_of.g T.lap_of.F.kp T.lap_of.b .nil pass0 (pa_cons (pv 1) (pa_cons (pv 6) pa_nil))) (pa_cons (pe_kwG (FnG.of G_lap_of) hG (hr.mono (by decide)) (by rfl) T.lap_of.g T.lap_of.F.kp (kb_lap_of_lamp_net T) pass0 (pk_cons (pv 6) (pk_cons (pv 1) pk_nil))) pa_nil)))) (pg_name (i := 8) sc_law_right.nd rfl (by first | exact .inl rfl | exact .inr rfl)) (pss_one (ps_if (PW.pt (pw_or (pt_cmpR (op_neD hr.units) (pv 8) (pv 7) (nomark _)) (pw_or1 (pt_cmpR op_ne (pe_callB call_isi (by rfl) T.n_isinstance (by decide +kernel) (pa_cons (pv 8) (pa_cons (pe_bltn (v := .ty "tuple") (by rfl) T.n_tuple (by decide +kernel) rfl) pa_nil))) (pe_callB call_isi (by rfl) T.n_isinstance (by decide +kernel) (pa_cons (pv 7) (pa_cons (pe_bltn (v := .ty "tuple") (by rfl) T.n_tuple (by decide +kernel) rfl) pa_nil))) (nomark _))))) (pss_one (ps_ret pe_bl)) pss_nil))))))
      (pss_one (ps_ret (pe_cmpR op_eq (pe_callB (call_repr hG hr) (by rfl) T.n_repr (by decide +kernel) (pa_cons (pv 1) pa_nil)) (pv 2) (nomark _))))))))))))), ?_⟩
  refine ⟨.ref p, rfl, p, 0, rfl, hw, by decide, fun v1 H1 N okN sN nw1 k1 w1 => ?_⟩
  have h12 := okN.hi
  have hd1 : Dx [] H1 v1 (netD N) := nw1 [] fun _ z => by cases z
  have ht1 := k1.tab _ ht
  obtain ⟨sh1, sh2⟩ := net_show okN sN
  have sh3 := net_noDict N
  have sh4 : (netD N).depth < 150 := Nat.lt_of_le_of_lt (net_depth N) (by decide)
  obtain ⟨ad, xs, rfl, _, hx1, hl1, _⟩ := net_at hd1
  have dpn : ∀ {S H'}, Dx S H' (.ref ad) (netD N) → Dp K H' (.ref ad) (netD N) := fun h => h.dp sh3
  refine ⟨.ref ad, rfl, .ref ad, netD N, rfl, dpn hd1, sh1, sh3, sh4, sh2, ⟨ad, rfl⟩, ?_⟩
  obtain ⟨tx, etx⟩ : ∃ tx, tx = (netD N).shown := ⟨_, rfl⟩
  rw [← etx]
  -- due = _law_loops(mesh)
  refine ⟨.ref ad, rfl, [], .ref ad, N, rfl, hd1, okN, fun vd H2 k2 nd => ?_⟩
  have hd2 := hd1.kp k2 fun _ z => by cases z
  have dd2 : Dx [] H2 vd (ringsD N) := nd [] fun _ z => by cases z
  -- found = rings(mesh)
  refine ⟨.ref ad, rfl, [], .ref ad, N, rfl, hd2, okN, k2.tab _ ht1, fun vf H3 k3 nf => ?_⟩
  have ff : Dx [] H3 vf (ringsD N) := nf [] fun _ z => by cases z
  obtain ⟨fa, fs, rfl, hfa, hfs⟩ : ∃ (fa : Addr) (fs : List V), vf = .ref fa ∧ H3 fa = some (.lst fs) ∧ DxA [] H3 fs ((ringsL N N.length).map (ringD N)) := by
    cases ff with
    | @lst a xs ds n h r => exact ⟨a, xs, rfl, h, r⟩
  have nfa : H2 fa = none := nf.fresh
  have hd3 : Dx [fa] H3 (.ref ad) (netD N) := (hd2.ap nfa).kp k3 fun _ z => by cases z
  have dd3 : Dx [fa] H3 vd (ringsD N) := (dd2.ap nfa).kp k3 fun _ z => by cases z
  have ht3 := k3.tab _ (k2.tab _ ht1)
  have lfs : fs.length ≤ 12 := by
    have e := hfs.len
    rw [List.length_map] at e
    have := ringsL_len N N.length
    omega
  have hkl : PySem.W.kitOne K (.type (kname (ringsD N))) (.type "list") = some true := kit_data (d := ringsD N) (by decide)
  have hkt : ∀ g, PySem.W.kitOne K (.type (kname (natsD g))) (.type "tuple") = some true := fun g => kit_data (d := natsD g) (by decide)
  have hl0 : SeqAt.shaped (.list []) = true := by decide
  have hq0 : (!PyData.eqv (.list []) (.list [])) = false := by rw [SeqAt.eqv_refl _ (SeqAt.canLay_of_shaped hl0)]; rfl
  -- if not isinstance(found, list) or found != due or [..] != []
  refine ⟨.ref fa, rfl, .ref fa, .ty "list", _, _, _, rfl, .ty _, tyx_of ff, hkl, _, rfl, ?_⟩
  refine iteF ⟨.ref fa, rfl, vd, rfl, ringsD N, ringsD N, ff.dp (rings_noDict N), dd3.dp (rings_noDict N), rings_shaped N, rings_shaped N, _, rfl, ?_⟩
  rw [SeqAt.eqv_refl _ (rings_lay N)]
  refine iteF ?_
  refine ⟨.ref fa, rfl, fa, rfl, ⟨_, SqL.of hfa⟩, fun D nD => lc_list (xs := fs) (fun j H' => H' = upd H3 D (.lst [])) rfl (fun j H' _ e => ?_) (fun j y H' hy e => ?_) (fun H' e => ?_)⟩
  · rw [e]
    exact SqL.of ((Kp.new (S := []) nD).lst (by simp) hfa)
  · rw [e]
    obtain ⟨x, _, t, rfl, hx⟩ := rings_at hfs y (List.mem_of_getElem? hy)
    have du : Dx [] (upd H3 D (.lst [])) (.ref t) (natsD (wayR N x)) := .tup (by simp) ((Kp.new (S := []) nD).tup (by simp) hx) (nwA_natV (H := fun _ => none) _ [] fun _ z => by cases z)
    exact ⟨rfl, .ref t, rfl, .ref t, .ty "tuple", _, _, _, rfl, .ty _, tyx_of du, hkt _, _, rfl, iteF rfl⟩
  obtain ⟨H4, e4⟩ : ∃ H4, H4 = upd H3 D (.lst []) := ⟨_, rfl⟩
  rw [e, ← e4]
  have k4 : Kp [] H3 H4 := e4 ▸ Kp.new nD
  have hD4 : H4 D = some (.lst []) := by rw [e4]; exact upd_same
  refine ⟨Nat.zero_le _, fun e2 ne2 => ?_⟩
  obtain ⟨H5, e5⟩ : ∃ H5, H5 = upd H4 e2 (.lst []) := ⟨_, rfl⟩
  rw [← e5]
  have k5 : Kp [] H4 H5 := e5 ▸ Kp.new ne2
  have he5 : H5 e2 = some (.lst []) := by rw [e5]; exact upd_same
  refine ⟨.list [], .list [], .lst (SqL.of (k5.lst (by simp) hD4)) .nil, .lst (SqL.of he5) .nil, hl0, hl0, _, rfl, ?_⟩
  rw [hq0]
  refine iteF ?_
  have k35 : Kp [] H3 H5 := k4.tr k5
  have hfa5 := k35.lst (by simp) hfa
  -- found.append((0,))
  refine ⟨.ref fa, rfl, .inl ⟨rfl, _, SqL.of hfa5⟩, by show 1 ≤ sizeLine; decide, fun z nz => ?_⟩
  obtain ⟨H6, e6⟩ : ∃ H6, H6 = upd H5 z (.tup [.int 0]) := ⟨_, rfl⟩
  rw [← e6]
  have k6 : Kp [] H5 H6 := e6 ▸ Kp.new nz
  have hfa6 := k6.lst (by simp) hfa5
  refine ⟨fa, fs, .ref z, rfl, rfl, hfa6, Nat.lt_of_lt_of_le (show fs.length < 1000 by omega) (by decide), ?_⟩
  obtain ⟨H7, e7⟩ : ∃ H7, H7 = upd H6 fa (.lst (fs ++ [.ref z])) := ⟨_, rfl⟩
  rw [← e7]
  have k7 : Kp [fa] H6 H7 := e7 ▸ Kp.put (by simp) hfa6 (fun ps e => by cases e)
  have hfa7 : H7 fa = some (.lst (fs ++ [.ref z])) := by rw [e7]; exact upd_same
  -- found.reverse()
  refine ⟨.ref fa, rfl, .inl ⟨rfl, _, SqL.of hfa7⟩, fa, _, rfl, rfl, hfa7, ?_⟩
  obtain ⟨H8, e8⟩ : ∃ H8, H8 = upd H7 fa (.lst (fs ++ [V.ref z]).reverse) := ⟨_, rfl⟩
  rw [← e8]
  have k8 : Kp [fa] H7 H8 := e8 ▸ Kp.put (by simp) hfa7 (fun ps e => by cases e)
  have k38 : Kp [fa] H3 H8 := k35.of0.tr (k6.of0.tr (k7.tr k8))
  have hd8 : Dx [fa] H8 (.ref ad) (netD N) := hd3.kp k38 fun _ z => z
  have dd8 : Dx [fa] H8 vd (ringsD N) := dd3.kp k38 fun _ z => z
  -- if rings(net=mesh) != due
  refine ⟨.ref ad, rfl, [fa], .ref ad, N, rfl, hd8, okN, k38.tab _ ht3, fun v9 H9 k9 n9 => ?_⟩
  have hd9 := hd8.kp k9 fun _ z => by cases z
  have dd9 := dd8.kp k9 fun _ z => by cases z
  have ht9 := k9.tab _ (k38.tab _ ht3)
  refine ⟨vd, rfl, ringsD N, ringsD N, (n9 [] fun _ z => by cases z).dp (rings_noDict N), dd9.dp (rings_noDict N), rings_shaped N, rings_shaped N, _, rfl, ?_⟩
  rw [SeqAt.eqv_refl _ (rings_lay N)]
  refine iteF ?_
  have k29 : Kp [] H2 H9 := Kp.drop nfa (k3.of0.tr (k38.tr k9.of0))
  have kH9 : Kp [p] H H9 := k1.tr (k2.of0.tr k29.of0)
  -- for spot in range(len(mesh))
  have hx9 := k29.tup (by simp) (k2.tup (by simp) hx1)
  refine ⟨.ref ad, rfl, ad, xs, rfl, .inr (SqT.of hx9), N.length, by rw [hl1], by omega, by omega, for_range (n := N.length) (fun i σ H' => ∃ (o5 o6 o7 o8 : Option V), σ = [some (.ref p), some (.ref ad), some (.str tx), some vd, some (.ref fa), o5, o6, o7, o8] ∧ Kp [] H9 H') ⟨none, none, none, none, rfl, .rfl'⟩ (fun i σ H10 hi hP => ?_) (fun σ H10 hP => ?_)⟩
  · obtain ⟨o5, o6, o7, o8, rfl, k10⟩ := hP
    have ei : (0 + (i : Int)) = (i : Int) := by omega
    rw [ei]
    have hd10 := hd9.kp k10 fun _ z => by cases z
    have ht10 := k10.tab _ ht9
    -- lap = _law_lap(mesh, spot)
    refine ⟨.ref ad, rfl, .int i, rfl, [fa], .ref ad, N, i, rfl, hd10, okN, hi, fun vl H11 dl k11 nl ll => ?_⟩
    have hd11 := hd10.kp k11 fun _ z => by cases z
    have ht11 := k11.tab _ ht10
    -- for told in [lap_of(mesh, spot), lap_of(lamp=spot, net=mesh)]
    refine ⟨.ref ad, rfl, .int i, rfl, [fa], .ref ad, N, i, rfl, hd11, okN, hi, ht11, fun va H12 da k12 na la => ?_⟩
    have hd12 := hd11.kp k12 fun _ z => by cases z
    have ht12 := k12.tab _ ht11
    refine ⟨.int i, rfl, .ref ad, rfl, [fa], .ref ad, N, i, rfl, hd12, okN, hi, ht12, fun vb H13 db k13 nb lb => ?_⟩
    obtain rfl := la.uniq ll
    obtain rfl := lb.uniq la
    refine ⟨by show 2 ≤ sizeLine; decide, fun l nl_ => ?_⟩
    obtain ⟨H14, e14⟩ : ∃ H14, H14 = upd H13 l (.lst [va, vb]) := ⟨_, rfl⟩
    rw [← e14]
    have k14 : Kp [] H13 H14 := e14 ▸ Kp.new nl_
    have hl14 : H14 l = some (.lst [va, vb]) := by rw [e14]; exact upd_same
    have e0 : ∀ {H' H'' : Hp} {v : V} {d : PyData}, Nw H' H'' v d → Dx [] H'' v d := fun h => h [] fun _ z => by cases z
    have wl14 : Dx [] H14 vl db := (e0 nl).kp (k12.tr (k13.tr k14)) fun _ z => by cases z
    have wa14 : Dx [] H14 va db := (e0 na).kp (k13.tr k14) fun _ z => by cases z
    have wb14 : Dx [] H14 vb db := (e0 nb).kp k14 fun _ z => by cases z
    refine ⟨l, rfl, ⟨_, SqL.of hl14⟩, for_list (xs := [va, vb]) (fun j σ H' => ∃ (o8 : Option V), σ = [some (.ref p), some (.ref ad), some (.str tx), some vd, some (.ref fa), o5, some (.int (i : Int)), some vl, o8] ∧ Kp [] H14 H') ⟨o8, rfl, .rfl'⟩ (fun j σ H' _ hP => ?_) (fun j x σ H15 hx hP => ?_) (fun σ H15 hP => ?_)⟩
    · obtain ⟨_, rfl, k15⟩ := hP
      exact SqL.of (k15.lst (by simp) hl14)
    · obtain ⟨o8, rfl, k15⟩ := hP
      have wx14 : Dx [] H14 x db := by
        have := List.mem_of_getElem? hx
        simp only [List.mem_cons, List.not_mem_nil, or_false] at this
        rcases this with rfl | rfl
        · exact wa14
        · exact wb14
      have wx15 := wx14.kp k15 fun _ z => by cases z
      have wl15 := wl14.kp k15 fun _ z => by cases z
      -- if told != lap or isinstance(told, tuple) != isinstance(lap, tuple)
      refine ⟨x, rfl, vl, rfl, db, db, wx15.dp lb.noDict, wl15.dp lb.noDict, lb.shaped, lb.shaped, _, rfl, ?_⟩
      rw [SeqAt.eqv_refl _ lb.lay.1]
      refine iteF ?_
      have hkd : PySem.W.kitOne K (.type (kname db)) (.type "tuple") = some (kindB db "tuple") := kit_data (by decide)
      refine ⟨x, rfl, x, .ty "tuple", _, _, _, rfl, .ty _, tyx_of wx15, hkd, vl, rfl, vl, .ty "tuple", _, _, _, rfl, .ty _, tyx_of wl15, hkd, rfl, _, rfl, ?_⟩
      rw [decide_eq_true (Eq.refl (V.bl (kindB db "tuple")))]
      exact iteF ⟨_, rfl, k15⟩
    · obtain ⟨o8, rfl, k15⟩ := hP
      exact ⟨_, _, _, _, rfl, k10.tr (k11.tr (k12.tr (k13.tr (k14.tr k15))))⟩
  · obtain ⟨o5, o6, o7, o8, rfl, k10⟩ := hP
    have hd10 := hd9.kp k10 fun _ z => by cases z
    refine ⟨.ref ad, rfl, .ref ad, netD N, rfl, dpn hd10, sh1, sh3, sh4, sh2, ⟨ad, rfl⟩, ?_⟩
    rw [← etx]
    refine ⟨.str tx, rfl, rfl, ?_⟩
    rw [decide_eq_true (Eq.refl (V.str tx))]
    exact q H10 (kH9.tr k10.of0)
def spLaw (TB : Addr) : Sp := fun vs H Q _ => ∃ (l : Addr) (ns : List Int), vs = [.ref l] ∧ SqL K H l (ns.map V.int) ∧ ns.length ≤ 63 ∧ GxR.TabG H TB ∧ ∀ H', Q (.bl true) H'
theorem ok_law (T : Tx K mg a) (TB : GxR.TabB base mg a.cd_is_net a.tb_is_net) : FnG P w K mg base CX0 11 a.a_law a.f_law ["script"] (spLaw (K := K) a.tb_is_net) := by
  have G_law_wick := ok_law_wick (P := P) (w := w) (base := base) T
  have G_law_right := ok_law_right (P := P) (w := w) (base := base) T TB
  refine okG0 T.law.F sc_law (fun vs H Q E h => ?_) (fun cdv A outer s H vs Q E hG hr h => ?_)
  · obtain ⟨l, ns, rfl, _⟩ := h
    rfl
  obtain ⟨l, ns, rfl, hl, hn, ht, q⟩ := h
  refine ⟨_, (pss_cons (ps_for PassesOwn.never rfl (pi_enum (by rfl) T.n_enumerate (pa_cons (pe_slice sl_list (pe_op op_catL (pv 0) (pe_lst (pa_cons pe_int pa_nil))) po_none (po_some (pe_callB (call_max2 rfl) (by rfl) T.n_max (by decide +kernel) (pa_cons pe_int (pa_cons (pe_callB (call_min2 rfl) (by rfl) T.n_min (by decide +kernel) (pa_cons (pe_callB call_len_seq (by rfl) T.n_len (by decide +kernel) (pa_cons (pv 0) pa_nil)) (pa_cons pe_int pa_nil))) pa_nil))))) pa_nil)) (pg_tup (by rfl) (pgs_cons (pg_name (i := 1) sc_law.nd rfl (by first | exact .inl rfl | exact .inr rfl)) (pgs_cons (pg_name (i := 2) sc_law.nd rfl (by first | exact .inl rfl | exact .inr rfl)) pgs_nil))) (pss_one (ps_if (pt_not (pt_val (pe_callG G_law_right hG (hr.mono (by decide)) (by rfl) T.law_right.g T.law_right.F.kp T.law_right.b .nil pass0 (pa_cons (pe_call G_law_wick (hr.mono (by decide)) (by rfl) T.law_wick.g T.law_wick.F.kp T.law_wick.b .nil pass0 (pa_cons (pv 2) (pa_cons (pv 1) pa_nil))) pa_nil)))) (pss_one (ps_ret pe_bl)) pss_nil)))
      (pss_one (ps_ret pe_bl))), ?_⟩
  -- (script + [0])[:max(1, min(len(script), 20))]
  refine ⟨.ref l, rfl, by show 1 ≤ sizeLine; decide, fun z nz => ?_⟩
  obtain ⟨H1, e1⟩ : ∃ H1, H1 = upd H z (.lst [.int 0]) := ⟨_, rfl⟩
  rw [← e1]
  have k1 : Kp [] H H1 := e1 ▸ Kp.new nz
  have hz1 : H1 z = some (.lst [.int 0]) := by rw [e1]; exact upd_same
  have hl1 := k1.seq (by simp) hl
  refine ⟨l, z, _, _, rfl, rfl, hl1, SqL.of hz1, Nat.le_trans (m := 64) (by rw [List.length_map]; show ns.length + 1 ≤ 64; omega) (by decide), fun y ny => ?_⟩
  obtain ⟨H2, e2⟩ : ∃ H2, H2 = upd H1 y (.lst (ns.map V.int ++ [.int 0])) := ⟨_, rfl⟩
  rw [← e2]
  have k2 : Kp [] H1 H2 := e2 ▸ Kp.new ny
  have hy2 : H2 y = some (.lst ((ns ++ [0]).map V.int)) := by rw [e2, List.map_append]; exact upd_same
  refine ⟨.ref l, rfl, l, _, rfl, .inl (k2.seq (by simp) hl1), _, _, rfl, _, _, rfl, ?_⟩
  refine ⟨_, rfl, y, _, rfl, SqL.of hy2, fun u nu => ?_⟩
  obtain ⟨cs, hcs, hcl⟩ : ∃ cs : List Int, cutV ((ns ++ [0]).map V.int) none (some (if (if 16 < ((ns.map V.int).length : Int) then 16 else ((ns.map V.int).length : Int)) > 1 then (if 16 < ((ns.map V.int).length : Int) then 16 else ((ns.map V.int).length : Int)) else 1)) = cs.map V.int ∧ cs.length ≤ 64 := by
    unfold cutV
    rw [← List.map_drop, ← List.map_take]
    refine ⟨_, rfl, ?_⟩
    rw [List.length_take, List.length_drop, List.length_append]
    show min _ (ns.length + 1 - _) ≤ 64
    omega
  rw [hcs]
  obtain ⟨H3, e3⟩ : ∃ H3, H3 = upd H2 u (.lst (cs.map V.int)) := ⟨_, rfl⟩
  rw [← e3]
  have k3 : Kp [] H2 H3 := e3 ▸ Kp.new nu
  have hu3 : H3 u = some (.lst (cs.map V.int)) := by rw [e3]; exact upd_same
  have ht3 := k3.tab _ (k2.tab _ (k1.tab _ ht))
  refine ⟨u, _, rfl, SqL.of hu3, for_it (walk_enum (K := K) (a := u) (xs := cs.map V.int)) (fun i σ H' => ∃ (o1 o2 : Option V), σ = [some (.ref l), o1, o2] ∧ Kp [] H3 H') ⟨none, none, rfl, .rfl'⟩ (fun i σ H' _ hP => ?_) (fun i x σ H4 H5 hi hP hy => ?_) (fun σ H4 hP => ?_)⟩
  · obtain ⟨_, _, rfl, k4⟩ := hP
    exact SqL.of (k4.lst (by simp) hu3)
  · obtain ⟨o1, o2, rfl, k4⟩ := hP
    obtain ⟨T1, x1, y1, rfl, nT, rfl, ex, ey⟩ := hy
    cases ex
    have ey : (cs.map V.int)[i]? = some y1 := ey
    rw [List.getElem?_map] at ey
    obtain ⟨cell, rfl⟩ : ∃ cell : Int, y1 = .int cell := by
      cases q1 : cs[i]? with
      | none => rw [q1] at ey; cases ey
      | some z => rw [q1] at ey; exact ⟨z, (Option.some.inj ey).symm⟩
    rw [List.length_map] at hi
    have k5 : Kp [] H4 (upd H4 T1 (.tup [.int (i : Nat), .int cell])) := Kp.new nT
    refine ⟨T1, _, rfl, SqT.of upd_same, rfl, _, _, rfl, _, _, rfl, rfl, ?_⟩
    refine ⟨.int cell, rfl, .int (i : Nat), rfl, cell, i, rfl, by omega, fun p np H6 k6 w6 => ?_⟩
    refine ⟨p, rfl, w6, k6.tab _ (k5.tab _ (k4.tab _ ht3)), fun H7 k7 => ⟨true, rfl, iteF ?_⟩⟩
    exact ⟨_, _, rfl, k4.tr (k5.tr (Kp.drop np (k6.of0.tr k7)))⟩
  · obtain ⟨o1, o2, rfl, k4⟩ := hP
    exact q H4
end

/-! ### the head -/
def hex (_ : PySem.W.Frag) : Bool := true
def hd_is_whole : He.DefD := ⟨("is_whole", none), "is_whole", "is_whole", defArgs s_is_whole, defBody s_is_whole, defScope s_is_whole, [], []⟩
def hd_is_pair : He.DefD := ⟨("is_pair", none), "is_pair", "is_pair", defArgs s_is_pair, defBody s_is_pair, defScope s_is_pair, [], []⟩
def hd_is_number_of_many : He.DefD := ⟨("is_number_of_many", none), "is_number_of_many", "is_number_of_many", defArgs s_is_number_of_many, defBody s_is_number_of_many, defScope s_is_number_of_many, [], []⟩
def hd_is_lamp_of_many : He.DefD := ⟨("is_lamp_of_many", none), "is_lamp_of_many", "is_lamp_of_many", defArgs s_is_lamp_of_many, defBody s_is_lamp_of_many, defScope s_is_lamp_of_many, [], []⟩
def hd_is_net : He.DefD := ⟨("is_net", none), "is_net", "is_net", defArgs s_is_net, defBody s_is_net, defScope s_is_net, [], []⟩
def hd_need_net : He.DefD := ⟨("need_net", none), "need_net", "need_net", defArgs s_need_net, defBody s_need_net, defScope s_need_net, [], []⟩
def hd_need_lamp : He.DefD := ⟨("need_lamp", none), "need_lamp", "need_lamp", defArgs s_need_lamp, defBody s_need_lamp, defScope s_need_lamp, [], []⟩
def hd_way_of : He.DefD := ⟨("way_of", none), "way_of", "way_of", defArgs s_way_of, defBody s_way_of, defScope s_way_of, [], []⟩
def hd_rings : He.DefD := ⟨("rings", none), "rings", "rings", defArgs s_rings, defBody s_rings, defScope s_rings, [], []⟩
def hd_lap_of : He.DefD := ⟨("lap_of", none), "lap_of", "lap_of", defArgs s_lap_of, defBody s_lap_of, defScope s_lap_of, [], []⟩
def hd_law_wick : He.DefD := ⟨("_law_wick", none), "_law_wick", "_law_wick", defArgs s_law_wick, defBody s_law_wick, defScope s_law_wick, [], []⟩
def hd_law_pick : He.DefD := ⟨("_law_pick", none), "_law_pick", "_law_pick", defArgs s_law_pick, defBody s_law_pick, defScope s_law_pick, [], []⟩
def hd_law_burns : He.DefD := ⟨("_law_burns", none), "_law_burns", "_law_burns", defArgs s_law_burns, defBody s_law_burns, defScope s_law_burns, [], []⟩
def hd_law_mesh : He.DefD := ⟨("_law_mesh", none), "_law_mesh", "_law_mesh", defArgs s_law_mesh, defBody s_law_mesh, defScope s_law_mesh, [], []⟩
def hd_law_way : He.DefD := ⟨("_law_way", none), "_law_way", "_law_way", defArgs s_law_way, defBody s_law_way, defScope s_law_way, [], []⟩
def hd_law_loops : He.DefD := ⟨("_law_loops", none), "_law_loops", "_law_loops", defArgs s_law_loops, defBody s_law_loops, defScope s_law_loops, [], []⟩
def hd_law_lap : He.DefD := ⟨("_law_lap", none), "_law_lap", "_law_lap", defArgs s_law_lap, defBody s_law_lap, defScope s_law_lap, [], []⟩
def hd_law_right : He.DefD := ⟨("_law_right", none), "_law_right", "_law_right", defArgs s_law_right, defBody s_law_right, defScope s_law_right, [], []⟩
def hd_law : He.DefD := ⟨("law", none), "law", "law", defArgs s_law, defBody s_law, defScope s_law, [], []⟩
def hfn : List He.DefD := [hd_is_whole, hd_is_pair, hd_is_number_of_many, hd_is_lamp_of_many, hd_is_net, hd_need_net, hd_need_lamp, hd_way_of, hd_rings, hd_lap_of, hd_law_wick, hd_law_pick, hd_law_burns, hd_law_mesh, hd_law_way, hd_law_loops, hd_law_lap, hd_law_right, hd_law]
def hfa : List He.Fa := [.glo "is_whole", .glo "is_pair", .glo "is_number_of_many", .glo "is_lamp_of_many", .glo "is_net", .glo "need_net", .glo "need_lamp", .glo "way_of", .glo "rings", .glo "lap_of", .glo "_law_wick", .glo "_law_pick", .glo "_law_burns", .glo "_law_mesh", .glo "_law_way", .glo "_law_loops", .glo "_law_lap", .glo "_law_right", .glo "law", .free "all", .free "bool", .free "enumerate", .free "int", .free "isinstance", .free "len", .free "list", .free "max", .free "min", .free "range", .free "repr", .free "sorted", .free "sum", .free "tuple", .int "MOST_LAMPS" 12, .glo "EmberError", .glo "NoNet", .glo "NoLamp"]
def htf : List (Str × Option Str) := [("is_net", none)]
abbrev hR : PySem.W.OpenRow := PySem.W.OpenLaw.row PySem.Challenge.rw_emberlane_k04_rings_and_laps
abbrev hk : PySem.W.Hook := He.hookX 5 hfa hfn [] htf hex
def hob (s : PySem.W.SharedT) : He.AlX := He.obsX 5 hfa hfn [] htf hex (HandSHeadRun.getT s)
theorem hob_eq (s : PySem.W.SharedT) : hob s = hk.obs s.abs := He.obsX_eq (HandSHeadRun.getT_eq s)
def hloose : List PySem.Str := ["EmberError", "MOST_LAMPS", "NoLamp", "NoNet", "_law_burns", "_law_lap", "_law_loops", "_law_mesh", "_law_pick", "_law_right", "_law_way", "_law_wick", "is_lamp_of_many", "is_net", "is_number_of_many", "is_pair", "is_whole", "lap_of", "need_lamp", "need_net", "rings", "way_of"]
theorem hrun (w : World) : HandSHeadRun.RunEq hR (PySem.W.view hR.prog [25]) hk hob 40000 hloose w := by
  intro os
  kernel_rfl
theorem hfacts {w : World} {K : PySem.W.Frag} {h : Heap} {mg : Str → Option Value} {f : Addr} (X : K.In h) (G : h.Ns mainGlobals mg) (hfa_ : mg ("law" : Str) = some (.ref f)) (c : He.SaysX hfa hfn [] htf hex w h K) :
    ∃ a : Ad, Tx K mg a ∧ a.a_law = f ∧ (a.cd_is_net, a.tb_is_net) = He.cT K ("is_net", none) := by
  have cd : He.SaysD hfa hfn K := c.t.d
  obtain ⟨d0, F0⟩ := cd.def_ 0 (d := hd_is_whole) rfl
  obtain ⟨d1, F1⟩ := cd.def_ 1 (d := hd_is_pair) rfl
  obtain ⟨d2, F2⟩ := cd.def_ 2 (d := hd_is_number_of_many) rfl
  obtain ⟨d3, F3⟩ := cd.def_ 3 (d := hd_is_lamp_of_many) rfl
  obtain ⟨d4, F4⟩ := cd.def_ 4 (d := hd_is_net) rfl
  obtain ⟨d5, F5⟩ := cd.def_ 5 (d := hd_need_net) rfl
  obtain ⟨d6, F6⟩ := cd.def_ 6 (d := hd_need_lamp) rfl
  obtain ⟨d7, F7⟩ := cd.def_ 7 (d := hd_way_of) rfl
  obtain ⟨d8, F8⟩ := cd.def_ 8 (d := hd_rings) rfl
  obtain ⟨d9, F9⟩ := cd.def_ 9 (d := hd_lap_of) rfl
  obtain ⟨d10, F10⟩ := cd.def_ 10 (d := hd_law_wick) rfl
  obtain ⟨d11, F11⟩ := cd.def_ 11 (d := hd_law_pick) rfl
  obtain ⟨d12, F12⟩ := cd.def_ 12 (d := hd_law_burns) rfl
  obtain ⟨d13, F13⟩ := cd.def_ 13 (d := hd_law_mesh) rfl
  obtain ⟨d14, F14⟩ := cd.def_ 14 (d := hd_law_way) rfl
  obtain ⟨d15, F15⟩ := cd.def_ 15 (d := hd_law_loops) rfl
  obtain ⟨d16, F16⟩ := cd.def_ 16 (d := hd_law_lap) rfl
  obtain ⟨d17, F17⟩ := cd.def_ 17 (d := hd_law_right) rfl
  obtain ⟨d18, F18⟩ := cd.def_ 18 (d := hd_law) rfl
  have e0 : f = He.ga K "law" := by
    have e := hfa_.symm.trans (He.glo_ok X G (cd.fact 18 (f := .glo "law") rfl))
    cases e
    rfl
  refine ⟨{ a_is_whole := He.fAd K hd_is_whole.at_, f_is_whole := d0, a_is_pair := He.fAd K hd_is_pair.at_, f_is_pair := d1, a_is_number_of_many := He.fAd K hd_is_number_of_many.at_, f_is_number_of_many := d2, a_is_lamp_of_many := He.fAd K hd_is_lamp_of_many.at_, f_is_lamp_of_many := d3, a_is_net := He.fAd K hd_is_net.at_, f_is_net := d4, a_need_net := He.fAd K hd_need_net.at_, f_need_net := d5, a_need_lamp := He.fAd K hd_need_lamp.at_, f_need_lamp := d6, a_way_of := He.fAd K hd_way_of.at_, f_way_of := d7, a_rings := He.fAd K hd_rings.at_, f_rings := d8, a_lap_of := He.fAd K hd_lap_of.at_, f_lap_of := d9, a_law_wick := He.fAd K hd_law_wick.at_, f_law_wick := d10, a_law_pick := He.fAd K hd_law_pick.at_, f_law_pick := d11, a_law_burns := He.fAd K hd_law_burns.at_, f_law_burns := d12, a_law_mesh := He.fAd K hd_law_mesh.at_, f_law_mesh := d13, a_law_way := He.fAd K hd_law_way.at_, f_law_way := d14, a_law_loops := He.fAd K hd_law_loops.at_, f_law_loops := d15, a_law_lap := He.fAd K hd_law_lap.at_, f_law_lap := d16, a_law_right := He.fAd K hd_law_right.at_, f_law_right := d17, a_law := He.fAd K hd_law.at_, f_law := d18, c_EmberError := He.ga K "EmberError", c_NoNet := He.ga K "NoNet", c_NoLamp := He.ga K "NoLamp", cd_is_net := He.codeOf K ("is_net", none), tb_is_net := (He.cT K ("is_net", none)).2 }, ?_, e0.symm, rfl⟩
  exact ⟨Df.mk' F0 (He.glo_ok X G (cd.fact 0 (f := .glo "is_whole") rfl)) (fun _ _ _ _ _ _ us hl => match us, hl with | [_], _ => rfl),
    Df.mk' F1 (He.glo_ok X G (cd.fact 1 (f := .glo "is_pair") rfl)) (fun _ _ _ _ _ _ us hl => match us, hl with | [_], _ => rfl),
    Df.mk' F2 (He.glo_ok X G (cd.fact 2 (f := .glo "is_number_of_many") rfl)) (fun _ _ _ _ _ _ us hl => match us, hl with | [_, _], _ => rfl),
    Df.mk' F3 (He.glo_ok X G (cd.fact 3 (f := .glo "is_lamp_of_many") rfl)) (fun _ _ _ _ _ _ us hl => match us, hl with | [_, _], _ => rfl),
    Df.mk' F4 (He.glo_ok X G (cd.fact 4 (f := .glo "is_net") rfl)) (fun _ _ _ _ _ _ us hl => match us, hl with | [_], _ => rfl),
    Df.mk' F5 (He.glo_ok X G (cd.fact 5 (f := .glo "need_net") rfl)) (fun _ _ _ _ _ _ us hl => match us, hl with | [_], _ => rfl),
    Df.mk' F6 (He.glo_ok X G (cd.fact 6 (f := .glo "need_lamp") rfl)) (fun _ _ _ _ _ _ us hl => match us, hl with | [_, _], _ => rfl),
    Df.mk' F7 (He.glo_ok X G (cd.fact 7 (f := .glo "way_of") rfl)) (fun _ _ _ _ _ _ us hl => match us, hl with | [_, _], _ => rfl),
    Df.mk' F8 (He.glo_ok X G (cd.fact 8 (f := .glo "rings") rfl)) (fun _ _ _ _ _ _ us hl => match us, hl with | [_], _ => rfl),
    Df.mk' F9 (He.glo_ok X G (cd.fact 9 (f := .glo "lap_of") rfl)) (fun _ _ _ _ _ _ us hl => match us, hl with | [_, _], _ => rfl),
    Df.mk' F10 (He.glo_ok X G (cd.fact 10 (f := .glo "_law_wick") rfl)) (fun _ _ _ _ _ _ us hl => match us, hl with | [_, _], _ => rfl),
    Df.mk' F11 (He.glo_ok X G (cd.fact 11 (f := .glo "_law_pick") rfl)) (fun _ _ _ _ _ _ us hl => match us, hl with | [_, _], _ => rfl),
    Df.mk' F12 (He.glo_ok X G (cd.fact 12 (f := .glo "_law_burns") rfl)) (fun _ _ _ _ _ _ us hl => match us, hl with | [_], _ => rfl),
    Df.mk' F13 (He.glo_ok X G (cd.fact 13 (f := .glo "_law_mesh") rfl)) (fun _ _ _ _ _ _ us hl => match us, hl with | [_], _ => rfl),
    Df.mk' F14 (He.glo_ok X G (cd.fact 14 (f := .glo "_law_way") rfl)) (fun _ _ _ _ _ _ us hl => match us, hl with | [_, _], _ => rfl),
    Df.mk' F15 (He.glo_ok X G (cd.fact 15 (f := .glo "_law_loops") rfl)) (fun _ _ _ _ _ _ us hl => match us, hl with | [_], _ => rfl),
    Df.mk' F16 (He.glo_ok X G (cd.fact 16 (f := .glo "_law_lap") rfl)) (fun _ _ _ _ _ _ us hl => match us, hl with | [_, _], _ => rfl),
    Df.mk' F17 (He.glo_ok X G (cd.fact 17 (f := .glo "_law_right") rfl)) (fun _ _ _ _ _ _ us hl => match us, hl with | [_], _ => rfl),
    Df.mk' F18 (He.glo_ok X G (cd.fact 18 (f := .glo "law") rfl)) (fun _ _ _ _ _ _ us hl => match us, hl with | [_], _ => rfl),
    He.free_ok X G (cd.fact 19 (f := .free "all") rfl),
    He.free_ok X G (cd.fact 20 (f := .free "bool") rfl),
    He.free_ok X G (cd.fact 21 (f := .free "enumerate") rfl),
    He.free_ok X G (cd.fact 22 (f := .free "int") rfl),
    He.free_ok X G (cd.fact 23 (f := .free "isinstance") rfl),
    He.free_ok X G (cd.fact 24 (f := .free "len") rfl),
    He.free_ok X G (cd.fact 25 (f := .free "list") rfl),
    He.free_ok X G (cd.fact 26 (f := .free "max") rfl),
    He.free_ok X G (cd.fact 27 (f := .free "min") rfl),
    He.free_ok X G (cd.fact 28 (f := .free "range") rfl),
    He.free_ok X G (cd.fact 29 (f := .free "repr") rfl),
    He.free_ok X G (cd.fact 30 (f := .free "sorted") rfl),
    He.free_ok X G (cd.fact 31 (f := .free "sum") rfl),
    He.free_ok X G (cd.fact 32 (f := .free "tuple") rfl),
    He.int_ok X G (cd.fact 33 (f := .int "MOST_LAMPS" 12) rfl),
    codeIs_of (p := hd_is_net.at_) (x := "is_net") (qual := "is_net") (st := s_is_net) (funOf F4),
    He.glo_ok X G (cd.fact 34 (f := .glo "EmberError") rfl),
    He.glo_ok X G (cd.fact 35 (f := .glo "NoNet") rfl),
    He.glo_ok X G (cd.fact 36 (f := .glo "NoLamp") rfl)⟩
theorem law_all {w : World} {K : PySem.W.Frag} {h : Heap} {mg : Str → Option Value} {f : Addr} (X : K.In h) (G : h.Ns mainGlobals mg) (hm : mg ("law" : Str) = some (.ref f)) (c : He.SaysX hfa hfn [] htf hex w h K) : LawG PySem.Challenge.rw_emberlane_k04_rings_and_laps w K 11 63 "script" mg f h := by
  obtain ⟨a, T, rfl, ec⟩ := hfacts X G hm c
  refine ⟨a.f_law, [(a.cd_is_net, a.tb_is_net)], spLaw (K := K) a.tb_is_net, fun p hp => ?_, fun s u => ?_, fun H b ns hn _ hT hS => ?_, fun base XB GB TB => ok_law T (TB (a.cd_is_net, a.tb_is_net) (by simp))⟩
  · obtain rfl : p = (a.cd_is_net, a.tb_is_net) := by simpa using hp
    have m : (("is_net", none) : Str × Option Str) ∈ htf := by simp [htf]
    rw [ec]
    exact ⟨c.empty _ m, c.out _ m, PySem.W.codeHd_of_K X (c.hd _ m)⟩
  · obtain ⟨oc, od, kV, doc, pm, an, cdv, ct, osl, e, lk, hcd⟩ := T.law.F.ex
    rw [e]
    exact BindsTo.of_eq rfl
  · exact ⟨b, ns, rfl, hS, hn, ⟨#[], hT (a.cd_is_net, a.tb_is_net) (by simp), by simp [TriplesOk]⟩, fun H' => rfl⟩
end K04
open PySem PySem.W PySem.Calls PyProof.Rows
set_option maxRecDepth 100000 in
set_option maxHeartbeats 0 in
theorem PySem.Challenge.cw_emberlane_k04_rings_and_laps_holds : PySem.Challenge.rw_emberlane_k04_rings_and_laps.Holds := by
  w_on; o_law
  refine HandSHeadRun.head_any (r := OpenLaw.row PySem.Challenge.rw_emberlane_k04_rings_and_laps) (q := view (OpenLaw.row PySem.Challenge.rw_emberlane_k04_rings_and_laps).prog [25]) (H := K04.hk) (ob := K04.hob) (M := 40000) (loose := K04.hloose) (d := HandSHeadRun.topDef (OpenLaw.row PySem.Challenge.rw_emberlane_k04_rings_and_laps).prog 25) (kwd := []) K04.hob_eq
    (by kernel_rfl) (fun s => by kernel_rfl) K04.hrun (by kernel_rfl) (by kernel_rfl) (by kernel_rfl) (by rfl) (by first | assumption | decide +kernel) (by decide +kernel) ⟨rfl, rfl, rfl, rfl, rfl, by decide +kernel⟩ ?hw ?hc
  case hw => w_witness2
  case hc =>
    refine Em.walkG (l := PySem.Challenge.rw_emberlane_k04_rings_and_laps) (n := 63) (k := 11) (x := "script") rfl (by decide) (by kernel_rfl) ⟨rfl, by decide, by decide⟩ ?F
    intro w mg fa h Y G hmg0
    obtain ⟨K, KX, c⟩ := Y
    have hmg : mg ("law" : PySem.Str) = some (.ref fa) := by
      have e : (HandSHeadRun.topDef (OpenLaw.row PySem.Challenge.rw_emberlane_k04_rings_and_laps).prog 25).name = ("law" : PySem.Str) := by kernel_rfl
      rw [← e]
      exact hmg0
    exact ⟨K, KX, K04.law_all KX G hmg c⟩


