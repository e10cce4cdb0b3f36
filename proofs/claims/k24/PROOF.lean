import PyProof.Rows.All
import Wide.All
import OpenK.AllK
import Wide.FinOn
import HandS.ForMost
import HandS.ForExc
import HandS.IsInst
import HandS.AnyAll
import HandS.Nested
import HandS.Wide
import HandS.TupAny
import HandS.Flow
import HandS.Conv
import HandS.HeadHook4
import HandS.HeadWalk
import HandS.EndTab
import HandS.Walk
import HandS.SortRule
import HandS.TupMul
import HandS.Dict
import HandS.Style
import HandS.Zip
import HandS.Iter
import KE.GoesEnum
import KE.GoesMore
import HandS.Codes
import HandS.Evl
import HandS.Defaults
import HandS.SortInts
import HandS.MapSum
import HandS.Head0
import HandS.Head1
import HandS.Head2
import PySem.Challenge.RW_emberlane_k24_whole_alone_in_an_embers
set_option Elab.async false
set_option linter.all false
set_option maxRecDepth 100000
set_option maxHeartbeats 4000000
/-! Quiet code: small defs that only read, so that a generator expression may call them. -/
namespace Qt
open PySem PySem.Spec PyProof.Rows L2

abbrev Up (h g : Heap) : Prop := ∀ b o, h.get? b = some o → g.get? b = some o
theorem Up.rfl' {h : Heap} : Up h h := fun _ _ e => e
theorem Up.tr {h g k : Heap} (a : Up h g) (b : Up g k) : Up h k := fun c o e => b c o (a c o e)
theorem up_lt {h g : Heap} (a : Up h g) {L : Addr} (hL : g.objs.size ≤ L) : h.get? L = none := by
  cases q : h.get? L with
  | none => rfl
  | some o => exact absurd (Nat.lt_of_lt_of_le (Heap.lt_size (a _ _ q)) hL) (Nat.lt_irrefl _)

/-- where quiet code stands: the program, the written part, the things that are read, a heap that stays -/
structure Qc where
  prog : Program
  w : World
  K : PySem.W.Frag
  mg : Str → Option Value
  H : Hp
  hd : Heap

structure Qc.Ok (c : Qc) : Prop where
  kin : c.K.In c.hd
  glo : c.hd.Ns mainGlobals c.mg
  bui : ∃ mb, c.hd.Ns builtinsNs mb ∧ ∀ x : Str, x ≠ "__name__" → mb x = bootBuiltins x
  lim : c.hd.NoLimit
  hok : HOk c.prog c.w c.H c.hd

/-- the names of a frame -/
abbrev Nm := List (Str × V)
structure At (c : Qc) (env : Env) (N : Nm) (h : Heap) : Prop where
  up : Up c.hd h
  kd : env.scope.kind = .function
  gl : env.globals = mainGlobals
  bl : env.builtins = builtinsNs
  nm : ∃ m, h.Ns env.locals m ∧ ∀ x v, N.lookup x = some v → ∃ u, RelV v u ∧ Look env h m x u
theorem look_up {env : Env} {h g : Heap} {m : Str → Option Value} {x : Str} {u : Value} (k : Up h g) (l : Look env h m x u) : Look env g m x u := by
  rcases l with l | ⟨l, a, e, i⟩
  · exact .inl l
  · exact .inr ⟨l, a, e, i.keeps k⟩
theorem At.more {c : Qc} {env : Env} {N : Nm} {h g : Heap} (a : At c env N h) (k : Up h g) : At c env N g :=
  ⟨a.up.tr k, a.kd, a.gl, a.bl, let ⟨m, n, q⟩ := a.nm; ⟨m, n.keeps k, fun x v e => let ⟨u, r, l⟩ := q x v e; ⟨u, r, look_up k l⟩⟩⟩

structure Rm (k : Nat) (A : Around) : Prop where
  hd : A.handled = none
  dp : A.depth + k < recursionLimit
theorem Rm.mono {j k : Nat} {A : Around} (r : Rm k A) (h : j ≤ k) : Rm j A := ⟨r.hd, by have := r.dp; omega⟩
theorem Rm.deeper {k : Nat} {A : Around} (r : Rm (k + 1) A) (env : Env) : Rm k (A.deeper env) := ⟨r.hd, by have := r.dp; show A.depth + 1 + k < _; omega⟩

section
variable (c : Qc) (k : Nat) (env : Env) (N : Nm)
/-- an expression that gives v and leaves all as it was -/
def QE (e : Expr) (v : V) : Prop := ∀ (A : Around) (E : Value → Shared → Prop) (Q : Value → Shared → Prop) (s : Shared), Rm k A → At c env N s.heap →
  (∀ u g tk, RelV v u → Up s.heap g → Q u { s with heap := g, toks := tk }) → wpAny (model c.prog c.w) A (eval e env) Q E s
/-- a test -/
def QT (e : Expr) (b : Bool) : Prop := ∀ (A : Around) (E : Value → Shared → Prop) (Q : Bool → Shared → Prop) (s : Shared), Rm k A → At c env N s.heap →
  (∀ g tk, Up s.heap g → Q b { s with heap := g, toks := tk }) → wpAny (model c.prog c.w) A (isTrue e env (eval e env)) Q E s
/-- arguments -/
def QA (es : List Expr) (vs : List V) : Prop := ∀ (pos : Pos) (A : Around) (E : Value → Shared → Prop) (Q : List Value → Shared → Prop) (s : Shared), Rm k A → At c env N s.heap →
  (∀ us g tk, Vals vs us → Up s.heap g → Q us { s with heap := g, toks := tk }) → wpAny (model c.prog c.w) A (spliced (backTo pos (starEach es env))) Q E s
/-- a block that returns v -/
def QB (st : List Stmt) (v : V) : Prop := ∀ (A : Around) (E : Value → Shared → Prop) (Q : Flow → Shared → Prop) (s : Shared), Rm k A → At c env N s.heap → c.hd.get? env.locals = none →
  (∀ u g tk, RelV v u → (∀ b o, b ≠ env.locals → s.heap.get? b = some o → g.get? b = some o) → Q (.ret u) { s with heap := g, toks := tk }) → wpAny (model c.prog c.w) A (execs st env) Q E s
end
/-- a def called -/
def QF (c : Qc) (k : Nat) (f : Addr) (fd : FuncData) (ps : List Str) (vs : List V) (v : V) : Prop := ∀ (A : Around) (R : Result → Shared → Prop) (args : Args) (us : List Value) (s : Shared), Rm k A → Up c.hd s.heap → BindsTo s fd args (ps.zip us) → Vals vs us →
  (∀ u g tk, RelV v u → Up s.heap g → R (.ok (.ret u)) { s with heap := g, toks := tk }) → codeAny (model c.prog c.w) A (.call (.ref f) args) R s

section
variable {c : Qc} {k : Nat} {env : Env} {N : Nm} {x : Str} {v : V} {e a b : Expr} {es : List Expr} {pos p : Pos}

theorem q_name (hN : N.lookup x = some v) (hd : (x == ("__debug__" : Str)) = false := by decide) (hcd : (x == ("__classdict__" : Str)) = false := by decide) : QE c k env N (.Name x pos) v := by
  intro A E Q s r i h
  obtain ⟨m, n, q⟩ := i.nm
  obtain ⟨u, ru, l⟩ := q x v hN
  have fin : Q u s := h u s.heap s.toks ru Up.rfl'
  rcases l with ⟨l1, l2⟩ | ⟨l1 | l1, ad, l2, l3⟩
  · exact wpAny_Name (wpAny_loadName_local i.kd l1 n l2 fin) hd
  · exact wpAny_Name (wpAny_loadName_cell i.kd l1 l2 l3 fin) hd
  · exact wpAny_Name (wpAny_loadName_free i.kd l1 l2 l3 fin hcd) hd
theorem q_int {i : Int} {j : Nat} : QE c k env N (.Constant (.int i) j pos) (.int i) := fun A E Q s r _ h =>
  wpAny_Constant_int (h _ s.heap _ ⟨_, rfl⟩ Up.rfl')
theorem q_bool {t : Bool} {j : Nat} : QE c k env N (.Constant (.bool t) j pos) (.bl t) := fun A E Q s r _ h =>
  Constant_bool (h _ s.heap s.toks rfl Up.rfl')
theorem q_none {j : Nat} : QE c k env N (.Constant .none j pos) .non := fun A E Q s r _ h =>
  Constant_none (h _ s.heap s.toks rfl Up.rfl')
/-- a module's own name, a built-in's name -/
theorem q_glob {u : Value} (O : c.Ok) (hg : env.kindOf x = some .globalImplicit) (hm : c.mg x = some u) (r : RelV v u) (hd : (x == ("__debug__" : Str)) = false := by decide) : QE c k env N (.Name x pos) v := fun A E Q s _ i h =>
  Calls.Name_function_global i.kd hg (Calls.loadGlobal_global (by rw [i.gl]; exact O.glo.keeps i.up) hm (h u s.heap s.toks r Up.rfl')) hd
theorem ld_b {A : Around} {E : Value → Shared → Prop} {Q : Value → Shared → Prop} {s : Shared} {u : Value} (O : c.Ok) (i : At c env N s.heap) (hg : env.kindOf x = some .globalImplicit) (hm : c.mg x = none) (hv : bootBuiltins x = some u) (h : Q u s)
    (hn : x ≠ "__name__") (hd : (x == ("__debug__" : Str)) = false) : wpAny (model c.prog c.w) A (eval (.Name x pos) env) Q E s := by
  obtain ⟨mb, n1, n2⟩ := O.bui
  exact Calls.Name_function_global i.kd hg (Calls.loadGlobal_builtin (by rw [i.gl]; exact O.glo.keeps i.up) hm (by rw [i.bl]; exact n1.keeps i.up) ((n2 x hn).trans hv) h) hd
theorem q_blt {u : Value} (O : c.Ok) (hg : env.kindOf x = some .globalImplicit) (hm : c.mg x = none) (hv : bootBuiltins x = some u) (r : RelV v u) (hn : x ≠ "__name__" := by decide) (hd : (x == ("__debug__" : Str)) = false := by decide) :
    QE c k env N (.Name x pos) v := fun A E Q s _ i h => ld_b O i hg hm hv (h u s.heap s.toks r Up.rfl') hn hd

/-! ### arguments, calls -/
theorem qa_nil : QA c k env N [] [] := fun _ _ _ _ s _ _ h => Calls.spliced_nil (h _ s.heap s.toks .nil Up.rfl')
theorem qa_cons {vs : List V} (he : QE c k env N e v) (hs : QA c k env N es vs) (st : starEach (e :: es) env = (false, eval e env) :: starEach es env := by rfl) : QA c k env N (e :: es) (v :: vs) := by
  intro pos A E Q s r i h
  rw [st]
  show wpAny _ A (spliced ((false, eval e env) :: backTo pos (starEach es env))) Q E s
  refine Calls.spliced_cons (he A E _ s r i fun u g tk ru up => ?_)
  exact hs pos A E _ _ r (i.more up) fun us g2 tk2 rus up2 => h (u :: us) g2 tk2 (.cons ru rus) (up.tr up2)

/-- a built-in function that reads -/
def QC (c : Qc) (id : String) (vs : List V) (v : V) : Prop := ∀ (A : Around) (E : Value → Shared → Prop) (Q : Value → Shared → Prop) (us : List Value) (s : Shared), Up c.hd s.heap → Vals vs us →
  (∀ u g tk, RelV v u → Up s.heap g → Q u { s with heap := g, toks := tk }) → wpAny (model c.prog c.w) A (call (.builtin id) us) Q E s
theorem q_callB {id : String} {vs : List V} (O : c.Ok) (hc : QC c id vs v) (hg : env.kindOf x = some .globalImplicit) (hm : c.mg x = none) (hv : bootBuiltins x = some (.builtin id)) (ha : QA c k env N (e :: es) vs)
    (hn : x ≠ "__name__" := by decide) (hd : (x == ("__debug__" : Str)) = false := by decide) (st : starEach (e :: es) env = (false, eval e env) :: starEach es env := by rfl) (hpl : (backTo pos (starEach es env)).any (·.1) = false := by rfl) :
    QE c k env N (.Call (.Name x p) (e :: es) [] pos) v := by
  intro A E Q s r i h
  refine wpAny_Call_Name_kw (ld_b O i hg hm hv ?_ hn hd)
  refine PyProof.Rows.callWith_builtin1 (ha pos A E _ s r i fun us g tk rus up => ?_) st hpl
  exact hc A E Q us _ (i.up.tr up) rus fun u g2 tk2 ru up2 => h u g2 tk2 ru (up.tr up2)
theorem q_call {f : Addr} {fd : FuncData} {ps : List Str} {vs : List V} (O : c.Ok) (F : QF c k f fd ps vs v) (hbd : Binds c.K fd ps []) (hl : vs.length = ps.length) (hg : env.kindOf x = some .globalImplicit) (hm : c.mg x = some (.ref f)) (hk : PySem.W.keepIn c.K (.ref f) = true) (ha : QA c k env N (e :: es) vs)
    (hd : (x == ("__debug__" : Str)) = false := by decide) (st : starEach (e :: es) env = (false, eval e env) :: starEach es env := by rfl) (hpl : (backTo pos (starEach es env)).any (·.1) = false := by rfl) :
    QE c k env N (.Call (.Name x p) (e :: es) [] pos) v := by
  intro A E Q s r i h
  refine wpAny_Call_Name_kw (Calls.Name_function_global i.kd hg (Calls.loadGlobal_global (by rw [i.gl]; exact O.glo.keeps i.up) hm ?_) hd)
  refine PySem.W.callWith_K (h₀ := c.hd) O.kin hk (ha pos A E _ s r i fun us g tk rus up => ⟨O.kin.keeps (i.up.tr up), ?_⟩) st hpl
  refine wpAny_call (F A _ ⟨us, []⟩ us _ r (i.up.tr up) (by simpa using hbd _ us (O.kin.keeps (i.up.tr up)) (by simpa [rus.length] using hl)) rus fun u g2 tk2 ru up2 => ?_)
  exact h u g2 tk2 ru (up.tr up2)

/-! ### and, or, not, comparisons -/
theorem q_andF {rest : List Expr} (ha : QE c k env N a (.bl false)) : QE c k env N (.BoolOp .And (a :: b :: rest) pos) (.bl false) := by
  intro A E Q s r i h
  refine BoolOp_and (ha A E _ s r i fun u g tk ru up => ?_)
  cases ru
  exact wpAny_truthy_bool (h _ g tk rfl up)
theorem q_andT {rest : List Expr} (ha : QE c k env N a (.bl true)) (hb : QE c k env N (.BoolOp .And (b :: rest) p) v) : QE c k env N (.BoolOp .And (a :: b :: rest) p) v := by
  intro A E Q s r i h
  refine BoolOp_and (ha A E _ s r i fun u g tk ru up => ?_)
  cases ru
  exact wpAny_truthy_bool (hb A E Q _ r (i.more up) fun u2 g2 tk2 r2 up2 => h u2 g2 tk2 r2 (up.tr up2))
theorem q_orT {rest : List Expr} (ha : QE c k env N a (.bl true)) : QE c k env N (.BoolOp .Or (a :: b :: rest) pos) (.bl true) := by
  intro A E Q s r i h
  refine BoolOp_or (ha A E _ s r i fun u g tk ru up => ?_)
  cases ru
  exact wpAny_truthy_bool (h _ g tk rfl up)
theorem q_orF {rest : List Expr} (ha : QE c k env N a (.bl false)) (hb : QE c k env N (.BoolOp .Or (b :: rest) p) v) : QE c k env N (.BoolOp .Or (a :: b :: rest) p) v := by
  intro A E Q s r i h
  refine BoolOp_or (ha A E _ s r i fun u g tk ru up => ?_)
  cases ru
  exact wpAny_truthy_bool (hb A E Q _ r (i.more up) fun u2 g2 tk2 r2 up2 => h u2 g2 tk2 r2 (up.tr up2))
theorem q_one {op : BoolOp} (ha : QE c k env N a v) : QE c k env N (.BoolOp op [a] pos) v := fun A E Q s r i h => BoolOp_one (ha A E Q s r i h)
theorem q_and2 {p1 p2 : Bool} (ha : QE c k env N a (.bl p1)) (hb : p1 = true → QE c k env N b (.bl p2)) : QE c k env N (.BoolOp .And [a, b] pos) (.bl (p1 && p2)) := by
  cases p1 with
  | false => exact q_andF ha
  | true => exact q_andT ha (q_one (hb rfl))
theorem q_or2 {p1 p2 : Bool} (ha : QE c k env N a (.bl p1)) (hb : p1 = false → QE c k env N b (.bl p2)) : QE c k env N (.BoolOp .Or [a, b] pos) (.bl (p1 || p2)) := by
  cases p1 with
  | true => exact q_orT ha
  | false => exact q_orF ha (q_one (hb rfl))
theorem q_not {t : Bool} (ha : QE c k env N a (.bl t)) : QE c k env N (.UnaryOp .Not a pos) (.bl (!t)) := by
  intro A E Q s r i h
  refine UnaryOp_ (ha A E _ s r i fun u g tk ru up => ?_)
  cases ru
  exact PyProof.Rows.not_of (wpAny_truthy_bool (h _ g tk rfl up))
/-- an operator on two ints -/
def QO (c : Qc) (op : CmpOp) (p : Int → Int → Bool) : Prop := ∀ (A : Around) (E : Value → Shared → Prop) (Q : Value → Shared → Prop) (i j : Int) (t u : Tok) (s : Shared), Q (.bool (p i j)) s → wpAny (model c.prog c.w) A (compareOp op (.int i t) (.int j u)) Q E s
theorem qo_lt : QO c .Lt fun i j => decide (i < j) := fun A E Q i j t u s h => PyProof.Rows.lt_int h
theorem qo_le : QO c .LtE fun i j => decide (i ≤ j) := fun A E Q i j t u s h => PyProof.Rows.le_int h
theorem qo_gt : QO c .Gt fun i j => decide (j < i) := fun A E Q i j t u s h => PyProof.Rows.gt_int h
theorem qo_ge : QO c .GtE fun i j => decide (j ≤ i) := fun A E Q i j t u s h => PyProof.Rows.ge_int h
theorem qo_eq : QO c .Eq fun i j => i == j := fun A E Q i j t u s h => PyProof.Rows.eq_int h
theorem q_cmp {op : CmpOp} {pr : Int → Int → Bool} {i j : Int} (ho : QO c op pr) (ha : QE c k env N a (.int i)) (hb : QE c k env N b (.int j)) (hm : behindInMarks op b = false) : QE c k env N (.Compare a [op] [b] pos) (.bl (pr i j)) := by
  intro A E Q s r i0 h
  refine wpAny_Compare1 (ha A E _ s r i0 fun u g tk ru up => hb A E _ _ r (i0.more up) fun u2 g2 tk2 r2 up2 => ?_) hm
  obtain ⟨t1, rfl⟩ := ru
  obtain ⟨t2, rfl⟩ := r2
  exact ho A E Q i j t1 t2 _ (h _ g2 tk2 rfl (up.tr up2))
theorem q_isN (ha : QE c k env N a v) {j : Nat} {p2 : Pos} : QE c k env N (.Compare a [.Is] [.Constant .none j p2] pos) (.bl (decide (v = .non))) := by
  intro A E Q s r i0 h
  refine wpAny_Compare1 (ha A E _ s r i0 fun u g tk ru up => Constant_none (PyProof.Rows.is_none_gen ?_)) rfl
  refine h _ g tk ?_ up
  show Value.bool (u == .none) = Value.bool (decide (v = .non))
  cases v <;> first
    | (cases ru; rfl)
    | (obtain ⟨t, rfl⟩ := ru; rfl)
/-- a < b < c on ints -/
theorem q_chain {op op' : CmpOp} {pr pr' : Int → Int → Bool} {i j m : Int} {d : Expr} (ho : QO c op pr) (ho' : QO c op' pr') (ha : QE c k env N a (.int i)) (hb : QE c k env N b (.int j)) (hd : QE c k env N d (.int m))
    (hm : lastMarks [op, op'] [b, d] = false := by with_unfolding_all rfl) : QE c k env N (.Compare a [op, op'] [b, d] pos) (.bl (pr i j && pr' j m)) := by
  intro A E Q s r i0 h
  refine Compare_chain (ha A E _ s r i0 fun u g tk ru up => chain_link (hb A E _ _ r (i0.more up) fun u2 g2 tk2 r2 up2 => ?_)) hm
  obtain ⟨t1, rfl⟩ := ru
  obtain ⟨t2, rfl⟩ := r2
  refine ho A E _ i j t1 t2 _ (wpAny_truthy_bool ?_)
  cases q : pr i j with
  | false =>
    rw [q] at h
    exact ite_ff (h _ g2 tk2 rfl (up.tr up2))
  | true =>
    rw [q] at h
    refine ite_tt (chain_last (hd A E _ _ r (i0.more (up.tr up2)) fun u3 g3 tk3 r3 up3 => ?_))
    obtain ⟨t3, rfl⟩ := r3
    refine ho' A E Q j m t2 t3 _ ?_
    have := h (.bool (pr' j m)) g3 tk3 rfl ((up.tr up2).tr up3)
    exact this

/-! ### tests -/
theorem qt_val {t : Bool} (ha : QE c k env N a (.bl t)) (he : ∀ whole, isTrue a env whole = (do let v ← whole; standAt a.pos; holding [v] (truthy v)) := by intro _; rfl) : QT c k env N a t := by
  intro A E Q s r i h
  refine isTrue_plain (ha A E _ s r i fun u g tk ru up => ?_) (he _)
  cases ru
  exact wpAny_truthy_bool (h g tk up)
theorem qt_cmp {op : CmpOp} {pr : Int → Int → Bool} {i j : Int} (ho : QO c op pr) (ha : QE c k env N a (.int i)) (hb : QE c k env N b (.int j)) (hm : behindInMarks op b = false) : QT c k env N (.Compare a [op] [b] pos) (pr i j) := by
  intro A E Q s r i0 h
  refine wpAny_isTrue_Compare1 (ha A E _ s r i0 fun u g tk ru up => hb A E _ _ r (i0.more up) fun u2 g2 tk2 r2 up2 => ?_) hm
  obtain ⟨t1, rfl⟩ := ru
  obtain ⟨t2, rfl⟩ := r2
  exact ho A E _ i j t1 t2 _ (wpAny_truthy_bool (h g2 tk2 (up.tr up2)))
theorem qt_not {t : Bool} (ha : QT c k env N a t) : QT c k env N (.UnaryOp .Not a pos) (!t) := fun A E Q s r i h =>
  isTrue_not (ha A E _ s r i fun g tk up => h g tk up)
theorem qt_orT {rest : List Expr} (ha : QT c k env N a true) : QT c k env N (.BoolOp .Or (a :: rest) pos) true := fun A E Q s r i h =>
  isTrue_or (ha A E _ s r i fun g tk up => ite_tt (h g tk up))
theorem qt_or2 {t : Bool} (ha : QT c k env N a false) (hb : QT c k env N b t) : QT c k env N (.BoolOp .Or [a, b] pos) t := fun A E Q s r i h => by
  refine isTrue_or (ha A E _ s r i fun g tk up => ite_ff ?_)
  refine isTrue_or (hb A E _ _ r (i.more up) fun g2 tk2 up2 => ?_)
  cases t with
  | true => exact ite_tt (h g2 tk2 (up.tr up2))
  | false => exact ite_ff (isTrue_or_nil (h g2 tk2 (up.tr up2)))
theorem qt_andF {rest : List Expr} (ha : QT c k env N a false) : QT c k env N (.BoolOp .And (a :: rest) pos) false := fun A E Q s r i h =>
  isTrue_and (ha A E _ s r i fun g tk up => ite_ff (h g tk up))
theorem qt_and2 {t : Bool} (ha : QT c k env N a true) (hb : QT c k env N b t) : QT c k env N (.BoolOp .And [a, b] pos) t := fun A E Q s r i h => by
  refine isTrue_and (ha A E _ s r i fun g tk up => ite_tt ?_)
  refine isTrue_and (hb A E _ _ r (i.more up) fun g2 tk2 up2 => ?_)
  cases t with
  | true => exact ite_tt (isTrue_and_nil (h g2 tk2 (up.tr up2)))
  | false => exact ite_ff (h g2 tk2 (up.tr up2))

/-! ### blocks -/
theorem qb_ret {rest : List Stmt} (he : QE c k env N e v) : QB c k env N (.Return (some e) pos :: rest) v := by
  intro A E Q s r i _ h
  refine wpAny_execs_cons (wpAny_Return_some (he A E _ s r i fun u g tk ru up => ?_))
  exact h u g tk ru fun b o _ q => up b o q
theorem qb_ifT {body orelse rest : List Stmt} (ht : QT c k env N e true) (hb : QB c k env N body v) : QB c k env N (.If e body orelse pos :: rest) v := by
  intro A E Q s r i hL h
  refine wpAny_execs_cons (wpAny_If (ht A E _ s r i fun g tk up => ite_tt ?_))
  refine hb A E _ _ r (i.more up) hL fun u g2 tk2 ru k2 => ?_
  exact h u g2 tk2 ru fun b o nb q => k2 b o nb (up b o q)
theorem qb_ifF {body rest : List Stmt} (ht : QT c k env N e false) (hb : QB c k env N rest v) : QB c k env N (.If e body [] pos :: rest) v := by
  intro A E Q s r i hL h
  refine wpAny_execs_cons (wpAny_If (ht A E _ s r i fun g tk up => ite_ff (wpAny_execs_nil ?_)))
  refine hb A E _ _ r (i.more up) hL fun u g2 tk2 ru k2 => ?_
  exact h u g2 tk2 ru fun b o nb q => k2 b o nb (up b o q)
end
end Qt

namespace Qt
open PySem PySem.Spec PyProof.Rows L2

/-! ### kinds, sizes -/
/-- the class of a thing that is read -/
inductive Knd (c : Qc) : V → String → Prop where
  | non : Knd c .non "NoneType"
  | bl (b : Bool) : Knd c (.bl b) "bool"
  | int (i : Int) : Knd c (.int i) "int"
  | str (z : Str) : Knd c (.str z) "str"
  | lst {a : Addr} (h : PySem.W.KitAt a "list" c.hd) : Knd c (.ref a) "list"
  | tup {a : Addr} (h : PySem.W.KitAt a "tuple" c.hd) : Knd c (.ref a) "tuple"
  | dic {a : Addr} (h : PySem.W.KitAt a "dict" c.hd) : Knd c (.ref a) "dict"
theorem kitAt_up {a : Addr} {T : String} {h g : Heap} (k : Up h g) (x : PySem.W.KitAt a T h) : PySem.W.KitAt a T g :=
  let ⟨o, e, q⟩ := x; ⟨o, k _ _ e, q⟩
theorem qc_isi {c : Qc} {x : V} {T C : String} {b : Bool} (O : c.Ok) (ky : Knd c x T) (e : PySem.W.kitOne c.K (.type T) (.type C) = some b) : QC c "isinstance" [x, .ty C] (.bl b) := by
  intro A E Q us s up r h
  cases r with
  | @cons _ u1 _ _ r1 r' =>
    cases r' with
    | @cons _ u2 _ _ r2 r'' =>
      cases r''
      obtain rfl : u2 = Value.type C := r2
      have fin : ∀ tk, Q (.bool b) { s with toks := tk } := fun tk => h _ s.heap tk rfl Up.rfl'
      have kin := O.kin.keeps up
      cases ky with
      | non => cases r1; exact PySem.W.kia_one PySem.W.kitx_none kin trivial e (fun z => by cases z) fin
      | bl y => cases r1; exact PySem.W.kia_one PySem.W.kitx_bool kin trivial e (fun z => by cases z) fin
      | int i => obtain ⟨t, rfl⟩ := r1; exact PySem.W.kia_one PySem.W.kitx_int kin trivial e (fun z => by cases z) fin
      | str z => obtain ⟨t, rfl⟩ := r1; exact PySem.W.kia_one PySem.W.kitx_str kin trivial e (fun z => by cases z) fin
      | lst p => cases r1; exact PySem.W.kia_one PySem.W.kitx_list kin (kitAt_up up p) e (fun z => by cases z) fin
      | tup p => cases r1; exact PySem.W.kia_one PySem.W.kitx_tuple kin (kitAt_up up p) e (fun z => by cases z) fin
      | dic p => cases r1; exact PySem.W.kia_one PySem.W.kitx_dict kin (kitAt_up up p) e (fun z => by cases z) fin
/-- a tuple that is read -/
def TupQ (c : Qc) (a : Addr) (xs : List V) : Prop := ∃ its : List Value, Vals xs its ∧ IsTup c.hd a its.toArray ∧ xs.length ≤ sizeLine
theorem TupQ.kit {c : Qc} {a : Addr} {xs : List V} (t : TupQ c a xs) : Knd c (.ref a) "tuple" := by
  obtain ⟨its, _, ⟨o, e, q, _⟩, _⟩ := t
  exact .tup ⟨o, e, q⟩
theorem isTup_up {h g : Heap} {a : Addr} {vs : Array Value} (k : Up h g) (t : IsTup h a vs) : IsTup g a vs :=
  let ⟨o, e, q⟩ := t; ⟨o, k _ _ e, q⟩
theorem qc_lenT {c : Qc} {a : Addr} {xs : List V} (t : TupQ c a xs) : QC c "len" [.ref a] (.int xs.length) := by
  intro A E Q us s up r h
  obtain ⟨its, rv, ht, hz⟩ := t
  cases r with
  | @cons _ u1 _ _ r1 r' =>
    cases r'
    obtain rfl : u1 = Value.ref a := r1
    have hl := rv.length
    have h63 := line63
    refine PyProof.Rows.len_tuple (isTup_up up ht) (by simp only [List.size_toArray]; omega) ?_
    exact h _ s.heap _ ⟨_, by rw [List.size_toArray, hl]⟩ Up.rfl'
/-! ### a, b = t -/
theorem qb_two {c : Qc} {k : Nat} {env : Env} {N : Nm} {x y : Str} {a : Addr} {v1 v2 v : V} {e : Expr} {rest : List Stmt} {pos p1 p2 p3 : Pos} {kt : Nat} (he : QE c k env N e (.ref a)) (ht : TupQ c a [v1, v2]) (hx : env.kindOf x = some .local) (hy : env.kindOf y = some .local)
    (hN : ∀ z, N.lookup z ≠ none → env.kindOf z = some .local) (hb : QB c k env ((y, v2) :: (x, v1) :: N) rest v)
    (hs : swapsWithSole [.Tuple [.Name x p1, .Name y p2] kt p3] e pos.line env = pure false := by rfl) (hw : swappedStores [.Tuple [.Name x p1, .Name y p2] kt p3] e env = pure none := by rfl)
    (h1 : (assignEach [.Tuple [.Name x p1, .Name y p2] kt p3] env).map (·.2) = [assign (.Tuple [.Name x p1, .Name y p2] kt p3) env] := by rfl)
    (h2 : (assignEach [.Name x p1, .Name y p2] env).map (·.2) = [assign (.Name x p1) env, assign (.Name y p2) env] := by rfl)
    (hn : (assignEach [.Name x p1, .Name y p2] env).length = 2 := by rfl) (hst : (assignEach [.Name x p1, .Name y p2] env).findIdx? (·.1) = none := by rfl) :
    QB c k env N (.Assign [.Tuple [.Name x p1, .Name y p2] kt p3] e pos :: rest) v := by
  intro A E Q s r i hL h
  obtain ⟨its, rv, ht, hz⟩ := ht
  obtain ⟨w1, w2, rfl, r1, r2⟩ := vals2 rv
  have hpl : (env.scope.kind == .class || (env.scope.kind == .module && env.locals != env.globals)) = false := by rw [i.kd]; rfl
  refine wpAny_execs_cons (wpAny_Assign_stores (he A E _ s r i fun u g tk ru up => ?_) hs hw)
  obtain rfl : u = Value.ref a := ru
  have i1 := i.more up
  rw [h1]
  show wpAny _ A (assign (.Tuple [.Name x p1, .Name y p2] kt p3) env (.ref a)) _ _ _
  refine assign_Tuple_tuple r.hd (isTup_up i1.up ht) (by rw [hn]; rfl) hst fun g1 hx1 => ?_
  rw [h2]
  have up1 : Up g g1 := fun b o q => hx1 b o (Nat.ne_of_lt (Heap.lt_size q)) q
  have i2 := i1.more up1
  obtain ⟨m, n, q⟩ := i2.nm
  refine assignInOrder_cons (wpAny_assign_Name (wpAny_storeName_local hx n (fun g2 n2 sb2 => ?_) hpl))
  refine assignInOrder_cons (wpAny_assign_Name (wpAny_storeName_local hy n2 (fun g3 n3 sb3 => assignInOrder_nil ?_) hpl))
  have k13 : ∀ b o, b ≠ env.locals → g1.get? b = some o → g3.get? b = some o := fun b o nb q => sb3.extBut b o nb (sb2.extBut b o nb q)
  have nL : ∀ b o, c.hd.get? b = some o → b ≠ env.locals := fun b o q z => by
    rw [z, hL] at q
    cases q
  have i3 : At c env ((y, v2) :: (x, v1) :: N) g3 := by
    refine ⟨fun b o q => k13 b o (nL b o q) (i2.up b o q), i.kd, i.gl, i.bl, _, n3, fun z vz hz2 => ?_⟩
    by_cases ez : z = y
    · subst ez
      have e2 : v2 = vz := by simpa [List.lookup] using hz2
      exact ⟨w2, e2 ▸ r2, .inl ⟨hy, if_pos rfl⟩⟩
    · have ez' : (z == y) = false := by simpa using ez
      by_cases ex : z = x
      · subst ex
        have e2 : v1 = vz := by simpa [List.lookup, ez'] using hz2
        exact ⟨w1, e2 ▸ r1, .inl ⟨hx, by show (if z = y then _ else (if z = z then _ else _)) = _; rw [if_neg ez, if_pos rfl]⟩⟩
      · have ex' : (z == x) = false := by simpa using ex
        have e2 : N.lookup z = some vz := by simpa [List.lookup, ez', ex'] using hz2
        obtain ⟨u, ru, l⟩ := q z vz e2
        refine ⟨u, ru, .inl ?_⟩
        rcases l with ⟨l1, l2⟩ | ⟨l1, _⟩
        · exact ⟨l1, by show (if z = y then _ else (if z = x then _ else m z)) = _; rw [if_neg ez, if_neg ex]; exact l2⟩
        · have l3 := hN z (by rw [e2]; simp)
          rw [l3] at l1
          rcases l1 with l1 | l1 <;> cases l1
  refine hb A E Q _ r i3 hL fun u g4 tk4 ru k4 => ?_
  exact h u g4 tk4 ru fun b o nb q => k4 b o nb (k13 b o nb (up1 b o (up b o q)))

/-! ### a def entered -/
theorem zip_look {α : Type} {x : Str} {v : α} : ∀ {ps : List Str} {vs : List α}, (ps.zip vs).lookup x = some v → ∃ i : Nat, ps[i]? = some x ∧ vs[i]? = some v
  | [], _, h => by simp [List.lookup] at h
  | _ :: _, [], h => by simp [List.lookup] at h
  | p :: ps, w :: vs, h => by
    by_cases e : x = p
    · subst e
      refine ⟨0, rfl, ?_⟩
      simpa [List.lookup] using h
    · have e' : (x == p) = false := by simpa using e
      have h2 : (ps.zip vs).lookup x = some v := by simpa [List.lookup, e'] using h
      obtain ⟨i, h3, h4⟩ := zip_look h2
      exact ⟨i + 1, h3, h4⟩
theorem q_fun {c : Qc} {k : Nat} {x qual : Str} {st : Stmt} {f : Addr} {fd : FuncData} {N0 ps : List Str} {vs : List V} {v : V} (O : c.Ok) (F : Fun c.K x qual st f fd) (S : FnScope N0 ps (defScope st))
    (loc : ∀ p ∈ ps, (defScope st).names.lookup p = some .local) (hl : vs.length = ps.length) (body : ∀ (L : Addr) (cdv : Value), QB c k (envOfC qual (defScope st) L f cdv) (ps.zip vs) (defBody st) v) : QF c (k + 1) f fd ps vs v := by
  intro A R args us s r up bt rv h
  obtain ⟨oc, od, kV, doc, pm, an, cdv, ct, osl, e, lk, hcd⟩ := F.ex
  have kin := O.kin.keeps up
  have ndP : ps.Nodup := by rw [← S.pre]; exact S.nd.sublist (List.take_sublist _ _)
  rw [e] at bt lk
  refine Att.call_fn (binds := ps.zip us) kin (O.lim.keeps up) lk hcd (by have := r.dp; omega) bt ?_ (fun s1 IC => ?_) S.co S.gen S.kind
  · rw [List.all_eq_true]
    intro y hy
    have q := loc y.1 (List.of_mem_zip hy).1
    rw [q]
    rfl
  · obtain ⟨g, tk, rfl, hk⟩ := IC.done
    have hL : c.hd.get? s.heap.objs.size = none := up_lt up (Nat.le_refl _)
    have i : At c (envOfC qual (defScope st) s.heap.objs.size f cdv) (ps.zip vs) g := by
      refine ⟨up.tr hk, S.kind, rfl, rfl, _, IC.toInCall.ns, fun z vz hz => ?_⟩
      obtain ⟨j, h3, h4⟩ := zip_look hz
      obtain ⟨u, h5, h6⟩ := rv.get h4
      have kz := loc z (List.mem_of_getElem? h3)
      exact ⟨u, h6, .inl ⟨kz, bindL_get ndP h3 h5 kz⟩⟩
    refine body s.heap.objs.size cdv _ _ _ _ (r.deeper _) i hL fun u g2 tk2 ru k2 => ?_
    refine h u g2 tk2 ru fun b o q => k2 b o (Nat.ne_of_lt (Heap.lt_size q)) (hk b o q)
/-- a quiet def, called as any other -/
theorem fn_ofQ {P : Program} {w : World} {K : PySem.W.Frag} {mg : Str → Option Value} {base : Heap} {CX : CXT} {k : Nat} {f : Addr} {fd : FuncData} {ps : List Str} {sp : Sp} (len : ∀ vs H Q E, sp vs H Q E → vs.length = ps.length)
    (h : ∀ vs H Q E, sp vs H Q E → ∃ v, Q v H ∧ ∀ hd, (Qc.mk P w K mg H hd).Ok → QF ⟨P, w, K, mg, H, hd⟩ (3 * k) f fd ps vs v) : FnOk P w K mg base CX k f fd ps sp := by
  refine ⟨len, fun A outer s H args us vs Q E rm e0 bt rv hs => ?_⟩
  obtain ⟨v, q, hQ⟩ := h vs H Q E hs
  have up0 : ∀ b o, base.get? b = some o → s.heap.get? b = some o := fun b o e => (e0.bs b o e).1
  have OK : (Qc.mk P w K mg H s.heap).Ok := ⟨e0.mod.kin.keeps up0, e0.mod.glob.keeps up0, let ⟨mb, q1, q2⟩ := e0.mod.blt; ⟨mb, q1.keeps up0, q2⟩, e0.mod.nolimit.keeps up0, e0.hok⟩
  have hd := rm.dp
  refine hQ s.heap OK A _ args us s ⟨rm.hd, by omega⟩ Up.rfl' bt rv fun u g tk ru up => ?_
  exact ⟨v, H, rfl, e0.bare, Un.kept up, e0.hok.kept up, ru, q⟩
end Qt

namespace Qt
open PySem PySem.Spec PyProof.Rows L2

/-- what is held, the tables of code left out -/
def wipe (H : Hp) (P : Addr) : Hp := fun a => if a = P then none else H a
theorem wipe_of {H : Hp} {P a : Addr} {o : HO} (h : wipe H P a = some o) : a ≠ P ∧ H a = some o := by
  unfold wipe at h
  by_cases e : a = P
  · rw [if_pos e] at h
    cases h
  · rw [if_neg e] at h
    exact ⟨e, h⟩
theorem wipe_at {H : Hp} {P a : Addr} {o : HO} (e : a ≠ P) (h : H a = some o) : wipe H P a = some o := by
  unfold wipe
  rw [if_neg e]
  exact h
/-- a thing that a generator goes over: a tuple or a list, of the values its -/
structure Src (pr : Program) (w : World) (h1 : Heap) (ad : Addr) (its : Array Value) (o : Obj) (St : Addr → Nat → Heap → Prop) : Prop where
  lt : ad < h1.objs.size
  iter : ∀ (A : Around) (E Q : Value → Shared → Prop) (s : Shared), s.heap = h1 → Q (.ref h1.objs.size) { s with heap := h1.push o } → wpAny (model pr w) A (pyIter (.ref ad)) Q E s
  walks : ∀ (A : Around) (I : Addr), A.handled = none → ad ≠ I → Walks pr w A I [I, ad] [I] its.size (fun i v => its[i]? = some v) (St I)
  st0 : ∀ g : Heap, (∀ b u, (b = ad ∨ b = h1.objs.size) → (h1.push o).get? b = some u → g.get? b = some u) → St h1.objs.size 0 g
theorem src_list {pr : Program} {w : World} {h1 : Heap} {ad : Addr} {its : Array Value} (hl : h1.IsList ad its) :
    Src pr w h1 ad its { cls := .type "list_iterator", data := .fields #[.ref ad, .int 0 0] } (fun I i h => h.IsListIter I ad i ∧ h.IsList ad its) where
  lt := by
    obtain ⟨_, e, _⟩ := id hl
    exact Heap.lt_size e
  iter := fun A E Q s es h => by
    subst es
    exact wpAny_pyIter_list hl h
  walks := fun A I hh ne => Walks.list hh I ad ne its
  st0 := fun g k => ⟨⟨_, k _ _ (.inr rfl) (Heap.get?_push_size _ rfl), rfl, rfl⟩, by
    obtain ⟨ob, e, r⟩ := id hl
    exact ⟨ob, k _ _ (.inl rfl) (Heap.get?_push_of_some _ e), r⟩⟩
theorem src_tup {pr : Program} {w : World} {h1 : Heap} {ad : Addr} {its : Array Value} (hl : IsTup h1 ad its) :
    Src pr w h1 ad its { cls := .type "tuple_iterator", data := .fields #[.ref ad, .int 0 0] } (fun I i h => h.IsTupleIter I ad i ∧ h.IsTuple ad its) where
  lt := by
    obtain ⟨_, e, _⟩ := id hl
    exact Heap.lt_size e
  iter := fun A E Q s es h => by
    subst es
    exact wpAny_pyIter_tuple hl h
  walks := fun A I hh ne => Walks.tuple hh I ad ne its
  st0 := fun g k => ⟨⟨_, k _ _ (.inr rfl) (Heap.get?_push_size _ rfl), rfl, rfl⟩, by
    obtain ⟨ob, e, r⟩ := id hl
    exact ⟨ob, k _ _ (.inl rfl) (Heap.get?_push_of_some _ e), r⟩⟩

section
variable {X : Cx} {pins : List (Addr × Obj)} {σ : L2.St} {H : Hp} {s : Shared}
theorem seq_src (I : Inv X pins σ H s) {ad : Addr} {xs : List V} (h : SqT X.K H ad xs ∨ SqL X.K H ad xs) :
    ∃ (its : List Value) (o : Obj) (St : Addr → Nat → Heap → Prop), Vals xs its ∧ Src X.prog X.w s.heap ad its.toArray o St ∧ (∀ ps, o.data ≠ .fields ps ∨ o.cls ≠ .none) := by
  rcases h with h | h
  · obtain ⟨its, rv, ht, _⟩ := I.tuple h
    exact ⟨its, _, _, rv, src_tup ht, fun ps => .inr fun z => by cases z⟩
  · obtain ⟨its, rv, hl, _⟩ := I.list h
    exact ⟨its, _, _, rv, src_list hl.isList, fun ps => .inr fun z => by cases z⟩

/-- what the element of a generator expression is, for the item xv: a truth -/
def Elt (X : Cx) (kk : Nat) (scope : Scope) (x : Str) (elt : Expr) (caps : Nm) (Hw : Hp) (xs : List V) (bs : List Bool) : Prop :=
  bs.length = xs.length ∧ ∀ (hd : Heap) (env : Env), (Qc.mk X.prog X.w X.K X.mg Hw hd).Ok → env.scope = scope → ∀ (j : Nat) (xv : V) (b : Bool), xs[j]? = some xv → bs[j]? = some b → QE ⟨X.prog, X.w, X.K, X.mg, Hw, hd⟩ kk env ((x, xv) :: caps) elt (.bl b)
/-- the captured names' values -/
def Caps (X : Cx) (scope : Scope) (x : Str) (σ : L2.St) (caps : Nm) : Prop := ∀ y v, caps.lookup y = some v → y ≠ x ∧ (y, NameKind.free) ∈ scope.names ∧ scope.names.lookup y = some .free ∧ ∃ i : Nat, X.N[i]? = some y ∧ σ[i]? = some (some v) ∧ X.env.scope.names.lookup y = some .cell

/-- the truth at place j -/
def trB (bs : List Bool) (j : Nat) : Bool := bs.getD j false
theorem trB_some {bs : List Bool} {j : Nat} {b : Bool} (h : bs[j]? = some b) : trB bs j = b := by
  unfold trB
  rw [List.getD_eq_getElem?_getD, h]
  rfl
theorem trB_all (bs : List Bool) : (List.range bs.length).all (trB bs) = bs.all id := by
  rw [Bool.eq_iff_iff, List.all_eq_true, List.all_eq_true]
  refine ⟨fun h b hb => ?_, fun h j hj => ?_⟩
  · obtain ⟨j, hj, e⟩ := List.getElem_of_mem hb
    have q := h j (List.mem_range.mpr hj)
    rwa [trB_some (List.getElem?_eq_getElem hj), e] at q
  · have hj' := List.mem_range.mp hj
    rw [trB_some (List.getElem?_eq_getElem hj')]
    exact h _ (List.getElem_mem hj')
theorem trB_any (bs : List Bool) : (List.range bs.length).any (trB bs) = bs.any id := by
  rw [Bool.eq_iff_iff, List.any_eq_true, List.any_eq_true]
  refine ⟨fun ⟨j, hj, h⟩ => ?_, fun ⟨b, hb, h⟩ => ?_⟩
  · have hj' := List.mem_range.mp hj
    rw [trB_some (List.getElem?_eq_getElem hj')] at h
    exact ⟨_, List.getElem_mem hj', h⟩
  · obtain ⟨j, hj, e⟩ := List.getElem_of_mem hb
    exact ⟨j, List.mem_range.mpr hj, by rw [trB_some (List.getElem?_eq_getElem hj), e]; exact h⟩

/-- the generator g is made, to be gone through -/
def Made (X : Cx) (pins : List (Addr × Obj)) (σ : L2.St) (H1 : Hp) (P : Addr) (xs : List V) (bs : List Bool) (g : Addr) (s5 : Shared) : Prop :=
  ∃ (fp wr : List Addr) (G : Array GenState → Array GenState → Prop) (F : Nat → Value → Prop) (St : Nat → Shared → Prop),
    WalksS X.prog X.w X.A.in1 g fp wr G bs.length F St ∧ St 0 s5 ∧ TruthOf X.prog X.w X.A.in1 F (trB bs) ∧ ∀ s', Moved wr G s5 s' → ∃ H2, GxR.Tabbed P H1 H2 ∧ Inv X pins σ H2 s'

theorem gen_made {c P : Addr} {elt iter : Expr} {x : Str} {px gpos : Pos} {scope : Scope} {te : TE} {k : Nat} {Z : Value → Shared → Prop} {R : List V → List Bool → Hp → Prop}
    (rm : Room (k + 2) X.A) (TB : GxR.TabB X.base X.mg c P) (hcode : X.env.code = .ref c) (GS : GxR.GenS X.env scope x) (hi : PE X iter te)
    (hs : ∀ v, genFold iter X.env v = pure v) (I : Inv X pins σ H s)
    (h : te σ H fun v H1 => ∃ (ad : Addr) (xs : List V) (bs : List Bool) (caps : Nm), v = .ref ad ∧ (SqT X.K H1 ad xs ∨ SqL X.K H1 ad xs) ∧ GxR.TabG H1 P ∧ Caps X scope x σ caps ∧ Elt X (3 * k) scope x elt caps (wipe H1 P) xs bs ∧ R xs bs H1)
    (hZ : ∀ xs bs H1 g s5, R xs bs H1 → Made X pins σ H1 P xs bs g s5 → Z (.ref g) s5) :
    wpAny (model X.prog X.w) X.A (eval (.GeneratorExp elt [⟨.Name x px, iter, [], 0⟩] scope gpos) X.env) Z X.xe s := by
  have hdp := rm.dp
  refine wpAny_GeneratorExp_walksQD rm.hd GS.co (closure_ok GS.free) GS.cell GS.dot GS.loc GS.kind rm.depth ?_ hs
  refine thn (hi.run pins s σ H _ I h) fun xv s1 hx => ?_
  obtain ⟨v, H1, I1, r1, ad, xs, bs, caps, ev, hsq, ⟨ps, hP, htr⟩, hcap, hel, hR⟩ := hx
  subst ev
  obtain rfl : xv = Value.ref ad := r1
  obtain ⟨its, o, St, rv, S, hno⟩ := seq_src I1 hsq
  have hlen : its.length = xs.length := rv.length.symm
  have hPs : s1.heap.get? P = some { cls := .none, data := .fields ps } := I1.hok P _ hP
  have hPlt : P < s1.heap.objs.size := Heap.lt_size hPs
  have adP : ad ≠ P := by
    rintro rfl
    rcases hsq with hq | hq
    · obtain ⟨_, _, ⟨ob, e, ec, _⟩, _⟩ := I1.tuple hq
      rw [hPs] at e
      cases e
      cases ec
    · obtain ⟨_, _, hl, _⟩ := I1.list hq
      obtain ⟨ob, _, e, ec, _⟩ := id hl
      rw [hPs] at e
      cases e
      cases ec
  refine S.iter _ _ _ _ rfl ?_
  have push_ok : ∀ b u, s1.heap.get? b = some u → (s1.heap.push o).get? b = some u := fun b u e => Heap.get?_push_of_some _ e
  have hPo := push_ok P _ hPs
  have lim2 : (s1.heap.push o).NoLimit := I1.nolimit.push o
  have cd : PySem.W.CodeHd (s1.heap.push o) c P := TB.code.keeps fun b u e => push_ok b u (I1.bk b u e)
  have go : ∀ (code : Value) (h3 : Heap) (tk : Nat) (ps' : Array Value), Heap.ExtBut P (s1.heap.push o) h3 → (s1.heap.push o).objs.size ≤ h3.objs.size → h3.get? P = some { cls := .none, data := .fields ps' } → (∃ more, ps' = ps ++ more) → TriplesOk ps'.toList →
      wpAny (model X.prog X.w) X.A (builtinsFor X.env.globals X.env.builtins) (fun bi s₄ =>
        ∃ Ia fp wr n₀ Pf St₀ pz F, Value.ref s1.heap.objs.size = .ref Ia ∧ (∀ A' : Around, A'.handled = none → Walks X.prog X.w A' Ia fp wr n₀ Pf St₀) ∧ St₀ 0 s₄.heap ∧ (∀ b ∈ fp, b < s₄.heap.objs.size) ∧ s₄.heap.NoLimit ∧ cStatics ∉ wr ∧
          (∀ hr : Heap, (∀ b u, s₄.heap.get? b = some u → hr.get? b = some u) →
            QuietGenD X.prog X.w (genEnv scope (cloFrom X.env.cells scope.names []) s₄.heap.objs.size code bi X.env) x [] elt (List.range s₄.heap.objs.size) wr Pf pz F hr (X.A.depth + 1) (X.A.units + 8)) ∧
          (∀ a h₅ tk gs, gs.bare = true → s₄.heap.objs.size < a → h₅.objs.size = a + 1 → (∀ b u, s₄.heap.get? b = some u → h₅.get? b = some u) →
            WalksS X.prog X.w X.A.in4 a (a :: s₄.heap.objs.size :: List.range s₄.heap.objs.size) (s₄.heap.objs.size :: wr) (GenOnlyQ s₄.gens.size) (passing pz n₀ 0).length
              (fun j y => ∃ i, (passing pz n₀ 0)[j]? = some i ∧ F i y) (GenAt X.prog X.w X.A.in4 a s₄.gens.size s₄.heap.objs.size (List.range s₄.heap.objs.size) wr pz n₀ F) →
            GenAt X.prog X.w X.A.in4 a s₄.gens.size s₄.heap.objs.size (List.range s₄.heap.objs.size) wr pz n₀ F 0 { s₄ with gens := s₄.gens.push gs, toks := tk, heap := h₅ } →
            Z (.ref a) { s₄ with gens := s₄.gens.push gs, toks := tk, heap := h₅ })) X.xe { s1 with heap := h3, toks := tk } := by
    intro code h3 tk ps' hx hsz hP3 hmore ht3
    obtain ⟨bm, ob, e1, e2, e3, e4, e5, e6, e7, e8⟩ := TB.bm
    have szo : (s1.heap.push o).objs.size = s1.heap.objs.size + 1 := Heap.size_push ..
    have k3 : ∀ b u, b ≠ P → s1.heap.get? b = some u → h3.get? b = some u := fun b u hb e => hx b u hb (push_ok b u e)
    have hcP : cStatics ≠ P := by
      rintro rfl
      obtain ⟨_, hns, _⟩ := I1.nolimit
      obtain ⟨o', es, ep, ho, hd, _⟩ := hns
      rw [hPs] at ho
      cases ho
      cases hd
    have hcl : cStatics < s1.heap.objs.size := let ⟨_, hns, _⟩ := I1.nolimit; hns.lt
    refine wpAny_builtinsFor (m := X.mg) (by rw [I1.ok.glob]; exact ((I1.mod.glob.keeps I1.bk).push o).extBut hx TB.gP) e1 e2 (k3 _ _ e4 (I1.bk _ _ e5)) e6 e7 e8 ?_
    have hi3 : s1.heap.objs.size < h3.objs.size := by omega
    refine ⟨s1.heap.objs.size, [s1.heap.objs.size, ad], [s1.heap.objs.size], its.toArray.size, (fun i v => its.toArray[i]? = some v), St s1.heap.objs.size, (fun _ => true), (fun i y => ∃ b, bs[i]? = some b ∧ y = .bool b), rfl,
      fun A' hA => S.walks A' _ hA (Nat.ne_of_lt S.lt), ?_, ?_, lim2.extBut hx hcP, ?_, ?_, ?_⟩
    · refine S.st0 h3 fun b u hb e => hx b u (fun z => ?_) e
      rcases hb with hb | hb
      · exact adP (hb.symm.trans z)
      · exact Nat.ne_of_gt hPlt (hb.symm.trans z)
    · intro b hb
      simp only [List.mem_cons, List.not_mem_nil, or_false] at hb
      rcases hb with hb | hb
      · rw [hb]; exact hi3
      · rw [hb]; exact Nat.lt_trans S.lt hi3
    · intro z
      simp only [List.mem_cons, List.not_mem_nil, or_false] at z
      exact Nat.ne_of_lt hcl z
    · intro hr hhr
      obtain ⟨hd, g1, g2⟩ := restrict h3 fun b => decide (b ≠ s1.heap.objs.size)
      have old : ∀ b u, b ≠ P → s1.heap.get? b = some u → hd.get? b = some u := fun b u nb e => by
        rw [g1 b (decide_eq_true (Nat.ne_of_lt (Heap.lt_size e)))]
        exact k3 b u nb e
      have up3 : Up hd h3 := fun b u e => by
        by_cases hb : b = s1.heap.objs.size
        · rw [g2 b (by simp [hb])] at e
          cases e
        · rw [g1 b (decide_eq_true hb)] at e
          exact e
      have bP : ∀ b u, X.base.get? b = some u → b ≠ P := fun b u e z => by
        have q := (I1.bs b u e).2
        rw [z, hP] at q
        cases q
      have bup : ∀ b u, X.base.get? b = some u → hd.get? b = some u := fun b u e => old b u (bP b u e) (I1.bk b u e)
      have OK : (Qc.mk X.prog X.w X.K X.mg (wipe H1 P) hd).Ok := by
        obtain ⟨mb, q1, q2⟩ := I1.mod.blt
        refine ⟨I1.mod.kin.keeps bup, I1.mod.glob.keeps bup, ⟨mb, q1.keeps bup, q2⟩, I1.mod.nolimit.keeps bup, fun a u e => ?_⟩
        obtain ⟨na, e⟩ := wipe_of e
        have noP : ∀ b, H1 b = some (.own a) → b ≠ P := fun b q z => by
          rw [z, hP] at q
          cases q
        refine (I1.hok a u e).stay (fun b u' hb q => old b u' ?_ q) (fun b q => wipe_at (noP b q) q) (fun b ys q => wipe_at (fun z => ?_) q)
        · rcases hb with hb | hb
          · rw [hb]; exact na
          · exact noP b hb
        · rw [z, hP] at q
          cases q
      have seen : ∀ s₂ : Shared, (∀ b ∈ List.range h3.objs.size, b ∉ [s1.heap.objs.size] → ∀ u, hr.get? b = some u → s₂.heap.get? b = some u) → Up hd s₂.heap := fun s₂ hk b u e => by
        have h3e := up3 b u e
        refine hk b (List.mem_range.mpr (Heap.lt_size h3e)) (fun z => ?_) u (hhr b u h3e)
        have hb : b = s1.heap.objs.size := by simpa using z
        rw [g2 b (by simp [hb])] at e
        cases e
      refine ⟨fun A' E' i v s₂ m₂ hA _ _ hPv hn hm hk => ?_, fun A' E' i v s₂ m₂ hA hAd _ hPv hp hn hm hk => ?_⟩
      · simp only [List.forIn_nil]
        exact wpAny_pure ⟨rfl, GxR.keeps_refl _⟩
      · have hv2 : its[i]? = some v := by simpa using hPv
        have hix : i < xs.length := by rw [← hlen]; exact (List.getElem?_eq_some_iff.mp hv2).1
        obtain ⟨xv, hxv⟩ : ∃ xv, xs[i]? = some xv := ⟨xs[i], List.getElem?_eq_getElem hix⟩
        obtain ⟨u, hu, ru⟩ := rv.get hxv
        rw [hv2] at hu
        cases hu
        have at2 : At ⟨X.prog, X.w, X.K, X.mg, wipe H1 P, hd⟩ (genEnv scope (cloFrom X.env.cells scope.names []) h3.objs.size code builtinsNs X.env) ((x, xv) :: caps) s₂.heap := by
          have upS := seen s₂ hk
          refine ⟨upS, GS.kind, I1.ok.glob, rfl, m₂, hn, fun y vy hy => ?_⟩
          by_cases ey : y = x
          · subst ey
            have e9 : xv = vy := by simpa [List.lookup] using hy
            exact ⟨v, e9 ▸ ru, .inl ⟨GS.loc, hm⟩⟩
          · have ey' : (y == x) = false := by simpa using ey
            have hy2 : caps.lookup y = some vy := by simpa [List.lookup, ey'] using hy
            obtain ⟨_, hmem, hfr, j, hj, hσ, hcl2⟩ := hcap y vy hy2
            obtain ⟨m1, hn1, hloc⟩ := I1.loc
            obtain ⟨u9, r9, l9⟩ := hloc j y vy hj hσ (.inr (.inl hcl2))
            refine ⟨u9, r9, .inr ⟨.inr hfr, ?_⟩⟩
            rcases l9 with ⟨l9, _⟩ | ⟨_, ca, hca, hic⟩
            · have l8 : X.env.scope.names.lookup y = some .local := l9
              rw [hcl2] at l8
              cases l8
            · refine ⟨ca, NdefX.clo_has GS.free hmem hca, ?_⟩
              obtain ⟨oc, ec, rc⟩ := hic
              have nP : ca ≠ P := fun z => by
                have q := I1.freeC y ca hca
                rw [z, hP] at q
                cases q
              exact ⟨oc, upS _ _ (old _ _ nP ec), rc⟩
        obtain ⟨b, hb⟩ : ∃ b, bs[i]? = some b := ⟨bs[i]'(by rw [hel.1]; exact hix), List.getElem?_eq_getElem _⟩
        refine hel.2 hd _ OK rfl i xv b hxv hb A' E' _ s₂ ⟨hA, by omega⟩ at2 fun u9 g9 tk9 r9 up9 => ?_
        exact ⟨⟨b, hb, r9⟩, g9, tk9, rfl, up9⟩
    · intro g h5 tk5 gs hgb hag hsz5 hk5 W5 hgat
      simp only [GxR.passing_true, List.length_range] at W5
      have hn5 : its.toArray.size = bs.length := by rw [List.size_toArray, hlen, hel.1]
      rw [hn5] at W5 hgat
      refine hZ xs bs H1 g _ hR ⟨_, _, _, _, _, W5.in4_1, hgat, ?_, fun s' hm => ?_⟩
      · intro j y sj Qj Ej hy hQj
        obtain ⟨i, hij, b, hxv, rfl⟩ := hy
        obtain ⟨hj, ej⟩ := List.getElem?_eq_some_iff.mp hij
        rw [List.getElem_range] at ej
        subst ej
        have hQ2 : Qj (trB bs j) sj := hQj
        rw [trB_some hxv] at hQ2
        exact wpAny_truthy_bool hQ2
      · obtain ⟨more, em⟩ := hmore
        have nwr : ∀ b u, s1.heap.get? b = some u → b ∉ h3.objs.size :: [s1.heap.objs.size] := fun b u e hb => by
          have hl := Heap.lt_size e
          simp only [List.mem_cons, List.not_mem_nil, or_false] at hb
          rcases hb with hb | hb
          · rw [hb] at hl
            exact absurd (Nat.lt_trans hl hi3) (Nat.lt_irrefl _)
          · rw [hb] at hl
            exact Nat.lt_irrefl _ hl
        have J := GxR.inv_tab (more := more) (h' := s'.heap) (g' := s'.gens) (d' := s'.drawn) (t' := s'.toks) I1 hP (fun b u hb e => hm.heap b u (nwr b u e) (hk5 b u (k3 b u hb e)))
          (by rw [← em]; exact hm.heap P _ (nwr P _ hPs) (hk5 P _ hP3)) (AllBare.movedS (I1.bare.push hgb) hm)
        rw [GxR.sh_eta s1 s' hm.os] at J
        exact ⟨upd H1 P (.tbl (ps ++ more)), ⟨⟨ps ++ more, upd_same, by rw [← em]; exact ht3⟩, fun b hb => upd_ne hb⟩, J⟩
  refine ⟨lim2, ?_⟩
  cases hf : codeAmong gpos ps.toList with
  | none =>
    refine wpAny_genexprCodeX hcode (cd.code hPo htr) (cd.tab hPo) hf fun c' h' tk hx hge hlt hco' _ htab' _ => ?_
    obtain ⟨_, _, _, _, _, _, _, _, _, _, _, _, _, _, _, _, _, _, _, htr', _⟩ := hco'
    exact go _ h' tk _ hx (Nat.le_trans hge (Nat.le_of_lt hlt)) htab'.2 ⟨_, rfl⟩ htr'
  | some cv =>
    refine wpAny_genexprCode_hit hcode (cd.code hPo htr) hf ?_
    exact go cv (s1.heap.push o) s1.toks ps (Heap.ExtBut.refl _ _) (Nat.le_refl _) hPo ⟨#[], by simp⟩ htr

/-- all(.. for x in e), e a tuple or a list, the element a quiet truth -/
def tAllQ (X : Cx) (P : Addr) (k : Nat) (scope : Scope) (x : Str) (elt : Expr) (te : TE) : TE := fun σ H Q => te σ H fun v H1 => ∃ (ad : Addr) (xs : List V) (bs : List Bool) (caps : Nm), v = .ref ad ∧ (SqT X.K H1 ad xs ∨ SqL X.K H1 ad xs) ∧
  GxR.TabG H1 P ∧ Caps X scope x σ caps ∧ Elt X (3 * k) scope x elt caps (wipe H1 P) xs bs ∧ ∀ H2, GxR.Tabbed P H1 H2 → Q (.bl (bs.all id)) H2
theorem pe_allQ {c P : Addr} {elt iter : Expr} {x : Str} {px p pos gpos : Pos} {scope : Scope} {te : TE} {k : Nat}
    (rm : Room (k + 2) X.A) (hg : Gl X "all") (hm : X.mg "all" = none) (TB : GxR.TabB X.base X.mg c P) (hcode : X.env.code = .ref c) (GS : GxR.GenS X.env scope x) (hi : PE X iter te)
    (hs : ∀ v, genFold iter X.env v = pure v) (hb : bootBuiltins "all" = some (.builtin "all") := by decide +kernel)
    (he : starEach [.GeneratorExp elt [⟨.Name x px, iter, [], 0⟩] scope gpos] X.env = (false, eval (.GeneratorExp elt [⟨.Name x px, iter, [], 0⟩] scope gpos) X.env) :: starEach [] X.env := by rfl) :
    PE X (.Call (.Name "all" p) [.GeneratorExp elt [⟨.Name x px, iter, [], 0⟩] scope gpos] [] pos) (tAllQ X P k scope x elt te) := by
  refine ⟨fun pins s σ H Q I h => ?_⟩
  refine wpAny_Call_Name_kw (ld_blt I hg hm hb (PyProof.Rows.callWith_builtin1 ?_ he (by rfl)))
  rw [he]
  show wpAny _ X.A (spliced ((false, eval (.GeneratorExp elt [⟨.Name x px, iter, [], 0⟩] scope gpos) X.env) :: backTo pos (starEach [] X.env))) _ X.xe s
  refine Calls.spliced_cons (gen_made (R := fun xs bs H1 => ∀ H2, GxR.Tabbed P H1 H2 → Q (.bl (bs.all id)) H2) rm TB hcode GS hi hs I h fun xs bs H1 g s5 hR hG => Calls.spliced_nil ?_)
  obtain ⟨fp, wr, G, F, St, W, hst, htr, hI⟩ := hG
  refine call_all_walkS (W.self 0 _ _ _ hst ⟨g, fp, wr, G, _, F, St, _, rfl, W, hst, htr, fun s' hmv => ?_⟩)
  obtain ⟨H2, hT, J⟩ := hI s' hmv
  exact ⟨.bl _, H2, J, rfl, by rw [trB_all bs]; exact hR H2 hT⟩
end
end Qt

namespace Em
open PySem PySem.Spec PyProof.Rows L2 Qt

/-! ### defs that may show things: nothing is being shown around them -/
structure FnG (P : Program) (w : World) (K : PySem.W.Frag) (mg : Str → Option Value) (base : Heap) (CX : CXT) (k : Nat) (f : Addr) (fd : FuncData) (ps : List Str) (sp : Sp) : Prop where
  len : ∀ vs H Q E, sp vs H Q E → vs.length = ps.length
  go : ∀ (A : Around) (outer : List Env) (s : Shared) (H : Hp) (args : Args) (us : List Value) (vs : List V) (Q : VK) (E : XK), A.guards = some [] → Room k A → Env0 P w K mg base A outer s H → BindsTo s fd args (ps.zip us) → Vals vs us → sp vs H Q E →
    codeAny (model P w) A (.call (.ref f) args) (CR CX outer P w H s Q E) s
section
variable {P : Program} {w : World} {K : PySem.W.Frag} {mg : Str → Option Value} {base : Heap} {CX : CXT} {k : Nat} {f : Addr} {fd : FuncData} {ps : List Str} {sp : Sp}
theorem FnG.of (F : FnOk P w K mg base CX k f fd ps sp) : FnG P w K mg base CX k f fd ps sp := ⟨F.len, fun A o s H a us vs Q E _ => F.run A o s H a us vs Q E⟩
theorem FnG.mono {j : Nat} (F : FnG P w K mg base CX j f fd ps sp) (h : j ≤ k) : FnG P w K mg base CX k f fd ps sp := ⟨F.len, fun A o s H a us vs Q E hg hr => F.go A o s H a us vs Q E hg (hr.mono h)⟩
/-- a def's body, nothing being shown around it -/
theorem okG {x qual : Str} {st : Stmt} {N : List Str} (F : Fun K x qual st f fd) (S : FnScope N ps (defScope st)) (len : ∀ vs H Q E, sp vs H Q E → vs.length = ps.length)
    (hbody : ∀ (cdv : Value) (A : Around) (outer : List Env) (s : Shared) (H : Hp) (vs : List V) (Q : VK) (E : XK), (A.deeper (envOfC qual (defScope st) s.heap.objs.size f cdv)).guards = some [] → Room k (A.deeper (envOfC qual (defScope st) s.heap.objs.size f cdv)) → sp vs H Q E →
      ∃ t, PSs (cxOf CX P w K mg base N qual (defScope st) f cdv A outer s H E) (defBody st) t ∧ t { nx := fun _ H' => Q .non H', rt := Q } (start N vs) H) : FnG P w K mg base CX (k + 1) f fd ps sp := by
  refine ⟨len, fun A outer s H args us vs Q E hg hr e0 hb rv hs => ?_⟩
  -- the same def, told of a promise that holds of this call alone
  obtain ⟨oc, od, kV, doc, pm, an, cdv, ct, osl, rfl, lk, hcd⟩ := F.ex
  have KX : K.In s.heap := e0.mod.kin.keeps fun b o e => (e0.bs b o e).1
  have LX : s.heap.NoLimit := e0.mod.nolimit.keeps fun b o e => (e0.bs b o e).1
  have hkind : ∀ y ∈ ps.zip us, (defScope st).names.lookup y.1 = some .local ∨ ((defScope st).names.lookup y.1 = some .cell ∧ ((cellsFrom (s.heap.objs.size + 1) (defScope st).names []).lookup y.1).isSome = true) := fun y hy => by
    rcases S.par y.1 (List.of_mem_zip hy).1 with q | q
    · exact .inl q
    · exact .inr ⟨q, PySem.W.cellsFrom_some _ _ _ (.inl q)⟩
  refine codeAny_call_function hr.depth (KX _ _ lk) rfl S.co S.gen rfl (PySem.W.codeRec_of KX hcd) (hb _ _ _ _ (wpAny_newFunctionEnv_cells S.kind hkind fun env he s1 x => ?_))
  subst he
  refine ⟨LX.keeps x.toInCall.keep, codeAny_func ?_⟩
  obtain ⟨t, ht, hq⟩ := hbody cdv A outer s H vs Q E hg (hr.deeper _) hs
  have I := inv_start (CX := CX) (E := E) S hr.hd e0 (len _ _ _ _ hs) rv x
  refine wpAny_mono (ht.run [] s1 (start N vs) H _ I hq) (fun fl s' z => ?_) fun e s' z => z
  cases fl with
  | ret u =>
    obtain ⟨v, σ', H', J, r1, q⟩ := z
    exact ⟨v, H', J.os, J.bare, J.base, J.hok, r1, q⟩
  | next =>
    obtain ⟨σ', H', J, q⟩ := z
    exact ⟨V.non, H', J.os, J.bare, J.base, J.hok, rfl, q⟩
  | brk =>
    obtain ⟨_, _, _, q⟩ := z
    exact q.elim
  | cont =>
    obtain ⟨_, _, _, q⟩ := z
    exact q.elim
theorem okG0 {x qual : Str} {st : Stmt} {N : List Str} (F : Fun K x qual st f fd) (S : FnScope N ps (defScope st)) (len : ∀ vs H Q E, sp vs H Q E → vs.length = ps.length)
    (hbody : ∀ (cdv : Value) (A : Around) (outer : List Env) (s : Shared) (H : Hp) (vs : List V) (Q : VK) (E : XK), (A.deeper (envOfC qual (defScope st) s.heap.objs.size f cdv)).guards = some [] → Room k (A.deeper (envOfC qual (defScope st) s.heap.objs.size f cdv)) → sp vs H Q E →
      ∃ t, PSs (cxOf CX0 P w K mg base N qual (defScope st) f cdv A outer s H E).nox (defBody st) t ∧ t { nx := fun _ H' => Q .non H', rt := Q } (start N vs) H) : FnG P w K mg base CX0 (k + 1) f fd ps sp :=
  okG F S len fun cdv A outer s H vs Q E hg hr hs => let ⟨t, h, q⟩ := hbody cdv A outer s H vs Q E hg hr hs; ⟨t, h.nox, q⟩
end
section
variable {X : Cx} {CX : CXT} {k : Nat} {f : Addr} {fd : FuncData} {ps ks : List Str} {sp : Sp} {dvs : List V} {ds : List Value} {E : XK} {x : Str} {p pos : Pos} {e : Expr} {es : List Expr} {kws : List Keyword} {t tk : TA}
  {g : List Value → List Value → List Value} {gV : List V → List V → List V}
theorem endG {pins : List (Addr × Obj)} {σ : L2.St} {H : Hp} {s : Shared} {Q : VK} {args : Args} (hx : Passes CX X E) (I : Inv X pins σ H s) (h : codeAny (model X.prog X.w) X.A (.call (.ref f) args) (CR CX X.stack X.prog X.w H s Q E) s) :
    codeAny (model X.prog X.w) X.A (.call (.ref f) args) (fun r s' => match r with
      | .ok (.ret u) => EP X pins σ Q u s'
      | .ok _ => False
      | .error e => X.xe e s') s :=
  codeAny_mono h fun r s' hq => by
    cases r with
    | error e => exact hx pins σ H s e s' I hq
    | ok fl => cases fl with
      | ret u => exact I.after hq
      | next => exact hq
      | brk => exact hq
      | cont => exact hq
theorem runG {pins : List (Addr × Obj)} {σ : L2.St} {H : Hp} {s : Shared} {Q : VK} {us : List Value} {vs : List V} (F : FnG X.prog X.w X.K X.mg X.base CX k f fd ps sp) (hG : X.A.guards = some []) (hr : Room k X.A) (hb : Binds X.K fd ps ds) (hd : Vals dvs ds) (hx : Passes CX X E)
    (I : Inv X pins σ H s) (r : Vals vs us) (h : sp (vs ++ dvs) H Q E) : wpAny (model X.prog X.w) X.A (call (.ref f) us) (EP X pins σ Q) X.xe s := by
  have r2 := r.append hd
  have hl : (us ++ ds).length = ps.length := r2.length.symm.trans (F.len _ _ _ _ h)
  refine wpAny_call (codeAny_mono (endG (Q := Q) hx I (F.go X.A X.stack s H ⟨us, []⟩ (us ++ ds) (vs ++ dvs) Q E hG hr I.env0 (hb s us I.kIn hl) r2 h)) fun r s' hq => ?_)
  cases r with
  | error e => exact hq
  | ok fl => cases fl with
    | ret u => exact hq
    | next => exact hq.elim
    | brk => exact hq.elim
    | cont => exact hq.elim
theorem pe_callG (F : FnG X.prog X.w X.K X.mg X.base CX k f fd ps sp) (hG : X.A.guards = some []) (hr : Room k X.A) (hg : Gl X x) (hm : X.mg x = some (.ref f)) (hk : PySem.W.keepIn X.K (.ref f) = true) (hb : Binds X.K fd ps ds) (hd : Vals dvs ds) (hx : Passes CX X E)
    (ha : PA X (e :: es) t) (hdb : (x == ("__debug__" : Str)) = false := by decide) (st : starEach (e :: es) X.env = (false, eval e X.env) :: starEach es X.env := by rfl) (pl : (backTo pos (starEach es X.env)).any (·.1) = false := by rfl) :
    PE X (.Call (.Name x p) (e :: es) [] pos) (tCall sp dvs E t) :=
  ⟨fun pins s σ H Q I h => wpAny_Call_Name_kw (ld_glob I hg hm (PySem.W.callWith_K (h₀ := X.base) I.ok.mod.kin hk (thn (ha.run pos pins s σ H _ I h) fun us s1 ⟨vs, H1, I1, r, q⟩ => ⟨I1.kIn, runG F hG hr hb hd hx I1 r q⟩) st pl) hdb)⟩
/-- f(k = v, ..), keywords alone; the promise is of the parameters in the def's order -/
theorem pe_kwG (F : FnG X.prog X.w X.K X.mg X.base CX k f fd ps sp) (hG : X.A.guards = some []) (hr : Room k X.A) (hg : Gl X x) (hm : X.mg x = some (.ref f)) (hk : PySem.W.keepIn X.K (.ref f) = true) (hb : KBinds X.K fd ps ks g gV) (hx : Passes CX X E)
    (hkw : PK X kws tk) (hall : (backToKw pos (keywordEach kws X.env)).all (·.1.isSome) = true := by rfl) (hks : (backToKw pos (keywordEach kws X.env)).filterMap (·.1) = ks := by rfl)
    (hdb : (x == ("__debug__" : Str)) = false := by decide) (pl : ((backTo pos (starEach [] X.env)).any (·.1) || (backToKw pos (keywordEach kws X.env)).any (·.1.isNone)) = false := by rfl) :
    PE X (.Call (.Name x p) [] kws pos) (tCallK sp gV E tNil tk) := by
  refine ⟨fun pins s σ H Q I h => wpAny_Call_Name_kw (ld_glob I hg hm ?_ hdb)⟩
  refine PySem.W.callWith_KW0 (h₀ := X.base) I.ok.mod.kin hk hall (thn (hkw.run pos pins s σ H _ I h) fun ws s1 ⟨zs, H1, I1, rz, q⟩ => ⟨I1.kIn, ?_⟩) pl
  rw [hks]
  have r2 := hb.rel .nil rz
  have hl : (g [] ws).length = ps.length := r2.length.symm.trans (F.len _ _ _ _ q)
  refine wpAny_call (codeAny_mono (endG (Q := Q) hx I1 (F.go X.A X.stack _ H1 ⟨[], ks.zip ws⟩ (g [] ws) (gV [] zs) Q E hG hr I1.env0 (hb.to _ [] ws I1.kIn hl) r2 q)) fun r s' hq => ?_)
  cases r with
  | error e => exact hq
  | ok fl => cases fl with
    | ret u => exact hq
    | next => exact hq.elim
    | brk => exact hq.elim
    | cont => exact hq.elim
end

/-! ### what a piece of code leaves as it was: all but the things in S; tables of code grow -/
structure Kp (S : List Addr) (H H' : Hp) : Prop where
  at_ : ∀ b o, b ∉ S → H b = some o → (∀ ps, o ≠ .tbl ps) → H' b = some o
  tab : ∀ b, GxR.TabG H b → GxR.TabG H' b
  tr_ : ∀ b, H b ≠ none → H' b ≠ none
theorem Kp.rfl' {S : List Addr} {H : Hp} : Kp S H H := ⟨fun _ _ _ h _ => h, fun _ h => h, fun _ h => h⟩
theorem Kp.tr {S : List Addr} {H H1 H2 : Hp} (a : Kp S H H1) (b : Kp S H1 H2) : Kp S H H2 := ⟨fun c o n h t => b.at_ c o n (a.at_ c o n h t) t, fun c h => b.tab c (a.tab c h), fun c h => b.tr_ c (a.tr_ c h)⟩
theorem Kp.wk {S S' : List Addr} {H H1 : Hp} (a : Kp S H H1) (h : ∀ x ∈ S, x ∈ S') : Kp S' H H1 := ⟨fun c o n q t => a.at_ c o (fun z => n (h c z)) q t, a.tab, a.tr_⟩
theorem Kp.of0 {S : List Addr} {H H1 : Hp} (a : Kp [] H H1) : Kp S H H1 := a.wk fun _ h => by cases h
theorem upd_tr {H : Hp} {p b : Addr} {o : HO} (h : H b ≠ none) : upd H p o b ≠ none := by
  by_cases e : b = p
  · rw [e, upd_same]; exact fun z => by cases z
  · rw [upd_ne e]; exact h
/-- a new thing -/
theorem Kp.new {S : List Addr} {H : Hp} {p : Addr} {o : HO} (n : H p = none) : Kp S H (upd H p o) :=
  ⟨fun b u _ h _ => by rw [upd_ne (ne_of_none h n)]; exact h, fun b ⟨ps, h, t⟩ => ⟨ps, by rw [upd_ne (ne_of_none h n)]; exact h, t⟩, fun b h => upd_tr h⟩
/-- a list (or another thing that is no table) of S is written -/
theorem Kp.put {S : List Addr} {H : Hp} {p : Addr} {o u : HO} (hp : p ∈ S) (h : H p = some u) (nt : ∀ ps, u ≠ .tbl ps) : Kp S H (upd H p o) :=
  ⟨fun b v n q _ => by rw [upd_ne (fun z => n (by rw [z]; exact hp))]; exact q, fun b ⟨ps, q, t⟩ => ⟨ps, by rw [upd_ne (fun z => by rw [z, h] at q; exact nt ps (Option.some.inj q))]; exact q, t⟩, fun b h => upd_tr h⟩
/-- a new thing that was written again is still new to what stood before -/
theorem Kp.drop {S : List Addr} {H H1 : Hp} {p : Addr} (n : H p = none) (k : Kp (p :: S) H H1) : Kp S H H1 :=
  ⟨fun b o nb h t => k.at_ b o (fun z => by
    rcases List.mem_cons.mp z with z | z
    · rw [z, n] at h; cases h
    · exact nb z) h t, k.tab, k.tr_⟩
theorem Kp.tabbed {S : List Addr} {H H1 : Hp} {P : Addr} (h0 : GxR.TabG H P) (h : GxR.Tabbed P H H1) : Kp S H H1 :=
  ⟨fun b o _ q t => by
    have nb : b ≠ P := fun z => by
      obtain ⟨ps, e, _⟩ := h0
      rw [z, e] at q
      exact t ps (Option.some.inj q).symm
    rw [h.2 b nb]
    exact q, fun b ⟨ps, q, t⟩ => by
    by_cases nb : b = P
    · rw [nb]; exact h.1
    · exact ⟨ps, by rw [h.2 b nb]; exact q, t⟩, fun b q => by
    by_cases nb : b = P
    · obtain ⟨ps, e, _⟩ := h.1
      rw [nb, e]; exact fun z => by cases z
    · rw [h.2 b nb]; exact q⟩
theorem Kp.lst {S : List Addr} {H H1 : Hp} (k : Kp S H H1) {b : Addr} {xs : List V} (nb : b ∉ S) (h : H b = some (.lst xs)) : H1 b = some (.lst xs) := k.at_ b _ nb h fun ps z => by cases z
theorem Kp.tup {S : List Addr} {H H1 : Hp} (k : Kp S H H1) {b : Addr} {xs : List V} (nb : b ∉ S) (h : H b = some (.tup xs)) : H1 b = some (.tup xs) := k.at_ b _ nb h fun ps z => by cases z
theorem Kp.ins {S : List Addr} {H H1 : Hp} (k : Kp S H H1) {b C dx : Addr} {fs : List (Str × V)} (nb : b ∉ S) (h : H b = some (.ins C dx fs)) : H1 b = some (.ins C dx fs) := k.at_ b _ nb h fun ps z => by cases z
theorem Kp.seq {S : List Addr} {K : PySem.W.Frag} {H H1 : Hp} (k : Kp S H H1) {b : Addr} {xs : List V} (nb : b ∉ S) (h : SqL K H b xs) : SqL K H1 b xs := by
  rcases h with (h | ⟨o, h⟩) | h
  · exact .inl (.inl (k.lst nb h))
  · exact .inl (.inr ⟨o, k.at_ b _ nb h fun ps z => by cases z⟩)
  · exact .inr h
theorem Kp.free {S : List Addr} {H H1 : Hp} (k : Kp S H H1) {b : Addr} (nb : b ∉ S) (h : H1 b = none) (ht : ¬ GxR.TabG H b) (hn : ∀ ps, H b ≠ some (.tbl ps)) : H b = none := by
  cases q : H b with
  | none => rfl
  | some o =>
    rw [k.at_ b o nb q (fun ps z => hn ps (by rw [q, z]))] at h
    cases h

/-! ### data in the heap, none of it in S -/
mutual
inductive Dx (S : List Addr) (H : Hp) : V → PyData → Prop
  | non : Dx S H .non .none
  | bl (b : Bool) : Dx S H (.bl b) (.bool b)
  | int (i : Int) : Dx S H (.int i) (.int i)
  | str (z : Str) : Dx S H (.str z) (.str z)
  | lst {a : Addr} {xs : List V} {ds : List PyData} (n : a ∉ S) (h : H a = some (.lst xs)) (r : DxA S H xs ds) : Dx S H (.ref a) (.list ds)
  | tup {a : Addr} {xs : List V} {ds : List PyData} (n : a ∉ S) (h : H a = some (.tup xs)) (r : DxA S H xs ds) : Dx S H (.ref a) (.tuple ds)
  | dic {a : Addr} (n : a ∉ S) (h : H a = some (.dK [])) : Dx S H (.ref a) (.dict [])
inductive DxA (S : List Addr) (H : Hp) : List V → List PyData → Prop
  | nil : DxA S H [] []
  | cons {v : V} {vs : List V} {d : PyData} {ds : List PyData} (h : Dx S H v d) (t : DxA S H vs ds) : DxA S H (v :: vs) (d :: ds)
end
mutual
theorem Dx.kp {S S' : List Addr} {H H1 : Hp} (k : Kp S H H1) (hs : ∀ x ∈ S, x ∈ S') : ∀ {v : V} {d : PyData}, Dx S' H v d → Dx S' H1 v d
  | _, _, .non => .non
  | _, _, .bl b => .bl b
  | _, _, .int i => .int i
  | _, _, .str z => .str z
  | _, _, .lst n h r => .lst n (k.lst (fun z => n (hs _ z)) h) (DxA.kp k hs r)
  | _, _, .tup n h r => .tup n (k.tup (fun z => n (hs _ z)) h) (DxA.kp k hs r)
  | _, _, .dic n h => .dic n (k.at_ _ _ (fun z => n (hs _ z)) h fun ps z => by cases z)
theorem DxA.kp {S S' : List Addr} {H H1 : Hp} (k : Kp S H H1) (hs : ∀ x ∈ S, x ∈ S') : ∀ {v : List V} {d : List PyData}, DxA S' H v d → DxA S' H1 v d
  | _, _, .nil => .nil
  | _, _, .cons h t => .cons (Dx.kp k hs h) (DxA.kp k hs t)
end
mutual
/-- what is there is none of what is new -/
theorem Dx.ap {S : List Addr} {H : Hp} {p : Addr} (n : H p = none) : ∀ {v : V} {d : PyData}, Dx S H v d → Dx (p :: S) H v d
  | _, _, .non => .non
  | _, _, .bl b => .bl b
  | _, _, .int i => .int i
  | _, _, .str z => .str z
  | _, _, .lst m h r => .lst (by simpa using ⟨ne_of_none h n, m⟩) h (DxA.ap n r)
  | _, _, .tup m h r => .tup (by simpa using ⟨ne_of_none h n, m⟩) h (DxA.ap n r)
  | _, _, .dic m h => .dic (by simpa using ⟨ne_of_none h n, m⟩) h
theorem DxA.ap {S : List Addr} {H : Hp} {p : Addr} (n : H p = none) : ∀ {v : List V} {d : List PyData}, DxA S H v d → DxA (p :: S) H v d
  | _, _, .nil => .nil
  | _, _, .cons h t => .cons (Dx.ap n h) (DxA.ap n t)
end
mutual
theorem Dx.wk {S S' : List Addr} {H : Hp} (hs : ∀ x ∈ S', x ∈ S) : ∀ {v : V} {d : PyData}, Dx S H v d → Dx S' H v d
  | _, _, .non => .non
  | _, _, .bl b => .bl b
  | _, _, .int i => .int i
  | _, _, .str z => .str z
  | _, _, .lst m h r => .lst (fun z => m (hs _ z)) h (DxA.wk hs r)
  | _, _, .tup m h r => .tup (fun z => m (hs _ z)) h (DxA.wk hs r)
  | _, _, .dic m h => .dic (fun z => m (hs _ z)) h
theorem DxA.wk {S S' : List Addr} {H : Hp} (hs : ∀ x ∈ S', x ∈ S) : ∀ {v : List V} {d : List PyData}, DxA S H v d → DxA S' H v d
  | _, _, .nil => .nil
  | _, _, .cons h t => .cons (Dx.wk hs h) (DxA.wk hs t)
end
theorem DxA.len {S : List Addr} {H : Hp} : ∀ {vs : List V} {ds : List PyData}, DxA S H vs ds → vs.length = ds.length
  | _, _, .nil => rfl
  | _, _, .cons _ t => by rw [List.length_cons, List.length_cons, DxA.len t]
theorem DxA.get {S : List Addr} {H : Hp} : ∀ {vs : List V} {ds : List PyData} {i : Nat} {v : V}, DxA S H vs ds → vs[i]? = some v → ∃ d, ds[i]? = some d ∧ Dx S H v d
  | _, _, _, _, .nil, h => by cases h
  | _, _, 0, _, .cons a _, h => by cases h; exact ⟨_, rfl, a⟩
  | _, _, i + 1, _, .cons _ t, h => DxA.get (i := i) t (by simpa using h)
theorem DxA.get' {S : List Addr} {H : Hp} : ∀ {vs : List V} {ds : List PyData} {i : Nat} {d : PyData}, DxA S H vs ds → ds[i]? = some d → ∃ v, vs[i]? = some v ∧ Dx S H v d
  | _, _, _, _, .nil, h => by cases h
  | _, _, 0, _, .cons a _, h => by cases h; exact ⟨_, rfl, a⟩
  | _, _, i + 1, _, .cons _ t, h => DxA.get' (i := i) t (by simpa using h)
theorem DxA.app {S : List Addr} {H : Hp} : ∀ {vs ws : List V} {ds es : List PyData}, DxA S H vs ds → DxA S H ws es → DxA S H (vs ++ ws) (ds ++ es)
  | _, _, _, _, .nil, h => h
  | _, _, _, _, .cons a t, h => .cons a (DxA.app t h)
mutual
/-- what the layer calls data: no dict in it -/
theorem Dx.dp {S : List Addr} {K : PySem.W.Frag} {H : Hp} : ∀ {v : V} {d : PyData}, Dx S H v d → d.hasDict = false → Dp K H v d
  | _, _, .non, _ => .non
  | _, _, .bl b, _ => .bl b
  | _, _, .int i, _ => .int i
  | _, _, .str z, _ => .str z
  | _, _, .lst n h r, e => .lst (SqL.of h) (DxA.dp r (by simpa [PyData.hasDict] using e))
  | _, _, .tup n h r, e => .tup (SqT.of h) (DxA.dp r (by simpa [PyData.hasDict] using e))
  | _, _, .dic n h, e => by simp [PyData.hasDict] at e
theorem DxA.dp {S : List Addr} {K : PySem.W.Frag} {H : Hp} : ∀ {v : List V} {d : List PyData}, DxA S H v d → PyData.hasDictAll d = false → DpAll K H v d
  | _, _, .nil, _ => .nil
  | _, _, @DxA.cons _ _ v vs d ds h t, e => by
    have e2 : PyData.hasDict d = false ∧ PyData.hasDictAll ds = false := by simpa [PyData.hasDictAll] using e
    exact .cons (Dx.dp h e2.1) (DxA.dp t e2.2)
end

/-- new data: none of it stood in H -/
def Nw (H H' : Hp) (v : V) (d : PyData) : Prop := ∀ S : List Addr, (∀ s ∈ S, H s ≠ none) → Dx S H' v d
def NwA (H H' : Hp) (vs : List V) (ds : List PyData) : Prop := ∀ S : List Addr, (∀ s ∈ S, H s ≠ none) → DxA S H' vs ds
theorem Nw.tup {H H1 : Hp} {p : Addr} {xs : List V} {ds : List PyData} (k : ∀ b, H b ≠ none → H1 b ≠ none) (n : H1 p = none) (h : NwA H H1 xs ds) : Nw H (upd H1 p (.tup xs)) (.ref p) (.tuple ds) := fun S t =>
  .tup (fun z => k p (t p z) n) upd_same ((h S t).kp (Kp.new (S := []) n) fun _ z => by cases z)
theorem Nw.lst {H H1 : Hp} {p : Addr} {xs : List V} {ds : List PyData} (k : ∀ b, H b ≠ none → H1 b ≠ none) (n : H1 p = none) (h : NwA H H1 xs ds) : Nw H (upd H1 p (.lst xs)) (.ref p) (.list ds) := fun S t =>
  .lst (fun z => k p (t p z) n) upd_same ((h S t).kp (Kp.new (S := []) n) fun _ z => by cases z)
theorem NwA.nil {H H1 : Hp} : NwA H H1 [] [] := fun _ _ => .nil
theorem NwA.cons {H H1 : Hp} {v : V} {vs : List V} {d : PyData} {ds : List PyData} (h : Nw H H1 v d) (t : NwA H H1 vs ds) : NwA H H1 (v :: vs) (d :: ds) := fun S z => .cons (h S z) (t S z)
theorem Nw.int {H H1 : Hp} (i : Int) : Nw H H1 (.int i) (.int i) := fun _ _ => .int i
theorem Nw.non {H H1 : Hp} : Nw H H1 .non .none := fun _ _ => .non
theorem Nw.bl {H H1 : Hp} (b : Bool) : Nw H H1 (.bl b) (.bool b) := fun _ _ => .bl b
theorem Nw.str {H H1 : Hp} (z : Str) : Nw H H1 (.str z) (.str z) := fun _ _ => .str z
theorem Nw.kp {H H1 H2 : Hp} {v : V} {d : PyData} (h : Nw H H1 v d) (k : Kp [] H1 H2) : Nw H H2 v d := fun S t => (h S t).kp k fun _ z => by cases z
theorem NwA.kp {H H1 H2 : Hp} {v : List V} {d : List PyData} (h : NwA H H1 v d) (k : Kp [] H1 H2) : NwA H H2 v d := fun S t => (h S t).kp k fun _ z => by cases z
/-- what was written stood before -/
theorem Nw.kpS {H H1 H2 : Hp} {S0 : List Addr} {v : V} {d : PyData} (h : Nw H H1 v d) (k : Kp S0 H1 H2) (hs : ∀ s ∈ S0, H s ≠ none) : Nw H H2 v d := fun S t =>
  ((h (S0 ++ S) fun s z => by rcases List.mem_append.mp z with z | z <;> first | exact hs s z | exact t s z).kp k fun x z => List.mem_append_left _ z).wk fun x z => List.mem_append_right _ z
theorem NwA.kpS {H H1 H2 : Hp} {S0 : List Addr} {v : List V} {d : List PyData} (h : NwA H H1 v d) (k : Kp S0 H1 H2) (hs : ∀ s ∈ S0, H s ≠ none) : NwA H H2 v d := fun S t =>
  ((h (S0 ++ S) fun s z => by rcases List.mem_append.mp z with z | z <;> first | exact hs s z | exact t s z).kp k fun x z => List.mem_append_left _ z).wk fun x z => List.mem_append_right _ z
theorem Nw.old {H0 H H1 : Hp} {v : V} {d : PyData} (k : ∀ b, H0 b ≠ none → H b ≠ none) (h : Nw H H1 v d) : Nw H0 H1 v d := fun S t => h S fun s z => k s (t s z)
theorem NwA.old {H0 H H1 : Hp} {v : List V} {d : List PyData} (k : ∀ b, H0 b ≠ none → H b ≠ none) (h : NwA H H1 v d) : NwA H0 H1 v d := fun S t => h S fun s z => k s (t s z)
theorem NwA.app {H H1 : Hp} {v w : List V} {d e : List PyData} (h : NwA H H1 v d) (h2 : NwA H H1 w e) : NwA H H1 (v ++ w) (d ++ e) := fun S t => (h S t).app (h2 S t)
theorem NwA.ints {H H1 : Hp} : ∀ ns : List Int, NwA H H1 (ns.map V.int) (ns.map PyData.int)
  | [] => .nil
  | n :: r => .cons (.int n) (NwA.ints r)

/-! ### repr of data -/
section
variable {X : Cx}
theorem call_repr {j : Nat} (hG : X.A.guards = some []) (rm : Room j X.A) : CallR X (.builtin "repr") (fun xs H Q => ∃ (x : V) (d : PyData), xs = [x] ∧ Dp X.K H x d ∧ d.showable = true ∧ d.hasDict = false ∧ d.depth < 150 ∧ d.shown.length ≤ sizeLine ∧ (∃ a, x = .ref a) ∧ Q (.str d.shown) H) := by
  intro pins s σ H xs us Q I r h
  obtain ⟨x, d, rfl, hd, h1, h2, h3, h4, ⟨a, rfl⟩, q⟩ := h
  obtain ⟨u, rfl, ru⟩ := vals1 r
  obtain ⟨as, hr⟩ := hd.reads I d _ u ru
  obtain rfl : u = Value.ref a := ru
  have hu := rm.un
  refine repr_of_reads' hr h1 (fun e => by rw [h2] at e; cases e) hG (by omega) (fun _ _ e => e) (fun h' u tk hk => ?_) h4
  exact ⟨.str d.shown, H, I.kept (t' := tk) hk, ⟨u, rfl⟩, q⟩
/-- as call_isi, the written part told (in a comprehension's block it can't be read off) -/
theorem call_isiK {K : PySem.W.Frag} (h : X.K = K) : CallR X (.builtin "isinstance") (rIsi K) := h ▸ call_isi
theorem ix_tupK {K : PySem.W.Frag} (h : X.K = K) : IxR X (rIxT K) := h ▸ ix_tup
theorem ix_listK {K : PySem.W.Frag} (h : X.K = K) : IxR X (rIxL K) := h ▸ ix_list
/-! ### powers of great numbers; xs[i] op= e -/
def CPowW (i j : Int) : Prop := 0 ≤ j ∧ (Builtin.Int.intBits i : Int) * j ≤ 2 ^ 27
theorem op_powW : OpR X (binaryOp .Pow) (rI CPowW fun i j => .int (i ^ j.toNat)) := opI fun i j _ _ _ _ _ hc q => PyProof.Rows.pow_int hc.1 hc.2 q
def rCatL (K : PySem.W.Frag) : R2 := fun x y H Q => ∃ l b xs zs, x = .ref l ∧ y = .ref b ∧ SqL K H l xs ∧ SqL K H b zs ∧ xs.length + zs.length ≤ sizeLine ∧ ∀ p, H p = none → Q (.ref p) (upd H p (.lst (xs ++ zs)))
/-- list + list, also of a list that no one may write -/
theorem op_catL : OpR X (binaryOp .Add) (rCatL X.K) := by
  intro pins s σ H x y v u Q I rx ry h
  obtain ⟨l, b, xs, zs, rfl, rfl, hH, hB, hz, q⟩ := h
  cases rx
  cases ry
  obtain ⟨its, r, pl, _⟩ := I.list hH
  obtain ⟨its2, r2, pl2, _⟩ := I.list hB
  have hl := r.length
  have hl2 := r2.length
  obtain ⟨⟨cls, dd, data, sl⟩, ho, hc, n, hd⟩ := id pl.isList
  obtain ⟨⟨cls2, dd2, data2, sl2⟩, ho2, hc2, n2, hd2⟩ := id pl2.isList
  simp only at hc hd hc2 hd2
  subst hc hd hc2 hd2
  have e : its.toArray ++ its2.toArray = (its ++ its2).toArray := by simp
  refine concat_meets ⟨_, ho, rfl⟩ ⟨_, ho2, rfl⟩ noFill_list_add seq_list_add PySem.F.slot_list_add PySem.F.entry_list_add (PySem.F.args_list_add_2 _ _) (list_addW l b its.toArray its2.toArray n n2 dd dd2 sl sl2 (by rw [List.size_toArray, List.size_toArray]; omega)) ⟨ho, ho2, ?_⟩
  rw [e]
  exact ⟨.ref _, _, I.lnew (t' := s.toks) (r.append r2) (by rw [List.length_append]; omega), rfl, q _ I.fresh⟩
def rGetL (K : PySem.W.Frag) : V → V → Hp → VK → Prop := fun x y H Q => ∃ (p : Addr) (xs : List V) (j : Nat) (v : V), x = .ref p ∧ y = .int j ∧ SqL K H p xs ∧ xs[j]? = some v ∧ Q v H
theorem pget_list : PGet X (rGetL X.K) := by
  intro pins s σ H o i ov iv Q I r1 r2 h
  obtain ⟨p, xs, j, v, rfl, rfl, hq, hv, q⟩ := h
  obtain rfl : ov = Value.ref p := r1
  obtain ⟨t, rfl⟩ := r2
  obtain ⟨its, r, pl, hz⟩ := I.list hq
  obtain ⟨u, hu, ru⟩ := r.get hv
  have hj := (List.getElem?_eq_some_iff.mp hu).1
  have hl := r.length
  have h63 := line63
  exact getItem_listL pl.isList (by omega) (by omega) (by simpa using hu) ⟨v, H, I, ru, q⟩
end
theorem pow_ok {i : Int} {n e : Nat} (h : i.natAbs < 2 ^ n) (hn : 0 < n) (hz : n * e ≤ 2 ^ 27) : CPowW i (e : Int) := by
  refine ⟨by omega, ?_⟩
  have h1 : Builtin.Int.intBits i ≤ n := by
    have q := PySem.Flt.log2_lt_of hn h
    unfold Builtin.Int.intBits
    split <;> omega
  have h2 : Builtin.Int.intBits i * e ≤ n * e := Nat.mul_le_mul_right e h1
  have h3 : ((Builtin.Int.intBits i * e : Nat) : Int) ≤ ((2 ^ 27 : Nat) : Int) := Int.ofNat_le.mpr (Nat.le_trans h2 hz)
  rw [Int.natCast_mul] at h3
  exact h3
end Em

namespace Em
open PySem PySem.Spec PyProof.Rows L2 Qt

/-! ### a law's end: nothing is being shown around the law's call -/
def LawG (l : PySem.W.OpenLaw) (w : World) (K : PySem.W.Frag) (k n : Nat) (x : Str) (mg : Str → Option Value) (fa : Addr) (h : Heap) : Prop :=
  ∃ (fd : FuncData) (cs : List (Addr × Addr)) (sp : Sp), (∀ p ∈ cs, h.get? p.2 = some { cls := .none, data := .fields #[] } ∧ K.lookup p.2 = none ∧ PySem.W.CodeHd h p.1 p.2) ∧ (∀ (s : Shared) (u : Value), BindsTo s fd ⟨[u], []⟩ [(x, u)]) ∧
    (∀ (H : Hp) (a : Addr) (ns : List Int), ns.length ≤ n → (∀ z ∈ ns, Builtin.Int.intBits z ≤ 1048576) → (∀ p ∈ cs, H p.2 = some (.tbl #[])) → SqL K H a (ns.map V.int) → sp [.ref a] H (fun v _ => v = .bl true) fun _ _ _ => False) ∧
    ∀ base : Heap, K.In base → base.Ns mainGlobals mg → (∀ p ∈ cs, GxR.TabB base mg p.1 p.2) → FnG l.prog w K mg base CX0 k fa fd [x] sp

section
variable {P : Program} {w : World} {K : PySem.W.Frag} {mg mb : Str → Option Value} {k : Nat} {fa a : Addr} {cs : List (Addr × Addr)} {fd : FuncData} {x : Str} {sp : Sp} {s : Shared} {vs : List Value} {ns : List Int}
/-- what is tracked as the law begins: the tables, and the script if it is no written thing -/
def hp0 (K : PySem.W.Frag) (cs : List (Addr × Addr)) (a : Addr) (vs : List Value) (ns : List Int) : Hp := fun b =>
  if b ∈ cs.map (·.2) then some (.tbl #[]) else if b = a ∧ K.lookup a = none then some (.frz { cls := .type "list", data := .seq vs.toArray } (.lst (ns.map V.int))) else none
theorem hp0_tab {b : Addr} (h : b ∈ cs.map (·.2)) : hp0 K cs a vs ns b = some (.tbl #[]) := by unfold hp0; rw [if_pos h]
theorem hp0_scr (h : a ∉ cs.map (·.2)) (hk : K.lookup a = none) : hp0 K cs a vs ns a = some (.frz { cls := .type "list", data := .seq vs.toArray } (.lst (ns.map V.int))) := by
  unfold hp0; rw [if_neg h, if_pos ⟨rfl, hk⟩]
theorem hp0_cases {b : Addr} {o : HO} (h : hp0 K cs a vs ns b = some o) : (b ∈ cs.map (·.2) ∧ o = .tbl #[]) ∨ (b ∉ cs.map (·.2) ∧ b = a ∧ K.lookup a = none ∧ o = .frz { cls := .type "list", data := .seq vs.toArray } (.lst (ns.map V.int))) := by
  unfold hp0 at h
  by_cases h1 : b ∈ cs.map (·.2)
  · rw [if_pos h1] at h; exact .inl ⟨h1, (Option.some.inj h).symm⟩
  · rw [if_neg h1] at h
    by_cases h2 : b = a ∧ K.lookup a = none
    · rw [if_pos h2] at h; exact .inr ⟨h1, h2.1, h2.2, (Option.some.inj h).symm⟩
    · rw [if_neg h2] at h; cases h

theorem law_endG (KX : K.In s.heap) (n1 : s.heap.Ns mainGlobals mg) (n2 : s.heap.Ns builtinsNs mb) (n3 : ∀ x : Str, x ≠ "__name__" → mb x = bootBuiltins x) (lim : s.heap.NoLimit) (hg : s.gens = #[])
    (hT : ∀ p ∈ cs, s.heap.get? p.2 = some { cls := .none, data := .fields #[] } ∧ K.lookup p.2 = none ∧ PySem.W.CodeHd s.heap p.1 p.2)
    (hbm : ∃ (bm : Addr) (ob : Obj), mg "__builtins__" = some (.ref bm) ∧ bm ≠ builtinsNs ∧ s.heap.get? bm = some ob ∧ ob.cls = .type "module" ∧ ob.dict = some builtinsNs ∧ ob.data = .plain)
    (ha : s.heap.get? a = some { cls := .type "list", data := .seq vs.toArray }) (hi : IntsAre vs ns) (hl : ns.length ≤ sizeLine) (rm : Room k callerA)
    (F : ∀ base : Heap, K.In base → base.Ns mainGlobals mg → (∀ p ∈ cs, GxR.TabB base mg p.1 p.2) → FnG P w K mg base CX0 k fa fd [x] sp) (hb : ∀ (s : Shared) (u : Value), BindsTo s fd ⟨[u], []⟩ [(x, u)])
    (hsp : ∀ H : Hp, (∀ p ∈ cs, H p.2 = some (.tbl #[])) → SqL K H a (ns.map V.int) → sp [.ref a] H (fun v _ => v = .bl true) fun _ _ _ => False) :
    codeAny (model P w) callerA (.call (.ref fa) ⟨[.ref a], []⟩) (fun r s' => r = .ok (.ret (.bool true)) ∧ OldK s.heap s'.heap ∧ s'.os = s.os ∧ AllBare s'.gens) s := by
  have rv := vals_ints hi
  have lenV := hi.length
  obtain ⟨H, eH⟩ : ∃ H, H = hp0 K cs a vs ns := ⟨_, rfl⟩
  have memT : ∀ p ∈ cs, p.2 ∈ cs.map (·.2) := fun p hp => List.mem_map.mpr ⟨p, hp, rfl⟩
  have tabH : ∀ b, b ∈ cs.map (·.2) → s.heap.get? b = some { cls := .none, data := .fields #[] } ∧ K.lookup b = none := fun b hb => by
    obtain ⟨p, hp, e⟩ := List.mem_map.mp hb
    rw [← e]
    exact ⟨(hT p hp).1, (hT p hp).2.1⟩
  have aT : a ∉ cs.map (·.2) := fun z => by
    have q := (tabH a z).1
    rw [ha] at q
    have q2 : Data.seq vs.toArray _ = Data.fields #[] := congrArg Obj.data (Option.some.inj q)
    cases q2
  have hS : SqL K H a (ns.map V.int) := by
    cases hk : K.lookup a with
    | none => exact .inl (.inr ⟨_, by rw [eH]; exact hp0_scr aT hk⟩)
    | some o =>
      have e := KX a o hk
      rw [ha] at e
      cases e
      exact .inr ⟨_, vs.toArray, _, hk, rfl, rfl, rfl, by rw [List.size_toArray, lenV]; exact hl, by simpa using rv⟩
  have hH : ∀ p ∈ cs, H p.2 = some (.tbl #[]) := fun p hp => by rw [eH]; exact hp0_tab (memT p hp)
  have hok : HOk P w H s.heap := fun b o e => by
    rw [eH] at e
    rcases hp0_cases e with ⟨h1, rfl⟩ | ⟨h1, rfl, hk, rfl⟩
    · exact (tabH b h1).1
    · exact ⟨ha, by rw [List.length_map]; exact hl, vs, _, rv, ha⟩
  -- what is neither a sequence nor an empty table is untracked
  have out : ∀ {b : Addr} {o : Obj}, s.heap.get? b = some o → (∀ us n, o.data ≠ .seq us n) → o.data ≠ .fields #[] → H b = none := fun {b o} e h1 h2 => by
    cases q : H b with
    | none => rfl
    | some u =>
      rw [eH] at q
      rcases hp0_cases q with ⟨h3, _⟩ | ⟨_, h3, _⟩
      · rw [(tabH b h3).1] at e; cases e; exact absurd rfl h2
      · rw [h3, ha] at e; cases e; exact absurd rfl (h1 _ _)
  have keepB : ∀ {b : Addr} {o : Obj}, s.heap.get? b = some o → H b = none → (hidT s.heap H).get? b = some o := fun e n => hidT_get e n
  have nsB : ∀ {b : Addr} {m : Str → Option Value}, s.heap.Ns b m → (hidT s.heap H).Ns b m := fun {b m} ⟨o, es, ep, e, d, r⟩ =>
    ⟨o, es, ep, keepB e (out e (fun us n z => by rw [d] at z; cases z) fun z => by rw [d] at z; cases z), d, r⟩
  have KB : K.In (hidT s.heap H) := fun b o e => keepB (KX b o e) (by
    cases q : H b with
    | none => rfl
    | some u =>
      rw [eH] at q
      rcases hp0_cases q with ⟨h3, _⟩ | ⟨_, h3, h4, _⟩
      · rw [(tabH b h3).2] at e; cases e
      · rw [h3, h4] at e; cases e)
  have MB : L2.Mod K mg (hidT s.heap H) := ⟨KB, nsB n1, ⟨mb, nsB n2, n3⟩, let ⟨mc, h1, h2⟩ := lim; ⟨mc, nsB h1, h2⟩⟩
  have TB : ∀ p ∈ cs, GxR.TabB (hidT s.heap H) mg p.1 p.2 := fun p hp => by
    obtain ⟨t1, t2, o, us, file, tf, flags, tg, inF, text, tt, e1, r1, r2, r3, r4, r5, r6, r7, r8, hne⟩ := hT p hp
    obtain ⟨bm, ob, b1, b2, b3, b4, b5, b6⟩ := hbm
    refine ⟨⟨o, us, file, tf, flags, tg, inF, text, tt, keepB e1 (out e1 (fun vs n z => by rw [r2] at z; cases z) fun z => by rw [r2] at z; cases z; simp at r3), r1, r2, r3, r4, r5, r6, r7, r8, hne⟩,
      ⟨bm, ob, b1, b2, fun q => ?_, fun q => ?_, keepB b3 (out b3 (fun vs n z => by rw [b6] at z; cases z) fun z => by rw [b6] at z; cases z), b4, b5, b6⟩, fun z => ?_⟩
    · obtain ⟨o, es, ep, e, hd, _⟩ := n1
      rw [q, e] at b3; cases b3
      rw [hd] at b6; cases b6
    · rw [q, t1] at b3; cases b3; cases b6
    · obtain ⟨o, es, ep, e, hd, _⟩ := n1
      rw [z, t1] at e; cases e; cases hd
  have e0 : Env0 P w K mg (hidT s.heap H) callerA [] s H := ⟨rfl, MB, fun b o e => of_hidT e, Nat.le_of_eq (hidT_size _ _), trivial, fun b hb => absurd (show b ∈ ([] : List Addr) from hb) (by simp), hok, .of_eq hg⟩
  refine codeAny_mono ((F _ KB (nsB n1) TB).go callerA [] s H ⟨[.ref a], []⟩ [.ref a] [.ref a] _ _ rfl rm e0 (hb s (.ref a)) (.cons rfl .nil) (hsp H hH hS)) fun r s' h => ?_
  cases r with
  | error e => exact absurd (show False from h) (fun z => z)
  | ok fl =>
    cases fl with
    | next => exact absurd (show False from h) (fun z => z)
    | brk => exact absurd (show False from h) (fun z => z)
    | cont => exact absurd (show False from h) (fun z => z)
    | ret u =>
      obtain ⟨v, H', hos, bare, un, hok', r', q⟩ := h
      subst q
      obtain rfl : u = Value.bool true := r'
      have noA : ∀ b : Addr, b ∉ ([] : List Addr) := fun b => by simp
      have same : ∀ b o, b ∉ cs.map (·.2) → s.heap.get? b = some o → s'.heap.get? b = some o := fun b o nb e => by
        cases q : H b with
        | none => exact un.keep b o e q (fun z => absurd (show b ∈ ([] : List Addr) from z) (noA b)) (noA b)
        | some u =>
          have q0 := q
          rw [eH] at q
          rcases hp0_cases q with ⟨h3, _⟩ | ⟨_, h3, h4, rfl⟩
          · exact absurd h3 nb
          · obtain ⟨e1, _⟩ := hok b _ q0
            obtain ⟨e2, _⟩ := hok' b _ (un.frzs b _ _ q0)
            rw [e] at e1
            cases e1
            exact e2
      have more : ∀ b, b ∈ cs.map (·.2) → ∃ m : Array Value, s'.heap.get? b = some { cls := .none, data := .fields m } := fun b hb => by
        obtain ⟨p, hp, e⟩ := List.mem_map.mp hb
        obtain ⟨m, z⟩ := un.tbls p.2 #[] (hH p hp)
        rw [← e]
        exact ⟨_, hok' p.2 _ z⟩
      refine ⟨rfl, ⟨fun b o e => ?_, fun b o e => ?_⟩, hos, bare⟩
      · by_cases hb : b ∈ cs.map (·.2)
        · obtain ⟨m, hm⟩ := more b hb
          obtain ⟨p, hp, ep⟩ := List.mem_map.mp hb
          rw [(tabH b hb).1] at e
          cases e
          refine .inr (.inl ⟨?_, rfl, #[], m, rfl, by rw [Array.empty_append]; exact hm⟩)
          rw [← ep]
          exact ((hT p hp).2.2.tab (hT p hp).1).isCodeTable
        · exact .inl (same b o hb e)
      · by_cases hb : b ∈ cs.map (·.2)
        · obtain ⟨m, hm⟩ := more b hb
          exact ⟨_, hm⟩
        · exact ⟨o, same b o hb e⟩
end
theorem walkG {l : PySem.W.OpenLaw} {n k : Nat} {q : Program} {loose : List Str} {XP : (Str → Option Value) → Heap → Prop} {YP : World → Heap → Prop} {d : DefRec} {x : Str}
    (hn : l.most = some n) (hn2 : n ≤ sizeLine) (hdf : d.params.defaults = []) (rm : Room k callerA)
    (F : ∀ (w : World) (mg : Str → Option Value) (fa : Addr) (h : Heap), YP w h → h.Ns mainGlobals mg → mg d.name = some (.ref fa) → ∃ K : PySem.W.Frag, K.In h ∧ LawG l w K k n x mg fa h) :
    PySem.W.WalkO q loose XP YP l.row.toRowW d [] (fun f vs => PySem.call f vs) := by
  refine Att.attach_callB hn hdf fun w s0 s1 mg mb fa o pm cd doc a vs ns G Y ho hd hcd hmg hobj hints hlen hbits hg => ?_
  obtain ⟨K, KX, fd, cs, sp, hT, hb, hsp, hF⟩ := F w mg fa _ Y G.T.g hmg
  exact law_endG KX G.T.g G.T.b G.T.builtins G.T.nolimit hg hT G.T.bmain hobj hints (Nat.le_trans hlen hn2) rm hF hb fun H hH hS => hsp H a ns hlen hbits hH hS
/-! ### facts of the head -/
theorem funOf {K : PySem.W.Frag} {x qual : Str} {st : Stmt} {f : Addr} {fd : FuncData} (F : FunD K x qual (defArgs st) (defBody st) (defScope st) [] [] f fd) : Fun K x qual st f fd := by
  obtain ⟨oc, od, dV, kV, doc, pm, an, cdv, ct, osl, e, lk, hcd, hD, hK⟩ := F.ex
  rcases hD with ⟨_, rfl⟩ | ⟨z, _⟩
  · exact ⟨⟨oc, od, kV, doc, pm, an, cdv, ct, osl, e, lk, hcd⟩, F.kp⟩
  · exact absurd rfl z
/-- a def of the module: where it stands, how it is called -/
structure Df (K : PySem.W.Frag) (mg : Str → Option Value) (x : Str) (st : Stmt) (ps : List Str) (f : Addr) (fd : FuncData) : Prop where
  F : Fun K x x st f fd
  b : Binds K fd ps []
  g : mg x = some (.ref f)
/-- its code's object -/
def CodeIs (K : PySem.W.Frag) (f c : Addr) : Prop := ∀ oc od fd osl, K.lookup f = some ⟨oc, od, .func fd, osl⟩ → fd.code = .ref c
theorem codeIs_of {K : PySem.W.Frag} {x qual : Str} {st : Stmt} {p : Str × Option Str} {fd : FuncData} (F : Fun K x qual st (He.fAd K p) fd) : CodeIs K (He.fAd K p) (He.codeOf K p) := by
  obtain ⟨oc, od, kV, doc, pm, an, cdv, ct, osl, e, lk, hcd⟩ := F.ex
  obtain ⟨c, hc⟩ := He.codeIn_ref hcd
  have h1 : He.codeOf K p = c := He.codeOf_eq lk (by rw [e]; exact hc)
  intro oc2 od2 fd2 osl2 lk2
  rw [lk] at lk2
  cases lk2
  rw [h1, e]
  exact hc
theorem Df.mk' {K : PySem.W.Frag} {mg : Str → Option Value} {x : Str} {st : Stmt} {ps : List Str} {f : Addr} {fd : FuncData} (F : FunD K x x (defArgs st) (defBody st) (defScope st) [] [] f fd) (hm : mg x = some (.ref f))
    (h : ∀ (kV doc pm : Value) (an : Option Addr) (cdv ct : Value) (us : List Value), us.length = ps.length → bindArgs (PySem.W.fnOf x x (defArgs st) (defBody st) (defScope st) .none kV doc pm an cdv ct) ⟨us, []⟩ = pure (ps.zip us)) : Df K mg x st ps f fd :=
  ⟨funOf F, F.bindsN h, hm⟩
/-- as Fun.ok, the code's object known -/
theorem okC {P : Program} {w : World} {K : PySem.W.Frag} {mg : Str → Option Value} {base : Heap} {k : Nat} {f c : Addr} {fd : FuncData} {ps : List Str} {sp : Sp} {x qual : Str} {st : Stmt} {N : List Str} (F : Fun K x qual st f fd) (hC : CodeIs K f c) (S : FnScope N ps (defScope st)) (len : ∀ vs H Q E, sp vs H Q E → vs.length = ps.length)
    (hbody : ∀ (A : Around) (outer : List Env) (s : Shared) (H : Hp) (vs : List V) (Q : VK) (E : XK), Room k (A.deeper (envOfC qual (defScope st) s.heap.objs.size f (.ref c))) → sp vs H Q E →
      ∃ t, PSs (cxOf CX0 P w K mg base N qual (defScope st) f (.ref c) A outer s H E).nox (defBody st) t ∧ t { nx := fun _ H' => Q .non H', rt := Q } (start N vs) H) : FnOk P w K mg base CX0 (k + 1) f fd ps sp := by
  obtain ⟨oc, od, kV, doc, pm, an, cdv, ct, osl, rfl, lk, hcd⟩ := F.ex
  have hc : cdv = .ref c := hC _ _ _ _ lk
  subst hc
  refine fn_of lk hcd S len fun A outer s H vs Q E hr hs => ?_
  obtain ⟨t, h, q⟩ := hbody A outer s H vs Q E hr hs
  exact ⟨t, h.nox, q⟩
end Em

namespace Em
open PySem PySem.Spec PyProof.Rows L2 Qt

/-! ### what a net is, of any data -/
def isW : PyData → Bool
  | .int _ => true
  | _ => false
def numB (m : Nat) : PyData → Bool
  | .int i => decide (0 ≤ i) && decide (i < (m : Int))
  | _ => false
def lenB : PyData → Bool
  | .int i => !decide (i < 1)
  | _ => false
def nxB (m : Nat) : PyData → Bool
  | .none => true
  | d => numB m d
def lampB (m : Nat) : PyData → Bool
  | .tuple [l, o] => lenB l && nxB m o
  | _ => false
def netB : PyData → Bool
  | .tuple ds => !decide ((ds.length : Int) < 1) && !decide ((12 : Int) < (ds.length : Int)) && (ds.map (lampB ds.length)).all id
  | _ => false

/-! ### the class of data -/
def kname : PyData → String
  | .none => "NoneType"
  | .bool _ => "bool"
  | .int _ => "int"
  | .str _ => "str"
  | .list _ => "list"
  | .tuple _ => "tuple"
  | .dict _ => "dict"
theorem knd_of {c : Qc} {S : List Addr} (O : c.Ok) : ∀ {v : V} {d : PyData}, Dx S c.H v d → Knd c v (kname d)
  | _, _, .non => .non
  | _, _, .bl b => .bl b
  | _, _, .int i => .int i
  | _, _, .str z => .str z
  | _, _, .lst n h r => by
    obtain ⟨_, its, m, _, e⟩ := O.hok _ _ h
    exact .lst ⟨_, e, rfl⟩
  | _, _, .tup n h r => by
    obtain ⟨_, its, _, o, e, ec, _⟩ := O.hok _ _ h
    exact .tup ⟨o, e, ec⟩
  | _, _, .dic n h => by
    obtain ⟨_, _, vs, _, o, es, ep, e, q, _⟩ := O.hok _ _ h
    exact .dic ⟨o, e, q.1⟩
theorem tupQ_of {c : Qc} (O : c.Ok) {a : Addr} {xs : List V} (h : c.H a = some (.tup xs)) : TupQ c a xs := by
  obtain ⟨hz, its, rv, ht⟩ := O.hok _ _ h
  exact ⟨its, rv, ht, hz⟩
/-- isinstance(x, C) of data -/
def kindS (k C : String) : Bool := k == C || (k == "bool" && C == "int")
def kindB (d : PyData) (C : String) : Bool := kindS (kname d) C
def kinds : List String := ["NoneType", "bool", "int", "str", "list", "tuple", "dict"]
theorem kname_mem (d : PyData) : kname d ∈ kinds := by cases d <;> simp [kname, kinds]
def cls4 : List String := ["int", "bool", "tuple", "list"]
theorem kits : ∀ C ∈ cls4, ∀ k ∈ kinds, kitB k C = some (kindS k C) := by decide +kernel
theorem kit_data {K : PySem.W.Frag} {d : PyData} {C : String} (hC : C ∈ cls4) : PySem.W.kitOne K (.type (kname d)) (.type C) = some (kindB d C) := kit_ty (kits C hC _ (kname_mem d))
theorem qe_isi {c : Qc} {k : Nat} {env : Env} {N : Nm} {S : List Addr} {v : V} {d : PyData} {C : String} {e : Expr} {p1 p2 pos : Pos} (O : c.Ok) (h : Dx S c.H v d) (he : QE c k env N e v) (hg : env.kindOf ("isinstance" : Str) = some .globalImplicit) (hm : c.mg "isinstance" = none)
    (hgC : env.kindOf (Str.ofString C) = some .globalImplicit) (hmC : c.mg (Str.ofString C) = none) (hvC : bootBuiltins (Str.ofString C) = some (.type C)) (hC : C ∈ cls4)
    (hn : (Str.ofString C) ≠ "__name__" := by decide) (hd : ((Str.ofString C) == ("__debug__" : Str)) = false := by decide)
    (s1 : starEach (e :: [.Name (Str.ofString C) p2]) env = (false, eval e env) :: starEach [.Name (Str.ofString C) p2] env := by rfl) (s2 : starEach (.Name (Str.ofString C) p2 :: []) env = (false, eval (.Name (Str.ofString C) p2) env) :: starEach [] env := by rfl)
    (hpl : (backTo pos (starEach [.Name (Str.ofString C) p2] env)).any (·.1) = false := by rfl) :
    QE c k env N (.Call (.Name "isinstance" p1) (e :: [.Name (Str.ofString C) p2]) [] pos) (.bl (kindB d C)) :=
  q_callB O (qc_isi O (knd_of O h) (kit_data hC)) hg hm (by decide +kernel) (qa_cons he (qa_cons (q_blt (v := .ty C) O hgC hmC hvC rfl hn hd) qa_nil s2) s1) (by decide) (by decide) s1 hpl
theorem tyx_of {K : PySem.W.Frag} {S : List Addr} {H : Hp} : ∀ {v : V} {d : PyData}, Dx S H v d → TyX K H v (.type (kname d))
  | _, _, .non => .base .non
  | _, _, .bl b => .base (.bl b)
  | _, _, .int i => .base (.int i)
  | _, _, .str z => .base (.str z)
  | _, _, .lst n h r => .base (.lst h)
  | _, _, .tup n h r => .base (.tup h)
  | _, _, .dic n h => .base (.dK h)
mutual
theorem Dx.wiped {S : List Addr} {H : Hp} {P : Addr} (t : GxR.TabG H P) : ∀ {v : V} {d : PyData}, Dx S H v d → Dx S (wipe H P) v d
  | _, _, .non => .non
  | _, _, .bl b => .bl b
  | _, _, .int i => .int i
  | _, _, .str z => .str z
  | _, _, .lst n h r => .lst n (wipe_at (fun z => by obtain ⟨ps, e, _⟩ := t; rw [z, e] at h; cases h) h) (DxA.wiped t r)
  | _, _, .tup n h r => .tup n (wipe_at (fun z => by obtain ⟨ps, e, _⟩ := t; rw [z, e] at h; cases h) h) (DxA.wiped t r)
  | _, _, .dic n h => .dic n (wipe_at (fun z => by obtain ⟨ps, e, _⟩ := t; rw [z, e] at h; cases h) h)
theorem DxA.wiped {S : List Addr} {H : Hp} {P : Addr} (t : GxR.TabG H P) : ∀ {v : List V} {d : List PyData}, DxA S H v d → DxA S (wipe H P) v d
  | _, _, .nil => .nil
  | _, _, .cons h r => .cons (Dx.wiped t h) (DxA.wiped t r)
end
theorem free_by {names : List (Str × NameKind)} {sc : Scope} {n : Nat} (h : names.all (fun y => y.2 != .free || sc.names.lookup y.1 == some .cell) = true) : ∀ y ∈ names, y.2 = .free → ∃ c, (cellsFrom n sc.names []).lookup y.1 = some c := fun y hy e => by
  have q := List.all_eq_true.mp h y hy
  rw [e] at q
  exact cell_has (by simpa using q)
end Em

namespace Em
open PySem PySem.Spec PyProof.Rows L2 Qt

/-! ### nets -/
abbrev Net := List (Int × Option Nat)
def nxD : Option Nat → PyData
  | none => .none
  | some n => .int n
def nxV : Option Nat → V
  | none => .non
  | some n => .int n
def lampD (p : Int × Option Nat) : PyData := .tuple [.int p.1, nxD p.2]
def netD (N : Net) : PyData := .tuple (N.map lampD)
structure NetOk (N : Net) : Prop where
  lo : 1 ≤ N.length
  hi : N.length ≤ 12
  len : ∀ p ∈ N, 1 ≤ p.1
  nx : ∀ p ∈ N, ∀ y, p.2 = some y → y < N.length
theorem netB_of {N : Net} (h : NetOk N) : netB (netD N) = true := by
  have h1 := h.lo
  have h2 := h.hi
  show (!decide (((N.map lampD).length : Int) < 1) && !decide ((12 : Int) < ((N.map lampD).length : Int)) && ((N.map lampD).map (lampB (N.map lampD).length)).all id) = true
  rw [List.length_map, decide_eq_false (by omega), decide_eq_false (by omega)]
  simp only [Bool.not_false, Bool.true_and, List.map_map, List.all_eq_true]
  intro b hb
  obtain ⟨p, hp, rfl⟩ := List.mem_map.mp hb
  have e1 := h.len p hp
  have e2 := h.nx p hp
  obtain ⟨l, o⟩ := p
  have h3 : ¬ l < 1 := by simp only at e1; omega
  show (!decide (l < 1) && nxB N.length (nxD o)) = true
  rw [decide_eq_false h3]
  cases o with
  | none => rfl
  | some y =>
    have := e2 y rfl
    show (decide ((0 : Int) ≤ (y : Int)) && decide ((y : Int) < (N.length : Int))) = true
    rw [decide_eq_true (by omega), decide_eq_true (by omega)]
    rfl
/-- the next lamp -/
def nxt (N : Net) (x : Nat) : Option Nat := (N.getD x (1, none)).2
theorem nxt_get {N : Net} {x : Nat} {p : Int × Option Nat} (h : N[x]? = some p) : nxt N x = p.2 := by
  unfold nxt
  rw [List.getD_eq_getElem?_getD, h]
  rfl
theorem nxt_lt {N : Net} (h : NetOk N) {x y : Nat} (e : nxt N x = some y) : y < N.length := by
  by_cases hx : x < N.length
  · have g := List.getElem?_eq_getElem hx
    rw [nxt_get g] at e
    exact h.nx _ (List.getElem_mem hx) y e
  · unfold nxt at e
    rw [List.getD_eq_getElem?_getD, List.getElem?_eq_none (by omega)] at e
    cases e

/-! ### the way from a lamp: one step more while there is a lamp that was not come by -/
def lastOf (g : List Nat) : Nat := g.getLastD 0
def step (N : Net) (g : List Nat) : List Nat := match nxt N (lastOf g) with
  | none => g
  | some y => if y ∈ g then g else g ++ [y]
def itr {α : Type} (f : α → α) : Nat → α → α
  | 0, a => a
  | n + 1, a => f (itr f n a)
def path (N : Net) (x : Nat) : List Nat := itr (step N) N.length [x]
/-- the way's two parts -/
def cutAt (N : Net) (g : List Nat) : Nat := match nxt N (lastOf g) with
  | none => g.length
  | some y => g.idxOf y
def wayA (N : Net) (x : Nat) : List Nat := (path N x).take (cutAt N (path N x))
def wayR (N : Net) (x : Nat) : List Nat := (path N x).drop (cutAt N (path N x))
def natsD (g : List Nat) : PyData := .tuple (g.map fun n : Nat => .int (n : Int))
def wayD (N : Net) (x : Nat) : PyData := .tuple [natsD (wayA N x), natsD (wayR N x)]
theorem itr_fix {α : Type} {f : α → α} {a : α} (h : f a = a) : ∀ n, itr f n a = a
  | 0 => rfl
  | n + 1 => by
    show f (itr f n a) = a
    rw [itr_fix h n, h]
theorem itr_add {α : Type} {f : α → α} {a : α} (m : Nat) : ∀ n, itr f (m + n) a = itr f n (itr f m a)
  | 0 => rfl
  | n + 1 => by
    show f (itr f (m + n) a) = f (itr f n (itr f m a))
    rw [itr_add m n]
theorem last_app (g : List Nat) (y : Nat) : lastOf (g ++ [y]) = y := by
  unfold lastOf
  rw [List.getLastD_eq_getLast?, List.getLast?_concat]
  rfl
/-- what is gone so far: i steps on the way -/
structure Gone (N : Net) (x i : Nat) (g : List Nat) : Prop where
  it : g = itr (step N) i [x]
  len : g.length = i + 1
  nd : g.Nodup
  lt : ∀ y ∈ g, y < N.length
theorem Gone.start {N : Net} {x : Nat} (h : x < N.length) : Gone N x 0 [x] := ⟨rfl, rfl, by simp, by simpa using h⟩
theorem Gone.more {N : Net} (o : NetOk N) {x i : Nat} {g : List Nat} (a : Gone N x i g) {y : Nat} (h : nxt N (lastOf g) = some y) (hn : y ∉ g) : Gone N x (i + 1) (g ++ [y]) := by
  refine ⟨?_, by rw [List.length_append, a.len]; rfl, ?_, fun z hz => ?_⟩
  · show g ++ [y] = step N (itr (step N) i [x])
    rw [← a.it]
    unfold step
    rw [h]
    simp only [hn, if_false]
  · rw [List.nodup_append]
    refine ⟨a.nd, by simp, fun b hb c hc => ?_⟩
    have : c = y := by simpa using hc
    subst this
    exact fun e => hn (e ▸ hb)
  · rcases List.mem_append.mp hz with hz | hz
    · exact a.lt z hz
    · have : z = y := by simpa using hz
      rw [this]
      exact nxt_lt o h
theorem nodup_le : ∀ {n : Nat} {g : List Nat}, g.Nodup → (∀ y ∈ g, y < n) → g.length ≤ n
  | 0, g, _, h2 => by
    cases g with
    | nil => exact Nat.le_refl _
    | cons y r => exact absurd (h2 y List.mem_cons_self) (Nat.not_lt_zero _)
  | n + 1, g, h1, h2 => by
    by_cases hn : n ∈ g
    · have h3 := nodup_le (n := n) (g := g.erase n) (h1.erase n) fun y hy => by
        have q := (h1.mem_erase_iff).mp hy
        have := h2 y q.2
        have := q.1
        omega
      rw [List.length_erase_of_mem hn] at h3
      omega
    · have h3 := nodup_le (n := n) h1 fun y hy => by
        have := h2 y hy
        have : y ≠ n := fun e => hn (e ▸ hy)
        omega
      omega
theorem Gone.le {N : Net} {x i : Nat} {g : List Nat} (a : Gone N x i g) : g.length ≤ N.length := nodup_le a.nd a.lt
/-- where no step is left, that is the whole path -/
theorem Gone.done {N : Net} {x i : Nat} {g : List Nat} (a : Gone N x i g) (h : step N g = g) : path N x = g := by
  have hl := a.le
  have e : N.length = i + (N.length - i) := by have := a.len; omega
  unfold path
  rw [e, itr_add, ← a.it]
  exact itr_fix h _
theorem step_none {N : Net} {g : List Nat} (h : nxt N (lastOf g) = none) : step N g = g := by unfold step; rw [h]
theorem step_in {N : Net} {g : List Nat} {y : Nat} (h : nxt N (lastOf g) = some y) (hy : y ∈ g) : step N g = g := by unfold step; rw [h]; simp only [hy, if_true]
/-! ### nets and numbers in the heap -/
def natV (g : List Nat) : List V := g.map fun n : Nat => V.int (n : Int)
theorem natV_app (g : List Nat) (y : Nat) : natV (g ++ [y]) = natV g ++ [.int y] := by unfold natV; rw [List.map_append]; rfl
theorem natV_len (g : List Nat) : (natV g).length = g.length := by unfold natV; rw [List.length_map]
theorem natV_get {g : List Nat} {i y : Nat} (h : g[i]? = some y) : (natV g)[i]? = some (.int y) := by unfold natV; rw [List.getElem?_map, h]; rfl
theorem natV_flat (g : List Nat) : (natV g).all flatV = true := by
  unfold natV
  rw [List.all_eq_true]
  intro v hv
  obtain ⟨n, _, rfl⟩ := List.mem_map.mp hv
  rfl
theorem inV_natV {x : Nat} (g : List Nat) : inV (.int x) (natV g) = decide (x ∈ g) := by
  rw [Bool.eq_iff_iff, decide_eq_true_iff]
  unfold inV natV
  rw [List.any_eq_true]
  constructor
  · rintro ⟨v, hv, e⟩
    obtain ⟨n, hn, rfl⟩ := List.mem_map.mp hv
    have e1 : ((n : Int) == (x : Int)) = true := e
    have e2 : n = x := by have := beq_iff_eq.mp e1; omega
    exact e2 ▸ hn
  · intro h
    exact ⟨_, List.mem_map.mpr ⟨x, h, rfl⟩, by show ((x : Int) == (x : Int)) = true; simp⟩
theorem nwA_natV {H H1 : Hp} : ∀ g : List Nat, NwA H H1 (natV g) (g.map fun n : Nat => PyData.int (n : Int))
  | [] => .nil
  | n :: r => .cons (.int _) (nwA_natV r)
theorem dx_nx {S : List Addr} {H : Hp} {v : V} {o : Option Nat} (h : Dx S H v (nxD o)) : v = nxV o := by
  cases o with
  | none => cases h; rfl
  | some n => cases h; rfl
theorem net_at {S : List Addr} {H : Hp} {v : V} {N : Net} (h : Dx S H v (netD N)) : ∃ (ad : Addr) (xs : List V), v = .ref ad ∧ ad ∉ S ∧ H ad = some (.tup xs) ∧ xs.length = N.length ∧
    ∀ (x : Nat) (p : Int × Option Nat), N[x]? = some p → ∃ la : Addr, xs[x]? = some (.ref la) ∧ la ∉ S ∧ H la = some (.tup [.int p.1, nxV p.2]) := by
  cases h with
  | @tup ad xs ds n h r =>
    refine ⟨ad, xs, rfl, n, h, by rw [r.len, List.length_map], fun x p hp => ?_⟩
    obtain ⟨w, hw, hx⟩ := r.get' (i := x) (d := lampD p) (by rw [List.getElem?_map, hp]; rfl)
    cases hx with
    | @tup la ys es m h2 r2 =>
      cases r2 with
      | cons a1 r3 =>
        cases r3 with
        | cons a2 r4 =>
          cases r4
          cases a1
          rw [dx_nx a2] at h2
          exact ⟨la, hw, m, h2⟩
theorem natV_cut0 {g : List Nat} {i : Nat} (h : i ≤ g.length) : cutV (natV g) none (some (i : Int)) = natV (g.take i) := by
  unfold cutV
  rw [show HT.sIx (natV g).length (natV g).length (some (i : Int)) = min i (natV g).length from HT.sIx_nat _ _ i, HT.sIx_none, natV_len, Nat.min_eq_left h, Nat.sub_zero, List.drop_zero]
  unfold natV
  rw [List.map_take]
theorem natV_cut1 {g : List Nat} {i : Nat} (h : i ≤ g.length) : cutV (natV g) (some (i : Int)) none = natV (g.drop i) := by
  unfold cutV
  rw [show HT.sIx (natV g).length 0 (some (i : Int)) = min i (natV g).length from HT.sIx_nat _ _ i, HT.sIx_none, natV_len, Nat.min_eq_left h]
  unfold natV
  rw [← List.map_drop, List.take_of_length_le (by rw [List.length_map, List.length_drop]; exact Nat.le_refl _)]
theorem idx_ne {g : List Nat} {j u y : Nat} (hj : j < g.idxOf y) (hu : g[j]? = some u) : u ≠ y := fun e => by
  have h := List.not_of_lt_findIdx (p := (· == y)) (xs := g) hj
  obtain ⟨h1, h2⟩ := List.getElem?_eq_some_iff.mp hu
  rw [h2, e] at h
  simp at h
theorem big_log {m : Int} (h : 0 < m) (h2 : m < 2 ^ 8000) : m.natAbs.log2 < 9000 := by
  have h3 : m.natAbs < 2 ^ 8000 := by
    have e : ((2 ^ 8000 : Nat) : Int) = (2 : Int) ^ 8000 := by rw [Int.natCast_pow]; rfl
    have : (m.natAbs : Int) < ((2 ^ 8000 : Nat) : Int) := by rw [e]; omega
    exact Int.ofNat_lt.mp this
  exact Nat.lt_of_lt_of_le (PySem.Flt.log2_lt_of (by decide) h3) (by decide)
theorem at_mem {xs : List V} {r : Int} (h0 : 0 ≤ r) (h1 : r < (xs.length : Int)) : ∃ v, atI xs r = some v ∧ v ∈ xs := by
  obtain ⟨j, rfl⟩ : ∃ j : Nat, r = (j : Int) := ⟨r.toNat, by omega⟩
  have hj : j < xs.length := by omega
  exact ⟨xs[j], atI_nat (List.getElem?_eq_getElem hj), List.getElem_mem hj⟩
theorem small64' {n : Nat} (h : n ≤ 1000) : n ≤ sizeLine := Nat.le_trans h (by decide)
/-- what a walk of so many turns has come by: a turn may have stood still -/
structure Been (N : Net) (x i : Nat) (g : List Nat) : Prop where
  it : g = itr (step N) i [x]
  pos : 1 ≤ g.length
  nd : g.Nodup
  lt : ∀ y ∈ g, y < N.length
  st : g.length = i + 1 ∨ step N g = g
theorem Been.start {N : Net} {x : Nat} (h : x < N.length) : Been N x 0 [x] := ⟨rfl, Nat.le_refl _, by simp, by simpa using h, .inl rfl⟩
theorem Been.still {N : Net} {x i : Nat} {g : List Nat} (a : Been N x i g) (h : step N g = g) : Been N x (i + 1) g := by
  refine ⟨?_, a.pos, a.nd, a.lt, .inr h⟩
  show g = step N (itr (step N) i [x])
  rw [← a.it, h]
theorem Been.more {N : Net} (o : NetOk N) {x i : Nat} {g : List Nat} (a : Been N x i g) {y : Nat} (h : nxt N (lastOf g) = some y) (hn : y ∉ g) : Been N x (i + 1) (g ++ [y]) := by
  have e : step N g = g ++ [y] := by unfold step; rw [h]; simp only [hn, if_false]
  have hl : g.length = i + 1 := by
    rcases a.st with h | h
    · exact h
    · rw [e] at h
      have := congrArg List.length h
      simp at this
  refine ⟨?_, by simp, ?_, fun z hz => ?_, .inl (by rw [List.length_append, hl]; rfl)⟩
  · show g ++ [y] = step N (itr (step N) i [x])
    rw [← a.it, e]
  · rw [List.nodup_append]
    refine ⟨a.nd, by simp, fun b hb c hc => ?_⟩
    have : c = y := by simpa using hc
    subst this
    exact fun e => hn (e ▸ hb)
  · rcases List.mem_append.mp hz with hz | hz
    · exact a.lt z hz
    · have : z = y := by simpa using hz
      rw [this]
      exact nxt_lt o h
theorem Been.le {N : Net} {x i : Nat} {g : List Nat} (a : Been N x i g) : g.length ≤ N.length := nodup_le a.nd a.lt
theorem Been.done {N : Net} {x : Nat} {g : List Nat} (a : Been N x N.length g) : path N x = g ∧ step N g = g := by
  refine ⟨a.it.symm, ?_⟩
  rcases a.st with h | h
  · have := a.le
    omega
  · exact h
theorem step_mem {N : Net} {g : List Nat} {y : Nat} (h : nxt N (lastOf g) = some y) (e : step N g = g) : y ∈ g := by
  by_cases hn : y ∈ g
  · exact hn
  · unfold step at e
    rw [h] at e
    simp only [hn, if_false] at e
    have := congrArg List.length e
    simp at this
theorem last_lt {N : Net} {x i : Nat} {g : List Nat} (a : Been N x i g) : lastOf g < N.length := by
  have h := a.pos
  unfold lastOf
  rw [List.getLastD_eq_getLast?]
  have hne : g ≠ [] := fun e => by rw [e] at h; exact absurd h (by decide)
  rw [List.getLast?_eq_some_getLast hne]
  exact a.lt _ (List.getLast_mem hne)
theorem natV_last {N : Net} {x i : Nat} {g : List Nat} (a : Been N x i g) : atI (natV g) (-1) = some (.int (lastOf g : Nat)) := by
  have h := a.pos
  have hne : g ≠ [] := fun e => by rw [e] at h; exact absurd h (by decide)
  have e := (List.dropLast_concat_getLast hne).symm
  have el : lastOf g = g.getLast hne := by
    unfold lastOf
    rw [List.getLastD_eq_getLast?, List.getLast?_eq_some_getLast hne]
    rfl
  have e2 : natV g = natV g.dropLast ++ [.int (g.getLast hne : Nat)] := by rw [← natV_app]; exact congrArg natV e
  rw [el, e2]
  exact atI_last _ _
end Em

namespace Em
open PySem PySem.Spec PyProof.Rows L2 Qt

/-! ### nets and ways as data: shown, compared -/
def Short (N : Net) : Prop := ∀ p ∈ N, p.1 < 10 ^ 60
theorem lamp_lay (p : Int × Option Nat) : (lampD p).canLay0 = true := by
  obtain ⟨l, o⟩ := p
  cases o <;> rfl
theorem all_lay {α : Type} {f : α → PyData} (h : ∀ a, (f a).canLay0 = true) : ∀ xs : List α, PyData.canLayAll0 (xs.map f) = true
  | [] => rfl
  | x :: r => by
    show ((f x).canLay0 && PyData.canLayAll0 (r.map f)) = true
    rw [h x, all_lay h r]
    rfl
theorem all_depth {α : Type} {f : α → PyData} {n : Nat} (h : ∀ a, (f a).depth ≤ n) : ∀ xs : List α, PyData.depthAll (xs.map f) ≤ n
  | [] => Nat.zero_le _
  | x :: r => by
    show max (f x).depth (PyData.depthAll (r.map f)) ≤ n
    exact Nat.max_le.mpr ⟨h x, all_depth h r⟩
theorem net_lay (N : Net) : (netD N).canLay0 = true := by
  show PyData.canLayAll0 (N.map lampD) = true
  exact all_lay lamp_lay N
theorem lamp_depth (p : Int × Option Nat) : (lampD p).depth ≤ 1 := by
  obtain ⟨l, o⟩ := p
  cases o <;> exact Nat.le_refl _
theorem net_depth (N : Net) : (netD N).depth ≤ 2 := by
  show PyData.depthAll (N.map lampD) + 1 ≤ 2
  have := all_depth lamp_depth N
  omega
theorem net_noDict (N : Net) : (netD N).hasDict = false := PyData.hasDict_of_canLay _ (net_lay N)
theorem net_shaped (N : Net) : SeqAt.shaped (netD N) = true := by
  unfold SeqAt.shaped
  rw [net_lay, decide_eq_true (Nat.le_trans (net_depth N) (by decide))]
  rfl
theorem nats_lay (g : List Nat) : (natsD g).canLay0 = true := by
  show PyData.canLayAll0 (g.map _) = true
  exact all_lay (fun _ => rfl) g
theorem nats_depth (g : List Nat) : (natsD g).depth ≤ 1 := by
  show PyData.depthAll (g.map _) + 1 ≤ 1
  have := all_depth (f := fun n : Nat => PyData.int (n : Int)) (n := 0) (fun _ => Nat.le_refl _) g
  omega
theorem way_lay (N : Net) (x : Nat) : (wayD N x).canLay0 = true := by
  show ((natsD _).canLay0 && ((natsD _).canLay0 && true)) = true
  rw [nats_lay, nats_lay]
  rfl
theorem way_depth (N : Net) (x : Nat) : (wayD N x).depth ≤ 2 := by
  show max (natsD _).depth (max (natsD _).depth 0) + 1 ≤ 2
  have h1 := nats_depth (wayA N x)
  have h2 := nats_depth (wayR N x)
  have : max (natsD (wayA N x)).depth (max (natsD (wayR N x)).depth 0) ≤ 1 := Nat.max_le.mpr ⟨h1, Nat.max_le.mpr ⟨h2, Nat.zero_le _⟩⟩
  omega
theorem way_noDict (N : Net) (x : Nat) : (wayD N x).hasDict = false := PyData.hasDict_of_canLay _ (way_lay N x)
theorem way_shaped (N : Net) (x : Nat) : SeqAt.shaped (wayD N x) = true := by
  unfold SeqAt.shaped
  rw [way_lay, decide_eq_true (Nat.le_trans (way_depth N x) (by decide))]
  rfl
/-! a number of few signs -/
theorem small_log {i : Int} (h : i.natAbs < 10 ^ 60) : i.natAbs.log2 < 200 := PySem.Flt.log2_lt_of (by decide) (Nat.lt_of_lt_of_le h (by decide))
theorem small_shown {i : Int} (h : i.natAbs < 10 ^ 60) : (PyData.shown (.int i)).length ≤ 61 := by
  have e := int_text_length_le10 (k := 60) (by decide) h
  show (Str.ofString (toString i)).length ≤ 61
  rw [PySem.ofString_length]
  exact e
theorem small_weight {i : Int} (h : i.natAbs < 10 ^ 60) : (PyData.int i).weight ≤ 200 := by
  have := small_log h
  show (if i == 0 then 0 else i.natAbs.log2 + 1) ≤ 200
  split <;> omega
structure SmallD (d : PyData) : Prop where
  sh : d.showable = true
  lv : d.leavesShort 61 = true
  wt : d.weight ≤ 600
theorem small_int {i : Int} (h : i.natAbs < 10 ^ 60) : (PyData.int i).showable = true ∧ (PyData.int i).leavesShort 61 = true := by
  have h1 := small_log h
  have h2 := small_shown h
  exact ⟨by show decide _ = true; exact decide_eq_true (by omega), by show decide _ = true; exact decide_eq_true h2⟩
theorem lamp_small {p : Int × Option Nat} (h1 : 1 ≤ p.1) (h2 : p.1 < 10 ^ 60) (h3 : ∀ y, p.2 = some y → y < 12) : SmallD (lampD p) := by
  obtain ⟨l, o⟩ := p
  have hl : l.natAbs < 10 ^ 60 := by simp only at h1 h2; omega
  obtain ⟨a1, a2⟩ := small_int hl
  have a3 := small_weight hl
  cases o with
  | none =>
    refine ⟨?_, ?_, ?_⟩
    · show ((PyData.int l).showable && (true && true)) = true
      rw [a1]; rfl
    · show ((PyData.int l).leavesShort 61 && (true && true)) = true
      rw [a2]; rfl
    · show (PyData.int l).weight + 1 + (0 + 1 + 0) ≤ 600
      omega
  | some y =>
    have := h3 y rfl
    have hy : (y : Int).natAbs < 10 ^ 60 := by omega
    obtain ⟨b1, b2⟩ := small_int hy
    have b3 := small_weight hy
    refine ⟨?_, ?_, ?_⟩
    · show ((PyData.int l).showable && ((PyData.int (y : Int)).showable && true)) = true
      rw [a1, b1]; rfl
    · show ((PyData.int l).leavesShort 61 && ((PyData.int (y : Int)).leavesShort 61 && true)) = true
      rw [a2, b2]; rfl
    · show (PyData.int l).weight + 1 + ((PyData.int (y : Int)).weight + 1 + 0) ≤ 600
      omega
theorem all_small {α : Type} {f : α → PyData} : ∀ xs : List α, (∀ a ∈ xs, SmallD (f a)) → PyData.showableAll (xs.map f) = true ∧ PyData.leavesShortAll 61 (xs.map f) = true ∧ PyData.weightAll (xs.map f) ≤ 601 * xs.length
  | [], _ => ⟨rfl, rfl, Nat.zero_le _⟩
  | x :: r, h => by
    have a := h x List.mem_cons_self
    obtain ⟨b1, b2, b3⟩ := all_small r fun y hy => h y (List.mem_cons_of_mem _ hy)
    have c := a.wt
    refine ⟨?_, ?_, ?_⟩
    · show ((f x).showable && PyData.showableAll (r.map f)) = true
      rw [a.sh, b1]; rfl
    · show ((f x).leavesShort 61 && PyData.leavesShortAll 61 (r.map f)) = true
      rw [a.lv, b2]; rfl
    · show (f x).weight + 1 + PyData.weightAll (r.map f) ≤ 601 * (r.length + 1)
      omega
theorem net_show {N : Net} (o : NetOk N) (s : Short N) : (netD N).showable = true ∧ (netD N).shown.length ≤ sizeLine := by
  have hi := o.hi
  obtain ⟨h1, h2, h3⟩ := all_small (f := lampD) N fun p hp => lamp_small (o.len p hp) (s p hp) fun y hy => by
    have := o.nx p hp y hy
    omega
  refine ⟨h1, ?_⟩
  have h4 := PyData.shown_le 61 (by decide) (netD N) h2
  have h5 : (netD N).weight ≤ 601 * 12 := Nat.le_trans h3 (Nat.mul_le_mul_left _ hi)
  have h6 : (61 + 2) * (netD N).weight ≤ 63 * (601 * 12) := Nat.mul_le_mul_left _ h5
  rw [sizeLine_eq]
  omega
/-! a way in the heap -/
theorem ints_at {S : List Addr} {H : Hp} : ∀ {xs : List V} (g : List Nat), DxA S H xs (g.map fun n : Nat => PyData.int (n : Int)) → xs = natV g
  | _, [], h => by
    cases h
    rfl
  | _, n :: r, h => by
    cases h with
    | cons a t =>
      cases a
      rw [ints_at r t]
      rfl
theorem nats_at {S : List Addr} {H : Hp} {v : V} {g : List Nat} (h : Dx S H v (natsD g)) : ∃ a : Addr, v = .ref a ∧ a ∉ S ∧ H a = some (.tup (natV g)) := by
  cases h with
  | @tup a xs ds n h r => exact ⟨a, rfl, n, by rw [h, ints_at g r]⟩
theorem way_at {S : List Addr} {H : Hp} {v : V} {N : Net} {x : Nat} (h : Dx S H v (wayD N x)) : ∃ a b c : Addr, v = .ref a ∧ a ∉ S ∧ H a = some (.tup [.ref b, .ref c]) ∧ H b = some (.tup (natV (wayA N x))) ∧ H c = some (.tup (natV (wayR N x))) ∧ b ∉ S ∧ c ∉ S := by
  cases h with
  | @tup a xs ds n h r =>
    cases r with
    | cons a1 r =>
      cases r with
      | cons a2 r =>
        cases r
        obtain ⟨b, rfl, nb, hb⟩ := nats_at a1
        obtain ⟨c, rfl, nc, hc⟩ := nats_at a2
        exact ⟨a, b, c, rfl, n, h, hb, hc, nb, nc⟩
theorem step_len (N : Net) (g : List Nat) : (step N g).length ≤ g.length + 1 := by
  unfold step
  split
  · omega
  · split
    · omega
    · rw [List.length_append]
      exact Nat.le_refl _
theorem itr_len (N : Net) (x : Nat) : ∀ n, (itr (step N) n [x]).length ≤ n + 1
  | 0 => Nat.le_refl _
  | n + 1 => by
    have h1 := itr_len N x n
    have h2 := step_len N (itr (step N) n [x])
    show (step N (itr (step N) n [x])).length ≤ _
    omega
theorem way_len {N : Net} (o : NetOk N) (x : Nat) : (natV (wayA N x)).length + (natV (wayR N x)).length ≤ 13 := by
  have h1 : (path N x).length ≤ N.length + 1 := itr_len N x N.length
  have h2 := o.hi
  rw [natV_len, natV_len]
  unfold wayA wayR
  rw [List.length_take, List.length_drop]
  omega
/-- t + u, whichever way it is made -/
theorem catA_any {K : PySem.W.Frag} {x y : V} {H : Hp} {Q : VK} {a b : Addr} {xs ys : List V} (hx : x = .ref a) (hy : y = .ref b) (h1 : SqT K H a xs) (h2 : SqT K H b ys) (hl : xs.length + ys.length ≤ sizeLine) (q : ∀ p H', SqT K H' p (xs ++ ys) → Kp [] H H' → Q (.ref p) H') : rCatA K x y H Q := by
  refine ⟨a, b, xs, ys, hx, hy, h1, h2, hl, fun e => ?_, fun _ e => ?_, fun _ _ p np => ?_⟩
  · refine q b H ?_ .rfl'
    rw [e]
    exact h2
  · refine q a H ?_ .rfl'
    rw [e, List.append_nil]
    exact h1
  · exact q p _ (SqT.of upd_same) (Kp.new np)
theorem Kp.seqT {S : List Addr} {K : PySem.W.Frag} {H H1 : Hp} (k : Kp S H H1) {b : Addr} {xs : List V} (nb : b ∉ S) (h : SqT K H b xs) : SqT K H1 b xs := by
  rcases h with (h | ⟨o, h⟩) | h
  · exact .inl (.inl (k.tup nb h))
  · exact .inl (.inr ⟨o, k.at_ b _ nb h fun ps z => by cases z⟩)
  · exact .inr h
end Em

namespace Em
open PySem PySem.Spec PyProof.Rows L2 Qt

/-! ### sorted(xs), xs a list of tuples of ints, none empty, of any lengths -/
def lexL : List Int → List Int → Bool
  | _, [] => false
  | [], _ :: _ => true
  | a :: as, b :: bs => if a = b then lexL as bs else decide (a < b)
theorem lexL_cons {a b : Int} {as bs : List Int} : lexL (a :: as) (b :: bs) = if a = b then lexL as bs else decide (a < b) := rfl
theorem lexL_asym : ∀ x y : List Int, lexL x y = true → lexL y x = false
  | _, [], h => by
    unfold lexL at h
    cases h
  | [], _ :: _, _ => rfl
  | a :: as, b :: bs, h => by
    rw [lexL_cons] at h ⊢
    by_cases e : a = b
    · rw [if_pos e] at h
      rw [if_pos e.symm]
      exact lexL_asym as bs h
    · rw [if_neg e] at h
      rw [if_neg (fun z => e z.symm)]
      have := of_decide_eq_true h
      exact decide_eq_false (by omega)
theorem lexL_tr : ∀ x y z : List Int, lexL y x = false → lexL z y = false → lexL z x = false
  | [], _, z, _, _ => by cases z <;> rfl
  | a :: as, [], _, h, _ => by cases h
  | a :: as, b :: bs, [], _, h => by cases h
  | a :: as, b :: bs, c :: cs, h1, h2 => by
    rw [lexL_cons] at h1 h2 ⊢
    by_cases e1 : b = a
    · by_cases e2 : c = b
      · rw [if_pos e1] at h1
        rw [if_pos e2] at h2
        rw [if_pos (e2.trans e1)]
        exact lexL_tr as bs cs h1 h2
      · rw [if_neg e2] at h2
        have := of_decide_eq_false h2
        rw [if_neg (by omega)]
        exact decide_eq_false (by omega)
    · rw [if_neg e1] at h1
      have q1 := of_decide_eq_false h1
      by_cases e2 : c = b
      · rw [if_neg (by omega)]
        exact decide_eq_false (by omega)
      · rw [if_neg e2] at h2
        have q2 := of_decide_eq_false h2
        rw [if_neg (by omega)]
        exact decide_eq_false (by omega)
theorem lexL_swo {α : Type} (k : α → List Int) : SrtO.Swo fun v u => lexL (k v) (k u) := ⟨fun x y => lexL_asym _ _, fun x y z => lexL_tr _ _ _⟩
/-- a tuple of ints -/
def TupN (h : Heap) (v : Value) (ns : List Int) : Prop := ∃ (a : Addr) (o : Obj) (its : Array Value) (n : Nat), v = .ref a ∧ h.get? a = some o ∧ o.cls = .type "tuple" ∧ o.data = .seq its n ∧ IntsAre its.toList ns
theorem TupN.keeps {h h' : Heap} {v : Value} {ns : List Int} (p : TupN h v ns) (k : ∀ b o, h.get? b = some o → o.cls = .type "tuple" → h'.get? b = some o) : TupN h' v ns := by
  obtain ⟨a, o, its, n, e, ho, hc, r⟩ := p
  exact ⟨a, o, its, n, e, k _ _ ho hc, hc, r⟩
theorem lex_go {prog : Program} {w : World} {A : Around} {s : Shared} {b fin : Bool} {Q : Bool → Shared → Prop} : ∀ {xs ys : List Value} {ns ms : List Int} (i : Nat), IntsAre xs ns → IntsAre ys ms → fin = decide (ns.length < ms.length) → Q (lexL ns ms) s → PySem.W.KatLex prog w A b fin Q (xs.zip ys) i s := by
  intro xs ys ns ms i hx hy hf h
  induction hx generalizing ys ms i with
  | nil =>
    cases hy with
    | nil => exact PySem.W.kat_nil (by rw [hf]; exact h)
    | cons q u hy => exact PySem.W.kat_nil (by rw [hf, decide_eq_true (by simp)]; exact h)
  | @cons p t xs ns hx ih =>
    cases hy with
    | nil => exact PySem.W.kat_nil (by rw [hf, decide_eq_false (by simp)]; exact h)
    | @cons q u ys ms hy =>
      show PySem.W.KatLex prog w A b fin Q ((Value.int p t, Value.int q u) :: xs.zip ys) i s
      refine PySem.W.kat_cons (wpAny_eqBool_int ?_)
      rw [lexL_cons] at h
      by_cases e : p = q
      · subst e
        rw [if_pos rfl] at h
        rw [beq_self_eq_true]
        refine PySem.W.kat_yes (ih (i + 1) hy ?_ h)
        rw [hf]
        simp
      · rw [if_neg e] at h
        rw [show (p == q) = false from beq_eq_false_iff_ne.mpr e]
        exact PySem.W.kat_no (TS.oneLt_ints _ h)
theorem tupn_cmp {prog : Program} {w : World} {A : Around} {s : Shared} {vs : List Value} {k : Value → List Int} (hp : ∀ v ∈ vs, TupN s.heap v (k v)) : SrtO.Cmp prog w A s (tuples' true) (fun p => p.1 ∈ vs) (SrtO.lt2 fun v u => lexL (k v) (k u)) := by
  intro p q hm hm'
  obtain ⟨a, o, its, n, e, ho, hc, hd, hi⟩ := hp _ hm
  obtain ⟨a', o', its', n', e', ho', hc', hd', hi'⟩ := hp _ hm'
  show wpAny (model prog w) A (keyLt' (tuples' true) p.1 q.1) (fun r s' => s' = s ∧ r = lexL (k p.1) (k q.1)) (fun _ _ => False) s
  generalize k p.1 = x at hi ⊢
  generalize k q.1 = y at hi' ⊢
  rw [e, e']
  refine PySem.W.kat_lt ho hd ho' hd' (lex_go 0 hi hi' ?_ ⟨rfl, rfl⟩)
  have h1 := hi.length
  have h2 := hi'.length
  rw [← h1, ← h2]
  rfl
theorem tupn_firsts {h : Heap} : ∀ vs : List Value, (∀ v ∈ vs, ∃ ns, ns ≠ [] ∧ TupN h v ns) → ∃ fs, PySem.W.KatTups h vs fs ∧ fs.length = vs.length ∧ ∀ f, f ∈ fs → ∃ n t, f = Value.int n t
  | [], _ => ⟨[], PySem.W.KatTups.nil, rfl, fun f hf => by simp at hf⟩
  | v :: vs, x => by
    obtain ⟨fs, k, hl, hi⟩ := tupn_firsts vs fun u hu => x u (List.mem_cons_of_mem _ hu)
    obtain ⟨ns, hne, a, o, xs, n, rfl, ho, hc, hdt, i⟩ := x v (List.mem_cons_self ..)
    obtain ⟨y, ys, e⟩ : ∃ y ys, xs.toList = y :: ys := by
      cases q : xs.toList with
      | nil =>
        rw [q] at i
        have l := i.length
        rw [List.length_nil] at l
        exact absurd (List.length_eq_zero_iff.mp l.symm) hne
      | cons y ys => exact ⟨y, ys, rfl⟩
    obtain ⟨m, t, hy⟩ := i.all y (by rw [e]; exact List.mem_cons_self ..)
    refine ⟨y :: fs, PySem.W.KatTups.cons ho hc hdt ?_ k, by simp [hl], ?_⟩
    · have z := congrArg (fun l : List Value => l[0]?) e
      simpa using z
    · intro f hf
      rcases List.mem_cons.mp hf with rfl | hf
      · exact ⟨m, t, hy⟩
      · exact hi f hf
theorem tupn_sortable {prog : Program} {w : World} {A : Around} {s : Shared} {a : Addr} {vs : List Value} {k : Value → List Int} (h0 : 0 < vs.length) (hp : ∀ v ∈ vs, TupN s.heap v (k v)) (hne : ∀ v ∈ vs, k v ≠ []) (ha : ∀ o, s.heap.get? a = some o → o.cls ≠ .type "tuple") : SrtO.SortableO prog w A s a vs fun v u => lexL (k v) (k u) := by
  intro h' keep
  have hp' : ∀ v ∈ vs, TupN h' v (k v) := fun v hm => (hp v hm).keeps fun b o e c => keep b o (fun z => by subst z; exact ha o e c) e
  obtain ⟨fs, h1, h2, h3⟩ := tupn_firsts vs fun v hm => ⟨_, hne v hm, hp' v hm⟩
  refine ⟨tuples' true, fun Q E hq => ?_, tupn_cmp hp'⟩
  refine PySem.W.kat_kind (T := .type "int") h1 (by omega) (fun f hm => ?_) (by rfl) ?_
  · obtain ⟨x, t, rfl⟩ := h3 f hm
    exact PySem.W.Looks.now
  · have e : (Value.type "int" != Value.type "tuple") = true := by first | decide +kernel | rfl | decide
    rw [e]
    exact hq
def rSortedN (K : PySem.W.Frag) : List V → Hp → VK → Prop := fun vs H Q => ∃ (a : Addr) (xs : List V) (k : V → List Int), vs = [V.ref a] ∧ SqL K H a xs ∧ (∀ x ∈ xs, k x ≠ [] ∧ ∃ t, x = V.ref t ∧ H t = some (.tup ((k x).map V.int))) ∧
  ∀ ys p, SrtO.Srtd (fun v u => lexL (k v) (k u)) ys → SrtO.Stb (fun v u => lexL (k v) (k u)) ys xs → H p = none → Q (.ref p) (upd H p (.lst ys))
section
variable {X : Cx}
theorem cr_sortedN : CallR X (.builtin "sorted") (rSortedN X.K) := by
  intro pins s σ H vs us Q I r h
  obtain ⟨a, xs, k, rfl, hs, hx, q⟩ := h
  obtain ⟨its, rv, hl, hz⟩ := I.list hs
  obtain ⟨u, rfl, ru⟩ := vals1 r
  obtain rfl : u = Value.ref a := ru
  obtain ⟨e1, e2⟩ := refs_back rv fun x m => by
    obtain ⟨_, t, e, _⟩ := hx x m
    exact ⟨t, e⟩
  have tn : ∀ v ∈ its, TupN s.heap v (k (backV v)) ∧ k (backV v) ≠ [] := fun v hv => by
    obtain ⟨t, rfl⟩ := e2 v hv
    have hm : V.ref t ∈ xs := by rw [e1]; exact List.mem_map.mpr ⟨_, hv, rfl⟩
    obtain ⟨hne, t', e, ht⟩ := hx _ hm
    cases e
    obtain ⟨_, its2, r2, o, ho, hc, n, hd⟩ := I.hok _ _ ht
    exact ⟨⟨t, o, _, n, rfl, ho, hc, hd, by rw [List.toList_toArray]; exact r2.ints⟩, hne⟩
  refine SrtO.sorted_ord (lexL_swo fun u => k (backV u)) hl.isList (by rw [← rv.length]; exact hz) (fun h2 h₁ a ha kk => ?_) fun out h1 h2 => ?_
  · refine tupn_sortable (s := { s with heap := h₁ }) (by omega) (fun v hm => (tn v hm).1.keeps fun b o e _ => (kk b o e).2) (fun v hm => (tn v hm).2) fun o e => ?_
    have e' : some o = some (seqObj "list" its.toArray 0) := e.symm.trans ha
    cases e'
    intro c
    exact absurd (Value.type.inj c) (by decide)
  · have h3 : ∀ u ∈ out, ∃ a, u = Value.ref a := fun u hu => e2 u (h2.perm.mem_iff.mp hu)
    obtain ⟨n, hn⟩ := sortedAll_at s.heap its out.toArray
    have hb : SrtO.Stb (fun v u => lexL (k v) (k u)) (out.map backV) xs := by
      rw [e1]
      exact SrtO.Stb.map (lexL_swo k) backV h2
    refine ⟨.ref _, upd H _ (.lst (out.map backV)), I.laid (t' := s.toks) (fun b o e => sortedAll_old e) (Nat.le_succ _) ⟨?_, out, n, vals_back h3, hn⟩, rfl, q _ _ (SrtO.srtd_map h1) hb (I.hok.fresh (Nat.le_succ _))⟩
    rw [hb.len]
    exact hz
end

/-! ### min(t), t a tuple of ints -/
section
variable {prog : Program} {w : World} {A : Around} {E : Value → Shared → Prop} {s : Shared} {l : Addr}
theorem min_intTup {xs : Array (Int × Tok)} {Q : Value → Shared → Prop} (hh : A.handled = none) (hl : s.heap.IsTuple l (intItems xs)) (hne : 0 < xs.size)
    (h : ∀ v h' tk, (intItems xs)[argBest (fun i j => decide (numAt xs i < numAt xs j)) (xs.size - 1)]? = some v → (∀ b o, s.heap.get? b = some o → h'.get? b = some o) → Q v { s with heap := h', toks := tk }) :
    wpAny (model prog w) A (call (.builtin "min") [.ref l]) Q E s := by
  have hlt : l < s.heap.objs.size := by obtain ⟨_, e, _⟩ := hl; exact Heap.lt_size e
  refine call_min_walk (wpAny_pyIter_tuple hl ?_)
  refine ⟨_, [_, l], [_], _, _, _, _, rfl, Walks.tuple (A := A.in1) hh _ l (Nat.ne_of_lt hlt) (intItems xs), ⟨⟨_, Heap.get?_push_size _ rfl, rfl, rfl⟩, hl.push _⟩, fun c hc => ?_, by simpa [intItems] using hne, CmpOf.ints_lt (numAt xs) (fun _ _ => intItems_at), fun v h' tk hP hk => ?_⟩
  · show c < (s.heap.push _).objs.size
    rw [Heap.size_push]
    rcases List.mem_cons.mp hc with rfl | hc
    · exact Nat.lt_succ_self _
    · rcases List.mem_cons.mp hc with rfl | hc
      · exact Nat.lt_succ_of_lt hlt
      · cases hc
  · refine h v h' tk (by simpa [intItems] using hP) fun c o e => hk c o (fun hm => ?_) (Heap.get?_push_of_some _ e)
    rcases List.mem_cons.mp hm with e1 | hm
    · exact absurd (e1 ▸ Heap.lt_size e) (Nat.lt_irrefl _)
    · cases hm
theorem min_rawT {its : List Value} {ns : List Int} {Q : Value → Shared → Prop} (hh : A.handled = none) (hl : s.heap.IsTuple l its.toArray) (hi : IntsAre its ns) (hne : 0 < ns.length)
    (h : ∀ h' tk M t', (∀ b o, s.heap.get? b = some o → h'.get? b = some o) → M ∈ ns → (∀ a, a ∈ ns → M ≤ a) → Q (.int M t') { s with heap := h', toks := tk }) : wpAny (model prog w) A (call (.builtin "min") [.ref l]) Q E s := by
  obtain ⟨xs, e⟩ := hi.allInts.items
  have hn : numsOf (intItems xs).toList = ns := by rw [← e]; exact hi.numsOf
  rw [nums_intItems] at hn
  subst hn
  rw [e] at hl
  have hsz : 0 < xs.size := by simpa using hne
  refine min_intTup hh hl hsz fun v h' tk hv hk => ?_
  obtain ⟨t, rfl⟩ := intItems_at hv
  obtain ⟨h1, h2⟩ := argBest_lt (numAt xs) (xs.size - 1)
  refine h h' tk _ t hk ?_ fun a ha => ?_
  · rw [numAt_eq]; exact PySem.getD_mem (by rw [List.length_map, Array.length_toList]; omega)
  · obtain ⟨j, hj, rfl⟩ := mem_getD ha
    rw [List.length_map, Array.length_toList] at hj
    rw [← numAt_eq]; exact h2 j (by omega)
end
def rMinT (K : PySem.W.Frag) : List V → Hp → VK → Prop := fun vs H Q => ∃ (a : Addr) (ns : List Int), vs = [V.ref a] ∧ SqT K H a (ns.map V.int) ∧ 0 < ns.length ∧ ∀ m, m ∈ ns → (∀ y, y ∈ ns → m ≤ y) → Q (.int m) H
theorem cr_minT {X : Cx} (hc : X.calm = true) : CallR X (.builtin "min") (rMinT X.K) := by
  intro pins s σ H vs us Q I r h
  obtain ⟨a, ns, rfl, hs, hne, q⟩ := h
  obtain ⟨its, rv, hl, _⟩ := I.tuple hs
  rw [Vals.ref1 r]
  exact min_rawT (I.ok.hd hc) hl rv.ints hne fun h' tk m t' hk h1 h2 => ⟨.int _, H, I.kept hk, ⟨_, rfl⟩, q m h1 h2⟩
end Em

namespace Em
open PySem PySem.Spec PyProof.Rows L2 Qt

/-! ### the rings of a net -/
theorem been_itr {N : Net} (o : NetOk N) {x : Nat} (hx : x < N.length) : ∀ i, Been N x i (itr (step N) i [x])
  | 0 => Been.start hx
  | i + 1 => by
    have h := been_itr o hx i
    show Been N x (i + 1) (step N (itr (step N) i [x]))
    cases z : nxt N (lastOf (itr (step N) i [x])) with
    | none =>
      rw [step_none z]
      exact h.still (step_none z)
    | some y =>
      by_cases hn : y ∈ itr (step N) i [x]
      · rw [step_in z hn]
        exact h.still (step_in z hn)
      · have e : step N (itr (step N) i [x]) = itr (step N) i [x] ++ [y] := by
          generalize itr (step N) i [x] = g at *
          unfold step
          rw [z]
          simp only [hn, if_false]
        rw [e]
        exact h.more o z hn
theorem path_been {N : Net} (o : NetOk N) {x : Nat} (hx : x < N.length) : Been N x N.length (path N x) := been_itr o hx _
theorem step_head {N : Net} {x : Nat} {g : List Nat} (h : ∃ t, g = x :: t) : ∃ t, step N g = x :: t := by
  obtain ⟨t, rfl⟩ := h
  unfold step
  split
  · exact ⟨t, rfl⟩
  · split
    · exact ⟨t, rfl⟩
    · exact ⟨_, rfl⟩
theorem itr_head (N : Net) (x : Nat) : ∀ n, ∃ t, itr (step N) n [x] = x :: t
  | 0 => ⟨[], rfl⟩
  | n + 1 => step_head (itr_head N x n)
theorem path_head (N : Net) (x : Nat) : ∃ t, path N x = x :: t := itr_head N x _
theorem way_cat (N : Net) (x : Nat) : wayA N x ++ wayR N x = path N x := List.take_append_drop _ _
theorem way_sub {N : Net} (o : NetOk N) {x : Nat} (hx : x < N.length) : ∀ y ∈ wayR N x, y < N.length := fun y hy => (path_been o hx).lt y (by rw [← way_cat]; exact List.mem_append_right _ hy)
def rootB (N : Net) (x : Nat) : Bool := decide (x ∈ wayR N x) && (wayR N x).all fun y => decide (x ≤ y)
theorem root_iff {N : Net} {x : Nat} : rootB N x = true ↔ x ∈ wayR N x ∧ ∀ y ∈ wayR N x, x ≤ y := by
  unfold rootB
  rw [Bool.and_eq_true, decide_eq_true_iff, List.all_eq_true]
  simp only [decide_eq_true_iff]
theorem root_ahead {N : Net} (o : NetOk N) {x : Nat} (hx : x < N.length) (h : x ∈ wayR N x) : wayA N x = [] := by
  have nd := (path_been o hx).nd
  obtain ⟨t, ht⟩ := path_head N x
  have e := way_cat N x
  cases q : wayA N x with
  | nil => rfl
  | cons z r =>
    rw [q] at e
    rw [← e] at nd
    rw [ht] at e
    have ez : z = x := (List.cons.inj e).1
    have := (List.nodup_cons.mp (show (z :: (r ++ wayR N x)).Nodup from nd)).1
    exact absurd (List.mem_append_right r (ez ▸ h)) this
theorem ahead_path {N : Net} {x : Nat} (h : wayA N x = []) : wayR N x = path N x := by
  have e := way_cat N x
  rw [h] at e
  exact e
/-- the least of the ring is x: that is a root -/
theorem root_min {N : Net} {x : Nat} {m : Int} (h1 : m ∈ (wayR N x).map fun n : Nat => (n : Int)) (h2 : ∀ y ∈ (wayR N x).map fun n : Nat => (n : Int), m ≤ y) : decide ((x : Int) = m) = rootB N x := by
  rw [Bool.eq_iff_iff, decide_eq_true_iff, root_iff]
  obtain ⟨n, hn, rfl⟩ := List.mem_map.mp h1
  have h3 : ∀ y ∈ wayR N x, n ≤ y := fun y hy => Int.ofNat_le.mp (h2 _ (List.mem_map.mpr ⟨y, hy, rfl⟩))
  constructor
  · intro e
    have : x = n := Int.ofNat_inj.mp e
    subst this
    exact ⟨hn, h3⟩
  · rintro ⟨a, b⟩
    have := h3 x a
    have := b n hn
    congr 1
    omega
def ringsL (N : Net) (i : Nat) : List Nat := (List.range i).filter (rootB N)
theorem ringsL_succ (N : Net) (i : Nat) : ringsL N (i + 1) = if rootB N i = true then ringsL N i ++ [i] else ringsL N i := by
  unfold ringsL
  rw [List.range_succ, List.filter_append]
  split
  · rename_i h
    rw [List.filter_cons_of_pos h]
    rfl
  · rename_i h
    rw [List.filter_cons_of_neg h]
    simp
theorem ringsL_len (N : Net) (i : Nat) : (ringsL N i).length ≤ i := by
  have := List.length_filter_le (rootB N) (List.range i)
  rw [List.length_range] at this
  exact this
theorem ringsL_mem {N : Net} {i x : Nat} (h : x ∈ ringsL N i) : x < i ∧ rootB N x = true := by
  have := List.mem_filter.mp h
  exact ⟨List.mem_range.mp this.1, this.2⟩
theorem ringsL_lt (N : Net) (i : Nat) : (ringsL N i).Pairwise (· < ·) := List.pairwise_lt_range.filter _
def ringD (N : Net) (x : Nat) : PyData := natsD (wayR N x)
def ringsD (N : Net) : PyData := .list ((ringsL N N.length).map (ringD N))
theorem rings_lay (N : Net) : (ringsD N).canLay0 = true := by
  show PyData.canLayAll0 ((ringsL N N.length).map (ringD N)) = true
  exact all_lay (fun x => nats_lay (wayR N x)) _
theorem rings_depth (N : Net) : (ringsD N).depth ≤ 2 := by
  show PyData.depthAll ((ringsL N N.length).map (ringD N)) + 1 ≤ 2
  have := all_depth (f := ringD N) (n := 1) (fun x => nats_depth (wayR N x)) (ringsL N N.length)
  omega
theorem rings_noDict (N : Net) : (ringsD N).hasDict = false := PyData.hasDict_of_canLay _ (rings_lay N)
theorem rings_shaped (N : Net) : SeqAt.shaped (ringsD N) = true := by
  unfold SeqAt.shaped
  rw [rings_lay, decide_eq_true (Nat.le_trans (rings_depth N) (by decide))]
  rfl
/-! sorted already -/
def toI : V → Int
  | .int i => i
  | _ => 0
def kH (H : Hp) : V → List Int
  | .ref t => (match H t with
    | some (.tup ys) => ys.map toI
    | _ => [])
  | _ => []
theorem kH_at {H : Hp} {t : Addr} {g : List Nat} (h : H t = some (.tup (natV g))) : kH H (.ref t) = g.map fun n : Nat => (n : Int) := by
  show (match H t with
    | some (.tup ys) => ys.map toI
    | _ => []) = _
  rw [h]
  show (natV g).map toI = _
  unfold natV
  rw [List.map_map]
  rfl
theorem rings_at {S : List Addr} {H : Hp} {N : Net} : ∀ {L : List Nat} {xs : List V}, DxA S H xs (L.map (ringD N)) → ∀ v ∈ xs, ∃ x ∈ L, ∃ t, v = .ref t ∧ H t = some (.tup (natV (wayR N x)))
  | [], _, h => by
    cases h
    intro v hv
    cases hv
  | x :: r, _, h => by
    cases h with
    | cons a t =>
      intro v hv
      rcases List.mem_cons.mp hv with rfl | hv
      · obtain ⟨ad, e, _, h⟩ := nats_at a
        exact ⟨x, List.mem_cons_self, ad, e, h⟩
      · obtain ⟨y, hy, q⟩ := rings_at t v hv
        exact ⟨y, List.mem_cons_of_mem _ hy, q⟩
theorem rings_srtd {S : List Addr} {H : Hp} {N : Net} : ∀ {L : List Nat} {xs : List V}, DxA S H xs (L.map (ringD N)) → L.Pairwise (· < ·) → (∀ x ∈ L, ∃ t, wayR N x = x :: t) → SrtO.Srtd (fun v u => lexL (kH H v) (kH H u)) xs
  | [], _, h, _, _ => by
    cases h
    exact List.Pairwise.nil
  | x :: r, _, h, hp, hh => by
    cases h with
    | cons a t =>
      obtain ⟨p1, p2⟩ := List.pairwise_cons.mp hp
      refine List.pairwise_cons.mpr ⟨fun v hv => ?_, rings_srtd t p2 fun y hy => hh y (List.mem_cons_of_mem _ hy)⟩
      obtain ⟨y, hy, tv, rfl, hv2⟩ := rings_at t v hv
      obtain ⟨ad, rfl, _, ha⟩ := nats_at a
      show lexL (kH H (.ref tv)) (kH H (.ref ad)) = false
      rw [kH_at hv2, kH_at ha]
      obtain ⟨t1, e1⟩ := hh x List.mem_cons_self
      obtain ⟨t2, e2⟩ := hh y (List.mem_cons_of_mem _ hy)
      have := p1 y hy
      rw [e1, e2, List.map_cons, List.map_cons, lexL_cons, if_neg (by omega)]
      exact decide_eq_false (by omega)
/-! ### laps -/
def lenOf (N : Net) (y : Nat) : Int := (N.getD y (1, none)).1
theorem lenOf_get {N : Net} {x : Nat} {p : Int × Option Nat} (h : N[x]? = some p) : lenOf N x = p.1 := by
  unfold lenOf
  rw [List.getD_eq_getElem?_getD, h]
  rfl
def lensR (N : Net) (x : Nat) : List Int := (wayR N x).map (lenOf N)
def LapD (N : Net) (x : Nat) (d : PyData) : Prop := (wayR N x = [] ∧ d = .none) ∨ (wayR N x ≠ [] ∧ ∃ m, m ∈ lensR N x ∧ (∀ y ∈ lensR N x, y ≤ m) ∧ d = .tuple [.int (lensR N x).sum, .int m])
theorem LapD.uniq {N : Net} {x : Nat} {d e : PyData} (h : LapD N x d) (k : LapD N x e) : d = e := by
  rcases h with ⟨h1, h2⟩ | ⟨h1, m, a, b, h2⟩ <;> rcases k with ⟨k1, k2⟩ | ⟨k1, n, c, f, k2⟩
  · rw [h2, k2]
  · exact absurd h1 k1
  · exact absurd k1 h1
  · have := b n c
    have := f m a
    have e : m = n := by omega
    rw [h2, k2, e]
theorem LapD.lay {N : Net} {x : Nat} {d : PyData} (h : LapD N x d) : d.canLay0 = true ∧ d.depth ≤ 1 := by
  rcases h with ⟨_, rfl⟩ | ⟨_, m, _, _, rfl⟩
  · exact ⟨rfl, Nat.zero_le _⟩
  · exact ⟨rfl, Nat.le_refl _⟩
theorem LapD.shaped {N : Net} {x : Nat} {d : PyData} (h : LapD N x d) : SeqAt.shaped d = true := by
  unfold SeqAt.shaped
  rw [h.lay.1, decide_eq_true (Nat.le_trans h.lay.2 (by decide))]
  rfl
theorem LapD.noDict {N : Net} {x : Nat} {d : PyData} (h : LapD N x d) : d.hasDict = false := PyData.hasDict_of_canLay _ h.lay.1
theorem Nw.fresh {H H1 : Hp} {a : Addr} {d : PyData} (h : Nw H H1 (.ref a) d) : H a = none := by
  cases q : H a with
  | none => rfl
  | some o =>
    have hd := h [a] fun s z => by
      obtain rfl : s = a := by simpa using z
      rw [q]
      exact fun z => by cases z
    cases hd with
    | lst n _ _ => exact absurd (List.mem_singleton.mpr rfl) n
    | tup n _ _ => exact absurd (List.mem_singleton.mpr rfl) n
    | dic n _ => exact absurd (List.mem_singleton.mpr rfl) n
theorem way_new {H H1 : Hp} {a b c : Addr} {N : Net} {x : Nat} (h : Nw H H1 (.ref a) (wayD N x)) (e : H1 a = some (.tup [.ref b, .ref c])) : Nw H H1 (.ref b) (natsD (wayA N x)) ∧ Nw H H1 (.ref c) (natsD (wayR N x)) := by
  have key : ∀ S : List Addr, (∀ s ∈ S, H s ≠ none) → Dx S H1 (.ref b) (natsD (wayA N x)) ∧ Dx S H1 (.ref c) (natsD (wayR N x)) := fun S z => by
    have hd := h S z
    cases hd with
    | @tup _ xs ds n h r =>
      rw [e] at h
      cases h
      cases r with
      | cons a1 r =>
        cases r with
        | cons a2 r => exact ⟨a1, a2⟩
  exact ⟨fun S z => (key S z).1, fun S z => (key S z).2⟩
theorem eqv_empty (g : List Nat) : PyData.eqv (natsD g) (.tuple []) = decide (g = []) := by
  cases g with
  | nil => exact SeqAt.eqv_refl _ rfl
  | cons x r => rfl
theorem nats_shaped (g : List Nat) : SeqAt.shaped (natsD g) = true := by
  unfold SeqAt.shaped
  rw [nats_lay, decide_eq_true (Nat.le_trans (nats_depth g) (by decide))]
  rfl
theorem nats_noDict (g : List Nat) : (natsD g).hasDict = false := PyData.hasDict_of_canLay _ (nats_lay g)
theorem DxA.flip {S : List Addr} {H : Hp} : ∀ {xs ys : List V} {ds : List PyData}, DxA S H xs ds → DxA S H ys ds → DxA S H xs ds := fun h _ => h
theorem eqv_none (ns : List Int) : PyData.eqv (.list (ns.map PyData.int)) (.list []) = decide (ns = []) := by
  cases ns with
  | nil => exact SeqAt.eqv_refl _ rfl
  | cons x r => rfl
theorem dp_ints {K : PySem.W.Frag} {H : Hp} : ∀ ns : List Int, DpAll K H (ns.map V.int) (ns.map PyData.int)
  | [] => .nil
  | n :: r => .cons (.int n) (dp_ints r)
theorem ints_shaped (ns : List Int) : SeqAt.shaped (.list (ns.map PyData.int)) = true := by
  have h1 : (PyData.list (ns.map PyData.int)).canLay0 = true := all_lay (f := PyData.int) (fun _ => rfl) ns
  have h2 : (PyData.list (ns.map PyData.int)).depth ≤ 1 := by
    have := all_depth (f := PyData.int) (n := 0) (fun _ => Nat.le_refl _) ns
    show PyData.depthAll (ns.map PyData.int) + 1 ≤ 1
    omega
  unfold SeqAt.shaped
  rw [h1, decide_eq_true (Nat.le_trans h2 (by decide))]
  rfl
end Em

namespace Em
open PySem PySem.Spec PyProof.Rows L2 Qt

/-! ### data of any kind: within bounds -/
mutual
def okD : PyData → Bool
  | .none | .bool _ => true
  | .int i => decide (i.natAbs < 10 ^ 60)
  | .str z => (z.cps.toList.all fun c => decide (c < 16 ^ 8)) && decide (z.cps.size ≤ 7)
  | .list xs | .tuple xs => okAll xs
  | .dict _ => false
def okAll : List PyData → Bool
  | [] => true
  | x :: xs => okD x && okAll xs
end
mutual
theorem okD_show : ∀ d : PyData, okD d = true → d.showable = true ∧ d.leavesShort 61 = true
  | .none, _ => ⟨rfl, rfl⟩
  | .bool b, _ => ⟨rfl, rfl⟩
  | .int i, h => small_int (of_decide_eq_true (by simpa only [okD] using h))
  | .str z, h => ⟨rfl, (Bool.and_eq_true_iff.mp (show ((z.cps.toList.all fun c => decide (c < 16 ^ 8)) && decide (z.cps.size ≤ 7)) = true from h)).1⟩
  | .list xs, h => by
    have := okAll_show xs (by simpa only [okD] using h)
    simpa only [PyData.showable, PyData.leavesShort] using this
  | .tuple xs, h => by
    have := okAll_show xs (by simpa only [okD] using h)
    simpa only [PyData.showable, PyData.leavesShort] using this
  | .dict kvs, h => by cases h
theorem okAll_show : ∀ ds : List PyData, okAll ds = true → PyData.showableAll ds = true ∧ PyData.leavesShortAll 61 ds = true
  | [], _ => ⟨rfl, rfl⟩
  | d :: ds, h => by
    have h2 : okD d = true ∧ okAll ds = true := by simpa only [okAll, Bool.and_eq_true] using h
    obtain ⟨a1, a2⟩ := okD_show d h2.1
    obtain ⟨b1, b2⟩ := okAll_show ds h2.2
    exact ⟨by simp only [PyData.showableAll, a1, b1, Bool.and_self], by simp only [PyData.leavesShortAll, a2, b2, Bool.and_self]⟩
end
mutual
theorem okD_noDict : ∀ d : PyData, okD d = true → d.hasDict = false
  | .none, _ => rfl
  | .bool b, _ => rfl
  | .int i, _ => rfl
  | .str z, _ => rfl
  | .list xs, h => by simpa only [PyData.hasDict] using okAll_noDict xs (by simpa only [okD] using h)
  | .tuple xs, h => by simpa only [PyData.hasDict] using okAll_noDict xs (by simpa only [okD] using h)
  | .dict kvs, h => by cases h
theorem okAll_noDict : ∀ ds : List PyData, okAll ds = true → PyData.hasDictAll ds = false
  | [], _ => rfl
  | d :: ds, h => by
    have h2 : okD d = true ∧ okAll ds = true := by simpa only [okAll, Bool.and_eq_true] using h
    simp only [PyData.hasDictAll, okD_noDict d h2.1, okAll_noDict ds h2.2, Bool.or_self]
end
theorem okAll_iff : ∀ ds : List PyData, okAll ds = true ↔ ∀ d ∈ ds, okD d = true
  | [] => ⟨fun _ d z => (by cases z), fun _ => rfl⟩
  | d :: ds => by
    simp only [okAll, Bool.and_eq_true, List.mem_cons, forall_eq_or_imp]
    rw [okAll_iff ds]
mutual
/-- how many parts -/
def szD : PyData → Nat
  | .list xs | .tuple xs => szAll xs
  | _ => 0
def szAll : List PyData → Nat
  | [] => 0
  | x :: xs => szD x + 1 + szAll xs
end
mutual
theorem shown_sz : ∀ d : PyData, okD d = true → d.shown.length ≤ 80 * szD d + 75
  | .none, _ => by decide
  | .bool b, _ => by cases b <;> decide
  | .int i, h => Nat.le_trans (small_shown (of_decide_eq_true (by simpa only [okD] using h))) (by omega)
  | .str z, h => by
    obtain ⟨h1, h2⟩ := Bool.and_eq_true_iff.mp (show ((z.cps.toList.all fun c => decide (c < 16 ^ 8)) && decide (z.cps.size ≤ 7)) = true from h)
    have e := StrLaws.reprText_len z (by simpa only [List.all_eq_true, decide_eq_true_eq] using h1)
    have h3 := of_decide_eq_true h2
    have e2 : z.length = z.cps.size := rfl
    show (reprText z).length ≤ _
    omega
  | .list xs, h => by
    have h1 := shownAll_sz xs (by simpa only [okD] using h)
    have h2 := listText_len_le (PyData.shownAll xs)
    have h3 := PyData.shownAll_length xs
    simp only [PyData.shown, szD]
    omega
  | .tuple xs, h => by
    have h1 := shownAll_sz xs (by simpa only [okD] using h)
    have h2 := tupleText_len_le (PyData.shownAll xs)
    have h3 := PyData.shownAll_length xs
    simp only [PyData.shown, szD]
    omega
  | .dict kvs, h => by cases h
theorem shownAll_sz : ∀ xs : List PyData, okAll xs = true → ((PyData.shownAll xs).map (·.length)).sum + 2 * xs.length ≤ 80 * szAll xs
  | [], _ => Nat.le_refl _
  | x :: xs, h => by
    have h2 : okD x = true ∧ okAll xs = true := by simpa only [okAll, Bool.and_eq_true] using h
    have a := shown_sz x h2.1
    have b := shownAll_sz xs h2.2
    simp only [PyData.shownAll, szAll, List.map_cons, List.sum_cons, List.length_cons]
    omega
end
structure Fit (w k : Nat) (d : PyData) : Prop where
  ok : okD d = true
  wt : szD d ≤ w
  dp : d.depth ≤ k
theorem Fit.mono {w k w' k' : Nat} {d : PyData} (h : Fit w k d) (hw : w ≤ w') (hk : k ≤ k') : Fit w' k' d := ⟨h.ok, Nat.le_trans h.wt hw, Nat.le_trans h.dp hk⟩
theorem fit_all {w k : Nat} : ∀ ds : List PyData, (∀ d ∈ ds, Fit w k d) → okAll ds = true ∧ szAll ds ≤ (w + 1) * ds.length ∧ PyData.depthAll ds ≤ k
  | [], _ => ⟨rfl, Nat.zero_le _, Nat.zero_le _⟩
  | d :: ds, h => by
    have a := h d List.mem_cons_self
    obtain ⟨b1, b2, b3⟩ := fit_all ds fun e he => h e (List.mem_cons_of_mem _ he)
    have c := a.wt
    refine ⟨by simp only [okAll, a.ok, b1, Bool.and_self], ?_, Nat.max_le.mpr ⟨a.dp, b3⟩⟩
    show szD d + 1 + szAll ds ≤ (w + 1) * (ds.length + 1)
    have e : (w + 1) * (ds.length + 1) = (w + 1) * ds.length + (w + 1) := by rw [Nat.mul_succ]
    omega
theorem fit_tup {w k n : Nat} {ds : List PyData} (h : ∀ d ∈ ds, Fit w k d) (hn : ds.length ≤ n) : Fit ((w + 1) * n) (k + 1) (.tuple ds) := by
  obtain ⟨b1, b2, b3⟩ := fit_all ds h
  exact ⟨b1, Nat.le_trans b2 (Nat.mul_le_mul_left _ hn), Nat.succ_le_succ b3⟩
theorem fit_lst {w k n : Nat} {ds : List PyData} (h : ∀ d ∈ ds, Fit w k d) (hn : ds.length ≤ n) : Fit ((w + 1) * n) (k + 1) (.list ds) := by
  obtain ⟨b1, b2, b3⟩ := fit_all ds h
  exact ⟨b1, Nat.le_trans b2 (Nat.mul_le_mul_left _ hn), Nat.succ_le_succ b3⟩
theorem fit_int {i : Int} (h : i.natAbs < 10 ^ 60) {w k : Nat} (hw : 200 ≤ w) : Fit w k (.int i) := ⟨decide_eq_true h, Nat.zero_le _, Nat.zero_le _⟩
theorem fit_non {w k : Nat} : Fit w k .none := ⟨rfl, Nat.zero_le _, Nat.zero_le _⟩
theorem fit_bool {w k : Nat} (b : Bool) : Fit w k (.bool b) := ⟨rfl, Nat.zero_le _, Nat.zero_le _⟩
theorem Fit.shown {w k : Nat} {d : PyData} (h : Fit w k d) (hw : w ≤ 200000) : d.showable = true ∧ d.shown.length ≤ sizeLine := by
  obtain ⟨h1, h2⟩ := okD_show d h.ok
  refine ⟨h1, ?_⟩
  have h4 := shown_sz d h.ok
  have h5 := h.wt
  rw [sizeLine_eq]
  omega
theorem fit_int0 {i : Int} (h : i.natAbs < 10 ^ 60) {w k : Nat} : Fit w k (.int i) := ⟨decide_eq_true h, Nat.zero_le _, Nat.zero_le _⟩
/-! ### repr of it -/
section
variable {X : Cx}
theorem call_reprX {j : Nat} (hG : X.A.guards = some []) (rm : Room j X.A) : CallR X (.builtin "repr") (fun xs H Q => ∃ (S : List Addr) (x : V) (d : PyData), xs = [x] ∧ Dx S H x d ∧ (d.hasDict = false ∨ d = .dict []) ∧ d.showable = true ∧ d.depth < 150 ∧ d.shown.length ≤ sizeLine ∧ Q (.str d.shown) H) := by
  intro pins s σ H xs us Q I r h
  obtain ⟨S, x, d, rfl, hd, h2, h1, h3, h4, q⟩ := h
  obtain ⟨u, rfl, ru⟩ := vals1 r
  have hu := rm.un
  have ref : ∀ (a : Addr) (as : List Addr), Reads s.heap (.ref a) d as → (d.hasDict = true → sysModules ∉ as) → wpAny (model X.prog X.w) X.A (call (.builtin "repr") [.ref a]) (EP X pins σ Q) X.xe s := fun a as hr hm =>
    repr_of_reads' hr h1 hm hG (by omega) (fun _ _ e => e) (fun h' u tk hk => ⟨.str d.shown, H, I.kept (t' := tk) hk, ⟨u, rfl⟩, q⟩) h4
  have plain : ∀ a : Addr, x = .ref a → d.hasDict = false → wpAny (model X.prog X.w) X.A (call (.builtin "repr") [u]) (EP X pins σ Q) X.xe s := fun a e hn => by
    subst e
    obtain ⟨as, hr⟩ := (hd.dp hn (K := X.K)).reads I d _ u ru
    obtain rfl : u = Value.ref a := ru
    exact ref a as hr fun e => by rw [hn] at e; cases e
  cases hd with
  | non => cases ru; exact PySem.P.repr_of_none ⟨.str _, H, I.tok _, ⟨_, rfl⟩, q⟩
  | bl b => cases ru; exact PySem.P.repr_of_bool ⟨.str _, H, I.tok _, ⟨_, rfl⟩, q⟩
  | int i =>
    obtain ⟨t, rfl⟩ := ru
    exact PySem.P.repr_of_int (of_decide_eq_true (by simpa only [PyData.showable] using h1)) ⟨.str _, H, I.tok _, ⟨_, rfl⟩, q⟩
  | str z =>
    obtain ⟨t, rfl⟩ := ru
    exact PySem.P.repr_of_str ⟨.str _, H, I.tok _, ⟨_, rfl⟩, q⟩ h4
  | @lst a vs ds n h ra =>
    rcases h2 with h2 | h2
    · exact plain a rfl h2
    · cases h2
  | @tup a vs ds n h ra =>
    rcases h2 with h2 | h2
    · exact plain a rfl h2
    · cases h2
  | @dic a n h =>
    obtain rfl : u = Value.ref a := ru
    obtain ⟨_, ns, vs, rk, o, es, ep, e, ⟨ec, _⟩, ed, _, hp, _⟩ := I.hok _ _ h
    cases rk
    have e0 : es.toList = [] := by
      generalize es.toList = l at hp
      cases hp
      rfl
    refine ref a ([a] ++ []) (Reads.dict e ec ed (as := []) (bs := []) (by rw [e0]; exact ReadsAll.nil) (by rw [e0]; exact ReadsAll.nil)) fun _ z => ?_
    simp only [List.append_nil, List.mem_singleton] at z
    rw [← z] at ns
    simp at ns
end
/-! ### slices, sums and multiples of tuples -/
theorem cutA_x {S : List Addr} {H : Hp} {lo hi : Option Int} : ∀ {xs : List V} {ds : List PyData}, DxA S H xs ds → DxA S H (cutV xs lo hi) ((ds.drop (HT.sIx ds.length 0 lo)).take (HT.sIx ds.length ds.length hi - HT.sIx ds.length 0 lo)) := fun {xs ds} h => by
  have e := h.len
  unfold cutV
  rw [e]
  have dr : ∀ (n : Nat) {xs : List V} {ds : List PyData}, DxA S H xs ds → DxA S H (xs.drop n) (ds.drop n) := by
    intro n
    induction n with
    | zero => exact fun h => h
    | succ n ih =>
      intro xs ds h
      cases h with
      | nil => exact .nil
      | cons a t => exact ih t
  have tk : ∀ (n : Nat) {xs : List V} {ds : List PyData}, DxA S H xs ds → DxA S H (xs.take n) (ds.take n) := by
    intro n
    induction n with
    | zero =>
      intro xs ds h
      exact .nil
    | succ n ih =>
      intro xs ds h
      cases h with
      | nil => exact .nil
      | cons a t => exact .cons a (ih t)
  exact tk _ (dr _ h)
def cutD (ds : List PyData) (lo hi : Option Int) : List PyData := (ds.drop (HT.sIx ds.length 0 lo)).take (HT.sIx ds.length ds.length hi - HT.sIx ds.length 0 lo)
theorem cutD_mem {ds : List PyData} {lo hi : Option Int} {d : PyData} (h : d ∈ cutD ds lo hi) : d ∈ ds := List.mem_of_mem_drop (List.mem_of_mem_take h)
theorem cutD_len (ds : List PyData) (lo hi : Option Int) : (cutD ds lo hi).length ≤ ds.length := by
  unfold cutD
  rw [List.length_take, List.length_drop]
  omega
theorem Dx.newT {S : List Addr} {H : Hp} {p : Addr} {xs : List V} {ds : List PyData} (hS : ∀ s ∈ S, H s ≠ none) (np : H p = none) (h : DxA S H xs ds) : Dx S (upd H p (.tup xs)) (.ref p) (.tuple ds) :=
  .tup (fun z => hS p z np) upd_same (h.kp (Kp.new (S := []) np) fun _ z => by cases z)
theorem Dx.newL {S : List Addr} {H : Hp} {p : Addr} {xs : List V} {ds : List PyData} (hS : ∀ s ∈ S, H s ≠ none) (np : H p = none) (h : DxA S H xs ds) : Dx S (upd H p (.lst xs)) (.ref p) (.list ds) :=
  .lst (fun z => hS p z np) upd_same (h.kp (Kp.new (S := []) np) fun _ z => by cases z)
theorem dx_slice {K : PySem.W.Frag} {S : List Addr} {H : Hp} {v : V} {ds : List PyData} {lo hi : Option Int} {Q : VK} (hS : ∀ s ∈ S, H s ≠ none) (h : Dx S H v (.tuple ds)) (q : ∀ v' H', Kp [] H H' → Dx S H' v' (.tuple (cutD ds lo hi)) → Q v' H') : rSlA K v lo hi H Q := by
  cases h with
  | @tup a xs _ n h r =>
    refine ⟨a, xs, rfl, SqT.of h, fun e => ?_, fun _ p np => ?_⟩
    · refine q (.ref a) H .rfl' ?_
      have e2 : cutD ds lo hi = ds := by
        have el := r.len
        rw [el] at e
        unfold cutD
        rw [e.1, e.2, List.drop_zero, Nat.sub_zero, List.take_length]
      rw [e2]
      exact .tup n h r
    · exact q _ _ (Kp.new np) (Dx.newT hS np (cutA_x r))
theorem dx_cat {K : PySem.W.Frag} {S : List Addr} {H : Hp} {x y : V} {ds es : List PyData} {Q : VK} (hS : ∀ s ∈ S, H s ≠ none) (h1 : Dx S H x (.tuple ds)) (h2 : Dx S H y (.tuple es)) (hl : ds.length + es.length ≤ sizeLine) (q : ∀ v' H', Kp [] H H' → Dx S H' v' (.tuple (ds ++ es)) → Q v' H') : rCatA K x y H Q := by
  cases h1 with
  | @tup a xs _ n h r =>
    cases h2 with
    | @tup b ys _ m k t =>
      have l1 := r.len
      have l2 := t.len
      refine ⟨a, b, xs, ys, rfl, rfl, SqT.of h, SqT.of k, by omega, fun e => ?_, fun _ e => ?_, fun _ _ p np => ?_⟩
      · have : ds = [] := List.length_eq_zero_iff.mp (by rw [← l1, e]; rfl)
        subst this
        exact q _ _ .rfl' (.tup m k t)
      · have : es = [] := List.length_eq_zero_iff.mp (by rw [← l2, e]; rfl)
        subst this
        rw [List.append_nil] at q
        exact q _ _ .rfl' (.tup n h r)
      · exact q _ _ (Kp.new np) (Dx.newT hS np (r.app t))
theorem dx_rep {K : PySem.W.Frag} {S : List Addr} {H : Hp} {x : V} {ds : List PyData} {k : Int} {Q : VK} (hS : ∀ s ∈ S, H s ≠ none) (h1 : Dx S H x (.tuple ds)) (hne : ds ≠ []) (hk : 2 ≤ k) (hk2 : k ≤ 1000) (hl : ds.length ≤ 1000) (q : ∀ v' H', Kp [] H H' → Dx S H' v' (.tuple (List.replicate k.toNat ds).flatten) → Q v' H') : rRepT K x (.int k) H Q := by
  cases h1 with
  | @tup a xs _ n h r =>
    have l1 := r.len
    refine ⟨a, k, xs, rfl, rfl, SqT.of h, fun e => hne (List.length_eq_zero_iff.mp (by rw [← l1, e]; rfl)), hk, hk2, by omega, fun p np => ?_⟩
    refine q _ _ (Kp.new np) (Dx.newT hS np ?_)
    generalize k.toNat = m
    induction m with
    | zero => exact .nil
    | succ m ih =>
      rw [List.replicate_succ, List.replicate_succ, List.flatten_cons, List.flatten_cons]
      exact r.app ih
theorem lamp_fit {p : Int × Option Nat} (h1 : 1 ≤ p.1) (h2 : p.1 < 10 ^ 60) (h3 : ∀ y, p.2 = some y → y < 12) : Fit 600 1 (lampD p) := by
  have a := lamp_small h1 h2 h3
  refine ⟨?_, (show 0 + 1 + (szD (nxD p.2) + 1 + 0) ≤ 600 by cases p.2 <;> exact (by decide : 2 ≤ 600)), lamp_depth p⟩
  obtain ⟨l, o⟩ := p
  have hl : l.natAbs < 10 ^ 60 := by simp only at h1 h2; omega
  cases o with
  | none =>
    show (decide _ && (true && true)) = true
    rw [decide_eq_true hl]; rfl
  | some y =>
    have := h3 y rfl
    have hy : (y : Int).natAbs < 10 ^ 60 := by omega
    show (decide _ && (decide _ && true)) = true
    rw [decide_eq_true hl, decide_eq_true hy]; rfl
theorem net_fits {N : Net} (o : NetOk N) (s : Short N) : ∀ d ∈ N.map lampD, Fit 600 1 d := fun d hd => by
  obtain ⟨p, hp, rfl⟩ := List.mem_map.mp hd
  have h12 := o.hi
  exact lamp_fit (o.len p hp) (s p hp) fun y hy => by
    have := o.nx p hp y hy
    omega
theorem cutD_to (ds : List PyData) (c : Nat) : (cutD ds none (some (c : Int))).length ≤ c := by
  unfold cutD
  rw [List.length_take, List.length_drop, HT.sIx_none, show HT.sIx ds.length ds.length (some (c : Int)) = min c ds.length from HT.sIx_nat _ _ c]
  omega
theorem rep_mem {α : Type} {n : Nat} {ds : List α} {d : α} (h : d ∈ (List.replicate n ds).flatten) : d ∈ ds := by
  obtain ⟨l, hl, hd⟩ := List.mem_flatten.mp h
  rw [(List.mem_replicate.mp hl).2] at hd
  exact hd
def deepD : Nat → PyData
  | 0 => .tuple []
  | n + 1 => .tuple [deepD n]
theorem deep_fit : ∀ n, Fit n (n + 1) (deepD n)
  | 0 => ⟨rfl, Nat.le_refl _, Nat.le_refl _⟩
  | n + 1 => by
    have h := deep_fit n
    have h1 := h.wt
    have h2 := h.dp
    refine ⟨?_, ?_, ?_⟩
    · show (okD (deepD n) && true) = true
      rw [h.ok]; rfl
    · show szD (deepD n) + 1 + 0 ≤ n + 1
      omega
    · show max (deepD n).depth 0 + 1 ≤ n + 1 + 1
      omega
/-! ### what the law finds a net is one -/
theorem lamp_of {m : Nat} {d : PyData} (h : lampB m d = true) : ∃ p : Int × Option Nat, d = lampD p ∧ 1 ≤ p.1 ∧ ∀ y, p.2 = some y → y < m := by
  match d, h with
  | .tuple [l, o], h =>
    have h2 : (lenB l && nxB m o) = true := h
    rw [Bool.and_eq_true] at h2
    obtain ⟨h3, h4⟩ := h2
    cases l with
    | int i =>
      have h5 : ¬ i < 1 := by
        intro z
        have : (!decide (i < 1)) = true := h3
        rw [decide_eq_true z] at this
        cases this
      cases o with
      | none => exact ⟨(i, none), rfl, by show 1 ≤ i; omega, fun y e => by cases e⟩
      | int j =>
        have h6 : (decide ((0 : Int) ≤ j) && decide (j < (m : Int))) = true := h4
        rw [Bool.and_eq_true] at h6
        have a1 := of_decide_eq_true h6.1
        have a2 := of_decide_eq_true h6.2
        refine ⟨(i, some j.toNat), ?_, by show 1 ≤ i; omega, fun y e => ?_⟩
        · show PyData.tuple [.int i, .int j] = .tuple [.int i, .int (j.toNat : Int)]
          have : j = (j.toNat : Int) := by omega
          rw [← this]
        · have : j.toNat = y := Option.some.inj e
          omega
      | bool _ => cases h4
      | str _ => cases h4
      | list _ => cases h4
      | tuple _ => cases h4
      | dict _ => cases h4
    | none => cases h3
    | bool _ => cases h3
    | str _ => cases h3
    | list _ => cases h3
    | tuple _ => cases h3
    | dict _ => cases h3
theorem lamps_of {m : Nat} : ∀ ds : List PyData, (∀ d ∈ ds, lampB m d = true) → ∃ N : Net, ds = N.map lampD ∧ ∀ p ∈ N, 1 ≤ p.1 ∧ ∀ y, p.2 = some y → y < m
  | [], _ => ⟨[], rfl, fun p z => by cases z⟩
  | d :: ds, h => by
    obtain ⟨p, e, q⟩ := lamp_of (h d List.mem_cons_self)
    obtain ⟨N, e2, q2⟩ := lamps_of ds fun e he => h e (List.mem_cons_of_mem _ he)
    refine ⟨p :: N, by rw [e, e2]; rfl, fun r hr => ?_⟩
    rcases List.mem_cons.mp hr with rfl | hr
    · exact q
    · exact q2 r hr
theorem net_of {d : PyData} (h : netB d = true) : ∃ N : Net, d = netD N ∧ NetOk N := by
  match d, h with
  | .tuple ds, h =>
    have h2 : (!decide ((ds.length : Int) < 1) && !decide ((12 : Int) < (ds.length : Int)) && (ds.map (lampB ds.length)).all id) = true := h
    rw [Bool.and_eq_true, Bool.and_eq_true] at h2
    obtain ⟨⟨h3, h4⟩, h5⟩ := h2
    have a1 : ¬ (ds.length : Int) < 1 := fun z => by rw [decide_eq_true z] at h3; cases h3
    have a2 : ¬ (12 : Int) < (ds.length : Int) := fun z => by rw [decide_eq_true z] at h4; cases h4
    obtain ⟨N, e, q⟩ := lamps_of ds fun d hd => (List.all_eq_true.mp h5) _ (List.mem_map.mpr ⟨d, hd, rfl⟩)
    have el : ds.length = N.length := by rw [e, List.length_map]
    exact ⟨N, by rw [e]; rfl, by omega, by omega, fun p hp => (q p hp).1, fun p hp y hy => by rw [← el]; exact (q p hp).2 y hy⟩
theorem short_of {N : Net} (h : okD (netD N) = true) : Short N := fun p hp => by
  have h1 := (okAll_iff (N.map lampD)).mp h (lampD p) (List.mem_map.mpr ⟨p, hp, rfl⟩)
  have h2 : (decide (p.1.natAbs < 10 ^ 60) && _) = true := h1
  rw [Bool.and_eq_true] at h2
  have h3 := of_decide_eq_true h2.1
  have e : ((10 ^ 60 : Nat) : Int) = (10 : Int) ^ 60 := by decide
  have : (p.1.natAbs : Int) < ((10 ^ 60 : Nat) : Int) := Int.ofNat_lt.mpr h3
  rw [e] at this
  omega
structure Shows (d : PyData) : Prop where
  pl : d.hasDict = false ∨ d = .dict []
  sh : d.showable = true
  dp : d.depth < 150
  ln : d.shown.length ≤ sizeLine
theorem shows_of {d : PyData} (h : Fit 20000 50 d ∨ d = .dict []) : Shows d := by
  rcases h with h | rfl
  · obtain ⟨a, b⟩ := h.shown (by decide)
    exact ⟨.inl (okD_noDict d h.ok), a, Nat.lt_of_le_of_lt h.dp (by decide), b⟩
  · refine ⟨.inr rfl, rfl, by decide, ?_⟩
    rw [sizeLine_eq]
    decide
end Em

namespace Em
open PySem PySem.Spec PyProof.Rows L2 Qt

/-! ### kindlings -/
def beatB : PyData → Bool
  | .int i => !decide (i < 0)
  | _ => false
def sparkB (m : Nat) : PyData → Bool
  | .tuple [b, l] => beatB b && numB m l
  | _ => false
def sparksB (m : Nat) : PyData → Bool
  | .list ds => !decide ((40 : Int) < (ds.length : Int)) && (ds.map (sparkB m)).all id
  | _ => false
abbrev Sparks := List (Int × Nat)
def sparkD (p : Int × Nat) : PyData := .tuple [.int p.1, .int (p.2 : Nat)]
def sparksD (L : Sparks) : PyData := .list (L.map sparkD)
structure SpOk (m : Nat) (L : Sparks) : Prop where
  len : L.length ≤ 40
  lo : ∀ p ∈ L, 0 ≤ p.1
  hi : ∀ p ∈ L, p.1 < 10 ^ 60
  at_ : ∀ p ∈ L, p.2 < m
theorem spark_of {m : Nat} {d : PyData} (h : sparkB m d = true) : ∃ p : Int × Nat, d = sparkD p ∧ 0 ≤ p.1 ∧ p.2 < m := by
  match d, h with
  | .tuple [b, l], h =>
    have h2 : (beatB b && numB m l) = true := h
    rw [Bool.and_eq_true] at h2
    obtain ⟨h3, h4⟩ := h2
    cases b with
    | int i =>
      have h5 : ¬ i < 0 := fun z => by
        have : (!decide (i < 0)) = true := h3
        rw [decide_eq_true z] at this
        cases this
      cases l with
      | int j =>
        have h6 : (decide ((0 : Int) ≤ j) && decide (j < (m : Int))) = true := h4
        rw [Bool.and_eq_true] at h6
        have a1 := of_decide_eq_true h6.1
        have a2 := of_decide_eq_true h6.2
        refine ⟨(i, j.toNat), ?_, by show 0 ≤ i; omega, by show j.toNat < m; omega⟩
        show PyData.tuple [.int i, .int j] = .tuple [.int i, .int (j.toNat : Int)]
        have : j = (j.toNat : Int) := by omega
        rw [← this]
      | none => cases h4
      | bool _ => cases h4
      | str _ => cases h4
      | list _ => cases h4
      | tuple _ => cases h4
      | dict _ => cases h4
    | none => cases h3
    | bool _ => cases h3
    | str _ => cases h3
    | list _ => cases h3
    | tuple _ => cases h3
    | dict _ => cases h3
theorem sparksL_of {m : Nat} : ∀ ds : List PyData, (∀ d ∈ ds, sparkB m d = true) → ∃ L : Sparks, ds = L.map sparkD ∧ ∀ p ∈ L, 0 ≤ p.1 ∧ p.2 < m
  | [], _ => ⟨[], rfl, fun p z => by cases z⟩
  | d :: ds, h => by
    obtain ⟨p, e, q⟩ := spark_of (h d List.mem_cons_self)
    obtain ⟨N, e2, q2⟩ := sparksL_of ds fun e he => h e (List.mem_cons_of_mem _ he)
    refine ⟨p :: N, by rw [e, e2]; rfl, fun r hr => ?_⟩
    rcases List.mem_cons.mp hr with rfl | hr
    · exact q
    · exact q2 r hr
theorem sparks_of {m : Nat} {d : PyData} (h : sparksB m d = true) (hk : okD d = true) : ∃ L : Sparks, d = sparksD L ∧ SpOk m L := by
  match d, h with
  | .list ds, h =>
    have h2 : (!decide ((40 : Int) < (ds.length : Int)) && (ds.map (sparkB m)).all id) = true := h
    rw [Bool.and_eq_true] at h2
    obtain ⟨h4, h5⟩ := h2
    have a2 : ¬ (40 : Int) < (ds.length : Int) := fun z => by rw [decide_eq_true z] at h4; cases h4
    obtain ⟨L, e, q⟩ := sparksL_of ds fun d hd => (List.all_eq_true.mp h5) _ (List.mem_map.mpr ⟨d, hd, rfl⟩)
    have el : ds.length = L.length := by rw [e, List.length_map]
    refine ⟨L, by rw [e]; rfl, by omega, fun p hp => (q p hp).1, fun p hp => ?_, fun p hp => (q p hp).2⟩
    have h1 := (okAll_iff ds).mp hk (sparkD p) (by rw [e]; exact List.mem_map.mpr ⟨p, hp, rfl⟩)
    have h2 : (decide (p.1.natAbs < 10 ^ 60) && _) = true := h1
    rw [Bool.and_eq_true] at h2
    have h3 := of_decide_eq_true h2.1
    have e : ((10 ^ 60 : Nat) : Int) = (10 : Int) ^ 60 := by decide
    have : (p.1.natAbs : Int) < ((10 ^ 60 : Nat) : Int) := Int.ofNat_lt.mpr h3
    rw [e] at this
    omega
theorem spark_fit1 {i : Int} {x : Nat} (h : i.natAbs < 10 ^ 60) (hx : x ≤ 12) : Fit 2 1 (sparkD (i, x)) := fit_tup (w := 0) (k := 0) (n := 2) (fun d hd => by
    simp only [List.mem_cons, List.not_mem_nil, or_false] at hd
    rcases hd with rfl | rfl
    · exact fit_int0 h
    · exact fit_int0 (by show ((x : Nat) : Int).natAbs < _; omega)) (Nat.le_refl _)
theorem spark_fit {m : Nat} (hm : m ≤ 12) {L : Sparks} (o : SpOk m L) : ∀ d ∈ L.map sparkD, Fit 2 1 d := fun d hd => by
  obtain ⟨p, hp, rfl⟩ := List.mem_map.mp hd
  have a := o.lo p hp
  have b := o.hi p hp
  have c := o.at_ p hp
  exact spark_fit1 (by omega) (by omega)
/-! ### slices, sums and multiples of lists -/
theorem dxl_slice {K : PySem.W.Frag} {S : List Addr} {H : Hp} {v : V} {ds : List PyData} {lo hi : Option Int} {Q : VK} (hS : ∀ s ∈ S, H s ≠ none) (h : Dx S H v (.list ds)) (q : ∀ v' H', Kp [] H H' → Dx S H' v' (.list (cutD ds lo hi)) → Q v' H') : rSlL K v lo hi H Q := by
  cases h with
  | @lst a xs _ n h r => exact ⟨a, xs, rfl, SqL.of h, fun p np => q _ _ (Kp.new np) (Dx.newL hS np (cutA_x r))⟩
theorem dxl_cat {K : PySem.W.Frag} {S : List Addr} {H : Hp} {x y : V} {ds es : List PyData} {Q : VK} (hS : ∀ s ∈ S, H s ≠ none) (h1 : Dx S H x (.list ds)) (h2 : Dx S H y (.list es)) (hl : ds.length + es.length ≤ sizeLine) (q : ∀ v' H', Kp [] H H' → Dx S H' v' (.list (ds ++ es)) → Q v' H') : rCatL K x y H Q := by
  cases h1 with
  | @lst a xs _ n h r =>
    cases h2 with
    | @lst b ys _ m k t =>
      have l1 := r.len
      have l2 := t.len
      exact ⟨a, b, xs, ys, rfl, rfl, SqL.of h, SqL.of k, by omega, fun p np => q _ _ (Kp.new np) (Dx.newL hS np (r.app t))⟩
theorem repA {S : List Addr} {H : Hp} {xs : List V} {ds : List PyData} (r : DxA S H xs ds) : ∀ m : Nat, DxA S H (List.replicate m xs).flatten (List.replicate m ds).flatten
  | 0 => .nil
  | m + 1 => by
    rw [List.replicate_succ, List.replicate_succ, List.flatten_cons, List.flatten_cons]
    exact r.app (repA r m)
theorem dxl_rep {S : List Addr} {H : Hp} {x : V} {ds : List PyData} {k : Int} {Q : VK} (hS : ∀ s ∈ S, H s ≠ none) (h1 : Dx S H x (.list ds)) (hk : 0 ≤ k) (hk2 : k ≤ 1000) (hl : ds.length ≤ 1000) (q : ∀ v' H', Kp [] H H' → Dx S H' v' (.list (List.replicate k.toNat ds).flatten) → Q v' H') : rRep x (.int k) H Q := by
  cases h1 with
  | @lst a xs _ n h r =>
    have l1 := r.len
    refine ⟨a, k, xs, rfl, rfl, h, by omega, by omega, Nat.le_trans (m := 1000 * 1000) (Nat.mul_le_mul (by omega) (by omega)) (by decide), fun p np => q _ _ (Kp.new np) (Dx.newL hS np (repA r _))⟩
theorem dxl_rev {K : PySem.W.Frag} {S : List Addr} {H : Hp} {x : V} {ds : List PyData} {Q : VK} (hS : ∀ s ∈ S, H s ≠ none) (h1 : Dx S H x (.list ds)) (q : ∀ v' H', Kp [] H H' → Dx S H' v' (.list ds.reverse) → Q v' H') : ∃ a xs, x = .ref a ∧ SqL K H a xs ∧ ∀ p, H p = none → Q (.ref p) (upd H p (.lst xs.reverse)) := by
  cases h1 with
  | @lst a xs _ n h r =>
    refine ⟨a, xs, rfl, SqL.of h, fun p np => q _ _ (Kp.new np) (Dx.newL hS np ?_)⟩
    clear h hS
    have rv : ∀ {xs : List V} {ds : List PyData}, DxA S H xs ds → DxA S H xs.reverse ds.reverse := by
      intro xs
      induction xs with
      | nil => intro ds r; cases r; exact .nil
      | cons v vs ih =>
        intro ds r
        cases r with
        | cons a t =>
          rw [List.reverse_cons, List.reverse_cons]
          exact (ih t).app (.cons a .nil)
    exact rv r
theorem revA {S : List Addr} {H : Hp} : ∀ {xs : List V} {ds : List PyData}, DxA S H xs ds → DxA S H xs.reverse ds.reverse := by
  intro xs
  induction xs with
  | nil => intro ds r; cases r; exact .nil
  | cons v vs ih =>
    intro ds r
    cases r with
    | cons a t =>
      rw [List.reverse_cons, List.reverse_cons]
      exact (ih t).app (.cons a .nil)
theorem rev_at {S : List Addr} {H : Hp} {sa : Addr} {ds : List PyData} (h : Dx S H (.ref sa) (.list ds)) : ∃ zs, H sa = some (.lst zs) ∧ DxA S H zs ds := by
  cases h with
  | lst n h r => exact ⟨_, h, r⟩
/-! ### a list of a net and of something is shown -/
section
variable {X : Cx} {es : List Expr} {t : TA} {pos : Pos}
def tLstX (t : TA) : TE := fun σ H Q => t σ H fun xs H1 => xs.length ≤ sizeLine ∧ ∀ p, H1 p = none → (p == sysModules) = false → Q (.ref p) (upd H1 p (.lst xs))
/-- a new list is not where the modules stand -/
theorem pe_lstX (h : PA X es t) : PE X (.List es pos) (tLstX t) := by
  refine ⟨fun pins s σ H Q I hq => ?_⟩
  refine wpAny_List_spliced (thn (h.run pos pins s σ H _ I hq) fun us s1 ⟨xs, H1, I1, r, z, q⟩ => ⟨by rw [← r.length]; exact z, ?_⟩)
  have hf : H1 s1.heap.objs.size = none := I1.hok.fresh (Nat.le_refl _)
  have hb : (s1.heap.objs.size == sysModules) = false := by
    have := I1.big
    simp only [beq_eq_false_iff_ne]
    exact Nat.ne_of_gt this
  refine ⟨.ref s1.heap.objs.size, upd H1 s1.heap.objs.size (.lst xs), I1.laid (t' := s1.toks) (fun b u e => Heap.get?_push_of_some _ e) (Nat.le_refl _) ?_, rfl, q _ hf hb⟩
  exact ⟨z, us, 0, r, Heap.get?_push_size _ rfl⟩
theorem lamp_reads {h : Heap} {v : Value} {p : Int × Option Nat} {as : List Addr} (r : Reads h v (lampD p) as) : as = [] := by
  obtain ⟨l, o⟩ := p
  cases r with
  | @tuple _ _ vs _ _ _ _ _ _ r =>
    generalize vs.toList = l at r
    cases r with
    | cons r1 r =>
      cases r with
      | cons r2 r =>
        cases r
        cases r1
        cases o with
        | none => cases r2; rfl
        | some y => cases r2; rfl
theorem lamps_reads {h : Heap} : ∀ {N : Net} {vs : List Value} {as : List Addr}, ReadsAll h vs (N.map lampD) as → as = []
  | [], _, _, r => by cases r; rfl
  | p :: N, _, _, r => by
    cases r with
    | cons r1 r2 => rw [lamp_reads r1, lamps_reads r2]; rfl
theorem net_reads {h : Heap} {v : Value} {N : Net} {as : List Addr} (r : Reads h v (netD N) as) : as = [] := by
  cases r with
  | tuple _ _ _ r => exact lamps_reads r
def pairD (N : Net) (d : PyData) : PyData := .list [netD N, d]
theorem call_reprPair {j : Nat} (hG : X.A.guards = some []) (rm : Room j X.A) : CallR X (.builtin "repr") (fun xs H Q => ∃ (S : List Addr) (b : Addr) (v u : V) (N : Net) (d : PyData), xs = [.ref b] ∧ H b = some (.lst [v, u]) ∧ (b == sysModules) = false ∧ Dx S H v (netD N) ∧ Dx S H u d ∧ (d.hasDict = false ∨ d = .dict []) ∧ (pairD N d).showable = true ∧ (pairD N d).depth < 150 ∧ (pairD N d).shown.length ≤ sizeLine ∧ Q (.str (pairD N d).shown) H) := by
  intro pins s σ H xs us Q I r h
  obtain ⟨S, b, v, u, N, d, rfl, hb, nb, hv, hu_, h2, h1, h3, h4, q⟩ := h
  obtain ⟨ub, rfl, ru⟩ := vals1 r
  obtain rfl : ub = Value.ref b := ru
  have hu := rm.un
  obtain ⟨_, its, m, rv, e⟩ := I.hok _ _ hb
  obtain ⟨w1, w2, rfl, r1, r2⟩ := vals2 rv
  obtain ⟨as1, q1⟩ := (hv.dp (net_noDict N) (K := X.K)).reads I _ _ _ r1
  have e1 := net_reads q1
  subst e1
  have fin : ∀ as2, Reads s.heap w2 d as2 → ((pairD N d).hasDict = true → sysModules ∉ as2) → wpAny (model X.prog X.w) X.A (call (.builtin "repr") [.ref b]) (EP X pins σ Q) X.xe s := fun as2 q2 hm =>
    repr_of_reads' (d := pairD N d) (as := b :: ([] ++ (as2 ++ []))) (Reads.list e rfl rfl (ReadsAll.cons q1 (ReadsAll.cons q2 ReadsAll.nil))) h1 (fun z y => by
      rcases List.mem_cons.mp y with y | y
      · rw [← y] at nb
        simp at nb
      · exact hm z (by simpa using y)) hG (by omega) (fun _ _ e => e) (fun h' u tk hk => ⟨.str (pairD N d).shown, H, I.kept (t' := tk) hk, ⟨u, rfl⟩, q⟩) h4
  rcases h2 with h2 | h2
  · obtain ⟨as2, q2⟩ := (hu_.dp h2 (K := X.K)).reads I _ _ _ r2
    refine fin as2 q2 fun z => ?_
    have : (pairD N d).hasDict = false := by
      show ((netD N).hasDict || (d.hasDict || false)) = false
      rw [net_noDict, h2]; rfl
    rw [this] at z
    cases z
  · subst h2
    cases hu_ with
    | @dic a n h =>
      obtain rfl : w2 = Value.ref a := r2
      obtain ⟨_, ns, vs, rk, o, es, ep, e', ⟨ec, _⟩, ed, _, hp, _⟩ := I.hok _ _ h
      cases rk
      have e0 : es.toList = [] := by
        generalize es.toList = l at hp
        cases hp
        rfl
      refine fin ([a] ++ []) (Reads.dict e' ec ed (as := []) (bs := []) (by rw [e0]; exact ReadsAll.nil) (by rw [e0]; exact ReadsAll.nil)) fun _ z => ?_
      simp only [List.append_nil, List.mem_singleton] at z
      rw [← z] at ns
      simp at ns
end
theorem net_fit {N : Net} (o : NetOk N) (s : Short N) : Fit 8000 2 (netD N) := (fit_tup (w := 600) (k := 1) (n := 12) (net_fits o s) (by rw [List.length_map]; exact o.hi)).mono (by decide) (by decide)
theorem pair_shows {N : Net} {d : PyData} (o : NetOk N) (s : Short N) (h : Fit 60000 50 d ∨ d = .dict []) : (d.hasDict = false ∨ d = .dict []) ∧ (pairD N d).showable = true ∧ (pairD N d).depth < 150 ∧ (pairD N d).shown.length ≤ sizeLine := by
  have fn := net_fit o s
  rcases h with h | rfl
  · have fp : Fit ((60000 + 1) * 2) (50 + 1) (pairD N d) := fit_lst (w := 60000) (k := 50) (n := 2) (fun e he => by
      simp only [List.mem_cons, List.not_mem_nil, or_false] at he
      rcases he with rfl | rfl
      · exact fn.mono (by decide) (by decide)
      · exact h) (Nat.le_refl _)
    obtain ⟨a, b⟩ := fp.shown (by decide)
    exact ⟨.inl (okD_noDict d h.ok), a, Nat.lt_of_le_of_lt fp.dp (by decide), b⟩
  · obtain ⟨a, b⟩ := fn.shown (by decide)
    refine ⟨.inr rfl, ?_, ?_, ?_⟩
    · show ((netD N).showable && (true && true)) = true
      rw [a]; rfl
    · have := fn.dp
      have e1 : (PyData.dict []).depth ≤ 1 := by decide
      show max (netD N).depth (max (PyData.dict []).depth 0) + 1 < 150
      omega
    · have h1 := shown_sz (netD N) fn.ok
      have h2 := fn.wt
      have h3 := listText_len_le [(netD N).shown, (PyData.dict []).shown]
      have h4 : (PyData.dict []).shown.length ≤ 10 := by decide
      have h5 : (listText [(netD N).shown, (PyData.dict []).shown]).length ≤ sizeLine := by
        rw [sizeLine_eq]
        simp only [List.map_cons, List.map_nil, List.sum_cons, List.sum_nil, List.length_cons, List.length_nil] at h3
        omega
      exact h5
end Em

namespace Em
open PySem PySem.Spec PyProof.Rows L2 Qt

/-! ### what is never written: numbers, texts, tuples of such -/
mutual
inductive Tu (H : Hp) : V → PyData → Prop
  | non : Tu H .non .none
  | bl (b : Bool) : Tu H (.bl b) (.bool b)
  | int (i : Int) : Tu H (.int i) (.int i)
  | str (z : Str) : Tu H (.str z) (.str z)
  | tup {a : Addr} {xs : List V} {ds : List PyData} (h : H a = some (.tup xs)) (r : TuA H xs ds) : Tu H (.ref a) (.tuple ds)
inductive TuA (H : Hp) : List V → List PyData → Prop
  | nil : TuA H [] []
  | cons {v : V} {vs : List V} {d : PyData} {ds : List PyData} (h : Tu H v d) (t : TuA H vs ds) : TuA H (v :: vs) (d :: ds)
end
/-- tuples stay -/
def Kt (H H' : Hp) : Prop := ∀ a xs, H a = some (.tup xs) → H' a = some (.tup xs)
theorem Kt.rfl' {H : Hp} : Kt H H := fun _ _ h => h
theorem Kt.tr {H H1 H2 : Hp} (a : Kt H H1) (b : Kt H1 H2) : Kt H H2 := fun p xs h => b p xs (a p xs h)
theorem Kt.new {H : Hp} {p : Addr} {o : HO} (n : H p = none) : Kt H (upd H p o) := fun a xs h => by rw [upd_ne (ne_of_none h n)]; exact h
theorem Kt.put {H : Hp} {p : Addr} {o u : HO} (h : H p = some u) (nt : ∀ xs, u ≠ .tup xs) : Kt H (upd H p o) := fun a xs q => by
  rw [upd_ne (fun z => by rw [z, h] at q; exact nt xs (Option.some.inj q))]; exact q
theorem Kp.kt {S : List Addr} {H H' : Hp} (k : Kp S H H') (hs : ∀ s ∈ S, ∀ xs, H s ≠ some (.tup xs)) : Kt H H' := fun a xs h => k.tup (fun z => hs a z xs h) h
theorem Kp.kt0 {H H' : Hp} (k : Kp [] H H') : Kt H H' := k.kt fun s z => by cases z
mutual
theorem Tu.kt {H H' : Hp} (k : Kt H H') : ∀ {v : V} {d : PyData}, Tu H v d → Tu H' v d
  | _, _, .non => .non
  | _, _, .bl b => .bl b
  | _, _, .int i => .int i
  | _, _, .str z => .str z
  | _, _, .tup h r => .tup (k _ _ h) (TuA.kt k r)
theorem TuA.kt {H H' : Hp} (k : Kt H H') : ∀ {v : List V} {d : List PyData}, TuA H v d → TuA H' v d
  | _, _, .nil => .nil
  | _, _, .cons h t => .cons (Tu.kt k h) (TuA.kt k t)
end
mutual
theorem Tu.dx {S : List Addr} {H : Hp} (hs : ∀ s ∈ S, ∀ xs, H s ≠ some (.tup xs)) : ∀ {v : V} {d : PyData}, Tu H v d → Dx S H v d
  | _, _, .non => .non
  | _, _, .bl b => .bl b
  | _, _, .int i => .int i
  | _, _, .str z => .str z
  | _, _, .tup h r => .tup (fun z => hs _ z _ h) h (TuA.dx hs r)
theorem TuA.dx {S : List Addr} {H : Hp} (hs : ∀ s ∈ S, ∀ xs, H s ≠ some (.tup xs)) : ∀ {v : List V} {d : List PyData}, TuA H v d → DxA S H v d
  | _, _, .nil => .nil
  | _, _, .cons h t => .cons (Tu.dx hs h) (TuA.dx hs t)
end
theorem Tu.dx0 {H : Hp} {v : V} {d : PyData} (h : Tu H v d) : Dx [] H v d := h.dx fun s z => by cases z
theorem TuA.dx0 {H : Hp} {v : List V} {d : List PyData} (h : TuA H v d) : DxA [] H v d := h.dx fun s z => by cases z
mutual
def flatD : PyData → Bool
  | .list _ | .dict _ => false
  | .tuple ds => flatAll ds
  | _ => true
def flatAll : List PyData → Bool
  | [] => true
  | d :: ds => flatD d && flatAll ds
end
mutual
theorem Dx.tu {S : List Addr} {H : Hp} : ∀ {v : V} {d : PyData}, Dx S H v d → flatD d = true → Tu H v d
  | _, _, .non, _ => .non
  | _, _, .bl b, _ => .bl b
  | _, _, .int i, _ => .int i
  | _, _, .str z, _ => .str z
  | _, _, .lst n h r, e => by simp [flatD] at e
  | _, _, .tup n h r, e => .tup h (DxA.tu r (by simpa [flatD] using e))
  | _, _, .dic n h, e => by simp [flatD] at e
theorem DxA.tu {S : List Addr} {H : Hp} : ∀ {v : List V} {d : List PyData}, DxA S H v d → flatAll d = true → TuA H v d
  | _, _, .nil, _ => .nil
  | _, _, @DxA.cons _ _ v vs d ds h t, e => by
    have e2 : flatD d = true ∧ flatAll ds = true := by simpa [flatAll] using e
    exact .cons (Dx.tu h e2.1) (DxA.tu t e2.2)
end
theorem flat_map {α : Type} {f : α → PyData} (h : ∀ a, flatD (f a) = true) : ∀ xs : List α, flatAll (xs.map f) = true
  | [] => rfl
  | x :: r => by
    show (flatD (f x) && flatAll (r.map f)) = true
    rw [h x, flat_map h r]; rfl
theorem flat_lamp (p : Int × Option Nat) : flatD (lampD p) = true := by
  obtain ⟨l, o⟩ := p
  cases o <;> rfl
theorem flat_net (N : Net) : flatD (netD N) = true := by
  show flatAll (N.map lampD) = true
  exact flat_map flat_lamp N
theorem Nw.tu {H H' : Hp} {v : V} {d : PyData} (h : Nw H H' v d) (e : flatD d = true) : Tu H' v d := (h [] fun s z => by cases z).tu e
theorem TuA.len {H : Hp} : ∀ {vs : List V} {ds : List PyData}, TuA H vs ds → vs.length = ds.length
  | _, _, .nil => rfl
  | _, _, .cons _ t => by rw [List.length_cons, List.length_cons, TuA.len t]
theorem TuA.get {H : Hp} : ∀ {vs : List V} {ds : List PyData} {i : Nat} {v : V}, TuA H vs ds → vs[i]? = some v → ∃ d, ds[i]? = some d ∧ Tu H v d
  | _, _, _, _, .nil, h => by cases h
  | _, _, 0, _, .cons a _, h => by cases h; exact ⟨_, rfl, a⟩
  | _, _, i + 1, _, .cons _ t, h => TuA.get (i := i) t (by simpa using h)
theorem TuA.get' {H : Hp} : ∀ {vs : List V} {ds : List PyData} {i : Nat} {d : PyData}, TuA H vs ds → ds[i]? = some d → ∃ v, vs[i]? = some v ∧ Tu H v d
  | _, _, _, _, .nil, h => by cases h
  | _, _, 0, _, .cons a _, h => by cases h; exact ⟨_, rfl, a⟩
  | _, _, i + 1, _, .cons _ t, h => TuA.get' (i := i) t (by simpa using h)
theorem TuA.app {H : Hp} : ∀ {vs ws : List V} {ds es : List PyData}, TuA H vs ds → TuA H ws es → TuA H (vs ++ ws) (ds ++ es)
  | _, _, _, _, .nil, h => h
  | _, _, _, _, .cons a t, h => .cons a (TuA.app t h)
theorem TuA.set {H : Hp} {v : V} {d : PyData} (h : Tu H v d) : ∀ {vs : List V} {ds : List PyData} (i : Nat), TuA H vs ds → TuA H (vs.set i v) (ds.set i d)
  | _, _, _, .nil => .nil
  | _, _, 0, .cons _ t => .cons h t
  | _, _, i + 1, .cons a t => .cons a (TuA.set h i t)
theorem TuA.rep {H : Hp} {v : V} {d : PyData} (h : Tu H v d) : ∀ n, TuA H (List.replicate n v) (List.replicate n d)
  | 0 => .nil
  | n + 1 => .cons h (TuA.rep h n)
theorem TuA.drop {H : Hp} : ∀ {vs : List V} {ds : List PyData} (n : Nat), TuA H vs ds → TuA H (vs.drop n) (ds.drop n)
  | _, _, 0, h => h
  | _, _, _ + 1, .nil => .nil
  | _, _, n + 1, .cons _ t => TuA.drop n t
theorem TuA.take {H : Hp} : ∀ {vs : List V} {ds : List PyData} (n : Nat), TuA H vs ds → TuA H (vs.take n) (ds.take n)
  | _, _, 0, _ => .nil
  | _, _, _ + 1, .nil => .nil
  | _, _, n + 1, .cons a t => .cons a (TuA.take n t)
theorem TuA.nats {H : Hp} : ∀ g : List Nat, TuA H (natV g) (g.map fun n : Nat => PyData.int (n : Int))
  | [] => .nil
  | n :: r => .cons (.int _) (TuA.nats r)
/-- the net's lamps in the heap -/
theorem tnet_at {H : Hp} {v : V} {N : Net} (h : Tu H v (netD N)) : ∃ (a : Addr) (xs : List V), v = .ref a ∧ H a = some (.tup xs) ∧ xs.length = N.length ∧ ∀ (i : Nat) (p : Int × Option Nat), N[i]? = some p → ∃ l, xs[i]? = some (V.ref l) ∧ H l = some (.tup [V.int p.1, nxV p.2]) := by
  obtain ⟨a, xs, e, _, h1, h2, h3⟩ := net_at h.dx0
  exact ⟨a, xs, e, h1, h2, fun i p hp => let ⟨l, q1, _, q2⟩ := h3 i p hp; ⟨l, q1, q2⟩⟩

/-! ### a list of lists of numbers, each its own -/
structure Bag (H : Hp) (c : Addr) (ps : List Addr) (css : List (List Nat)) : Prop where
  top : H c = some (.lst (ps.map V.ref))
  nd : (c :: ps).Nodup
  len : ps.length = css.length
  at_ : ∀ (i : Nat) p g, ps[i]? = some p → css[i]? = some g → H p = some (.lst (natV g))
theorem Bag.kp {S : List Addr} {H H1 : Hp} {c : Addr} {ps : List Addr} {css : List (List Nat)} (b : Bag H c ps css) (k : Kp S H H1) (hc : ∀ x ∈ c :: ps, x ∉ S) : Bag H1 c ps css :=
  ⟨k.lst (hc c List.mem_cons_self) b.top, b.nd, b.len, fun i p g hp hg => k.lst (hc p (List.mem_cons_of_mem _ (List.mem_of_getElem? hp))) (b.at_ i p g hp hg)⟩
theorem Bag.tr {H : Hp} {c : Addr} {ps : List Addr} {css : List (List Nat)} (b : Bag H c ps css) : ∀ x ∈ c :: ps, H x ≠ none := fun x hx => by
  rcases List.mem_cons.mp hx with rfl | hx
  · rw [b.top]; exact fun z => by cases z
  · obtain ⟨i, hi, e⟩ := List.getElem_of_mem hx
    have h1 : ps[i]? = some x := by rw [List.getElem?_eq_getElem hi, e]
    have h2 : css[i]? = some (css[i]'(by rw [← b.len]; exact hi)) := List.getElem?_eq_getElem _
    rw [b.at_ i x _ h1 h2]; exact fun z => by cases z
theorem Bag.ntup {H : Hp} {c : Addr} {ps : List Addr} {css : List (List Nat)} (b : Bag H c ps css) : ∀ x ∈ c :: ps, ∀ xs, H x ≠ some (.tup xs) := fun x hx xs => by
  rcases List.mem_cons.mp hx with rfl | hx
  · rw [b.top]; exact fun z => by cases z
  · obtain ⟨i, hi, e⟩ := List.getElem_of_mem hx
    have h1 : ps[i]? = some x := by rw [List.getElem?_eq_getElem hi, e]
    have h2 : css[i]? = some (css[i]'(by rw [← b.len]; exact hi)) := List.getElem?_eq_getElem _
    rw [b.at_ i x _ h1 h2]; exact fun z => by cases z
theorem Bag.get {H : Hp} {c : Addr} {ps : List Addr} {css : List (List Nat)} (b : Bag H c ps css) {i : Nat} (hi : i < css.length) : ∃ p g, css[i]? = some g ∧ ps[i]? = some p ∧ (ps.map V.ref)[i]? = some (V.ref p) ∧ H p = some (.lst (natV g)) ∧ p ∈ ps := by
  have h1 : ps[i]? = some (ps[i]'(by rw [b.len]; exact hi)) := List.getElem?_eq_getElem _
  have h2 : css[i]? = some css[i] := List.getElem?_eq_getElem hi
  exact ⟨_, _, h2, h1, by rw [List.getElem?_map, h1]; rfl, b.at_ i _ _ h1 h2, List.getElem_mem _⟩
theorem nodup_get {α : Type} {l : List α} (h : l.Nodup) {i j : Nat} {x : α} (hi : l[i]? = some x) (hj : l[j]? = some x) : i = j := by
  exact (List.getElem?_inj (List.getElem?_eq_some_iff.mp hi).1 h).mp (hi.trans hj.symm)
theorem Bag.put {H : Hp} {c : Addr} {ps : List Addr} {css : List (List Nat)} (b : Bag H c ps css) {i : Nat} {p : Addr} (hp : ps[i]? = some p) (g : List Nat) : Bag (upd H p (.lst (natV g))) c ps (css.set i g) := by
  have hcp : c ≠ p := fun e => (List.nodup_cons.mp b.nd).1 (e ▸ List.mem_of_getElem? hp)
  refine ⟨by rw [upd_ne hcp]; exact b.top, b.nd, by rw [List.length_set]; exact b.len, fun j q u hq hu => ?_⟩
  by_cases e : j = i
  · subst e
    rw [hp] at hq
    cases hq
    rw [List.getElem?_set_self (by have := (List.getElem?_eq_some_iff.mp hp).1; have := b.len; omega)] at hu
    cases hu
    exact upd_same
  · rw [List.getElem?_set_ne (fun z => e z.symm)] at hu
    have hqp : q ≠ p := fun z => e (nodup_get (List.nodup_cons.mp b.nd).2 (z ▸ hq) hp)
    rw [upd_ne hqp]
    exact b.at_ j q u hq hu
/-- one more list, empty -/
theorem Bag.more {H : Hp} {c : Addr} {ps : List Addr} {css : List (List Nat)} (b : Bag H c ps css) {p : Addr} (np : H p = none) : Bag (upd (upd H p (.lst [])) c (.lst (ps.map V.ref ++ [.ref p]))) c (ps ++ [p]) (css ++ [[]]) := by
  have hpc : ∀ x ∈ c :: ps, x ≠ p := fun x hx e => b.tr x hx (e ▸ np)
  refine ⟨by rw [upd_same, List.map_append]; rfl, ?_, by rw [List.length_append, List.length_append, b.len]; rfl, fun i q g hq hg => ?_⟩
  · rw [← List.cons_append, List.nodup_append]
    exact ⟨b.nd, by simp, fun x hx y hy => by rw [List.mem_singleton.mp hy]; exact hpc x hx⟩
  · have hqc : q ≠ c := fun e => by
      rcases List.mem_append.mp (List.mem_of_getElem? hq) with z | z
      · exact (List.nodup_cons.mp b.nd).1 (e ▸ z)
      · exact hpc c List.mem_cons_self (e ▸ List.mem_singleton.mp z)
    rw [upd_ne hqc]
    by_cases hi : i < ps.length
    · rw [List.getElem?_append_left hi] at hq
      rw [List.getElem?_append_left (by rw [← b.len]; exact hi)] at hg
      rw [upd_ne (hpc q (List.mem_cons_of_mem _ (List.mem_of_getElem? hq)))]
      exact b.at_ i q g hq hg
    · have e : i = ps.length := by
        have := (List.getElem?_eq_some_iff.mp hq).1
        rw [List.length_append] at this
        simp at this
        omega
      subst e
      rw [List.getElem?_append_right (Nat.le_refl _), Nat.sub_self] at hq
      rw [b.len, List.getElem?_append_right (Nat.le_refl _), Nat.sub_self] at hg
      cases hq
      cases hg
      exact upd_same
theorem natV_map (g : List Nat) : natV g = (g.map fun n : Nat => (n : Int)).map V.int := by unfold natV; rw [List.map_map]; rfl

/-! ### no part longer than 100,000 -/
mutual
def wdB : PyData → Bool
  | .list ds | .tuple ds => decide (ds.length < 100000) && wdAll ds
  | _ => true
def wdAll : List PyData → Bool
  | [] => true
  | d :: ds => wdB d && wdAll ds
end
theorem wd_len : 100000 < sizeLine := by rw [sizeLine_eq]; decide
theorem wd_mem {d : PyData} : ∀ {ds : List PyData}, wdAll ds = true → d ∈ ds → wdB d = true
  | [], _, h => by cases h
  | e :: ds, h, hm => by
    have h2 : wdB e = true ∧ wdAll ds = true := by simpa [wdAll] using h
    rcases List.mem_cons.mp hm with rfl | hm
    · exact h2.1
    · exact wd_mem h2.2 hm
theorem wd_map {α : Type} {f : α → PyData} (h : ∀ a, wdB (f a) = true) : ∀ xs : List α, wdAll (xs.map f) = true
  | [] => rfl
  | x :: r => by
    show (wdB (f x) && wdAll (r.map f)) = true
    rw [h x, wd_map h r]; rfl
theorem wd_list {ds : List PyData} (h : ds.length < 100000) (h2 : wdAll ds = true) : wdB (.list ds) = true := by
  show (decide _ && wdAll ds) = true
  rw [decide_eq_true h, h2]; rfl

/-! ### sorted numbers -/
def srt (g : List Nat) : List Nat := g.mergeSort
theorem srt_perm (g : List Nat) : (srt g).Perm g := List.mergeSort_perm g _
theorem srt_up (g : List Nat) : (srt g).Pairwise (· ≤ ·) := by
  have := List.pairwise_mergeSort (le := fun a b : Nat => decide (a ≤ b)) (fun a b c h1 h2 => by simp at *; omega) (fun a b => by simp; omega) g
  exact this.imp fun h => by simpa using h
theorem perm_up : ∀ {l m : List Int}, l.Perm m → l.Pairwise (· ≤ ·) → m.Pairwise (· ≤ ·) → l = m
  | [], m, h, _, _ => by rw [List.nil_perm.mp h]
  | a :: l, m, h, h1, h2 => by
    cases m with
    | nil => exact absurd h.length_eq (by simp)
    | cons b m =>
      have e : a = b := by
        have q1 : b ∈ a :: l := h.mem_iff.mpr List.mem_cons_self
        have q2 : a ∈ b :: m := h.mem_iff.mp List.mem_cons_self
        have r1 : a ≤ b := by
          rcases List.mem_cons.mp q1 with z | z
          · omega
          · exact (List.pairwise_cons.mp h1).1 b z
        have r2 : b ≤ a := by
          rcases List.mem_cons.mp q2 with z | z
          · omega
          · exact (List.pairwise_cons.mp h2).1 a z
        omega
      subst e
      rw [perm_up (List.Perm.cons_inv h) (List.pairwise_cons.mp h1).2 (List.pairwise_cons.mp h2).2]
theorem srt_of {g : List Nat} {ns : List Int} (h : ns.Perm (g.map fun n : Nat => (n : Int))) (h2 : ns.Pairwise (· ≤ ·)) : ns = (srt g).map fun n : Nat => (n : Int) :=
  perm_up (h.trans ((srt_perm g).symm.map _)) h2 (by
    rw [List.pairwise_map]
    exact (srt_up g).imp fun h => by omega)
theorem srt_len (g : List Nat) : (srt g).length = g.length := (srt_perm g).length_eq
end Em

namespace Em
open PySem PySem.Spec PyProof.Rows L2 Qt
open AutoSeq1 (wpAny_loadPart')

/-! ### zip of two tuples -/
theorem walk_zipT {K : PySem.W.Frag} {a b : Addr} {xs ys : List V} {m : Nat} (hm : m = min xs.length ys.length) :
    Walk (RZ.ItzT K a b) m (fun H => SqT K H a xs ∧ SqT K H b ys) (YPair (fun i => xs[i]?) fun i => ys[i]?) where
  goes i H hi g := by
    have c1 : i < xs.length := by omega
    have c2 : i < ys.length := by omega
    exact ⟨xs, ys, xs[i], ys[i], g.1, g.2, List.getElem?_eq_getElem c1, List.getElem?_eq_getElem c2⟩
  stops H g := ⟨xs, ys, g.1, g.2, by omega⟩
  yields i H v H' hi g y := by
    obtain ⟨T, x, z, e1, e2, e3, e4, e5⟩ := y
    exact ⟨T, x, z, e1, e2, e3, e4 xs g.1, e5 ys g.2⟩

/-- (a, b, ..) = t within a comprehension, the written part told -/
theorem pg_tupK {X : Cx} {K : PySem.W.Frag} (e : X.K = K) {es : List Expr} {k : Nat} {t : TGs} {n : Nat} {pos : Pos} (hc : X.calm = true) (h : PGs X es t)
    (hn : (assignEach es X.env).length = n := by rfl) (hst : (assignEach es X.env).findIdx? (·.1) = none := by rfl) : PG X (.Tuple es k pos) (gTup K n t) := e ▸ pg_tup hc h hn hst

/-! ### enumerate of a tuple -/
def tIter (l : Addr) : Obj := { cls := .type "tuple_iterator", data := .fields #[.ref l, .int 0 0] }
def tEnum (it : Addr) : Obj := { cls := .type "enumerate", data := .fields #[.none, .bool false, .ref it, rawInt 0, .none, .none] }
theorem enumT_new (l : Addr) (vs : Array Value) (n : Nat) (dd : Option Addr) (sl : Array (Option Value)) :
    Meets (Builtin.«enumerate.__new__» ⟨[.type "enumerate", .ref l], []⟩) (fun _ R s => s.heap.get? l = some { cls := .type "tuple", dict := dd, data := .seq vs n, slots := sl } ∧
      R (.ok (.ret (.ref (s.heap.push (tIter l)).objs.size))) { s with heap := (s.heap.push (tIter l)).push (tEnum s.heap.objs.size) }) :=
  .of_wp fun prog w A R s h => by
    obtain ⟨H0, g0, d0, tk0, os0⟩ := s
    obtain ⟨hl, hR⟩ := h
    have hsub := sub_enumerate
    have hT : Heap.IsTuple (Shared.heap ⟨H0, g0, d0, tk0, os0⟩) l vs := ⟨_, hl, rfl, n, rfl⟩
    wp_walk using wpAny_loadPart' hl
    refine wpAny_stack_any fun st => wpAny_pure ?_
    split
    · rename_i c _ _ _ _ _
      cases (c == Value.type "enumerate") <;> (wp_walk using wpAny_loadPart' hl, wpAny_pyIter_tuple hT; exact ⟨_, rfl, hR⟩)
    · (wp_walk using wpAny_loadPart' hl, wpAny_pyIter_tuple hT)
      exact ⟨_, rfl, hR⟩
section
variable {P : Program} {w : World} {A : Around} {E : Value → Shared → Prop} {s : Shared}
theorem call_enumT {l : Addr} {vs : Array Value} {Q : Value → Shared → Prop} (hT : s.heap.IsTuple l vs)
    (q : ∀ g : Heap, IsEnum g (s.heap.objs.size + 1) s.heap.objs.size 0 .none → g.IsTupleIter s.heap.objs.size l 0 → (∀ b o, s.heap.get? b = some o → g.get? b = some o) → Q (.ref (s.heap.objs.size + 1)) { s with heap := g }) :
    wpAny (model P w) A (call (.type "enumerate") [.ref l]) Q E s := by
  obtain ⟨⟨c, dd, dt, sl⟩, hl, hc, n, hd⟩ := hT
  obtain rfl : c = .type "tuple" := hc
  obtain rfl : dt = .seq vs n := hd
  refine callType_new F.called_enumerate (by decide) (F.typeCall_enumerate_1 _) (F.newCall_enumerate_1 _)
    (fun obj => F.args_object_init_2 obj _) F.entry_enumerate_new (enumT_new l vs n dd sl) ⟨hl, ?_⟩
  have z1 : (s.heap.push (tIter l)).objs.size = s.heap.objs.size + 1 := Heap.size_push ..
  have he : ((s.heap.push (tIter l)).push (tEnum s.heap.objs.size)).get? (s.heap.objs.size + 1) = some (tEnum s.heap.objs.size) := by
    have e := Heap.get?_push_size (s.heap.push (tIter l)) (o := tEnum s.heap.objs.size) rfl
    rwa [z1] at e
  show _ ∧ _
  rw [z1]
  refine ⟨⟨_, he, rfl⟩, q _ he ?_ fun b o x => Heap.get?_push_of_some _ (Heap.get?_push_of_some _ x)⟩
  exact ⟨tIter l, Heap.get?_push_of_some _ (Heap.get?_push_size _ rfl), rfl, rfl⟩
end
/-- the tuple at a, each item in a new pair with its number -/
def IteT (K : PySem.W.Frag) (a : Addr) : It :=
  ⟨fun i H => ∃ (xs : List V) (x : V), SqT K H a xs ∧ xs[i]? = some x,
    fun i H v H' => ∃ T x, v = .ref T ∧ H T = none ∧ H' = upd H T (.tup [.int (i : Nat), x]) ∧ ∀ xs, SqT K H a xs → xs[i]? = some x,
    fun i H => ∃ xs : List V, SqT K H a xs ∧ xs.length = i⟩
theorem turn_enumT {P : Program} {w : World} {K : PySem.W.Frag} {elts : List Expr} {kk : Nat} {tpos : Pos} (a e it : Addr) :
    Turn P w K (.Tuple elts kk tpos) (IteT K a) [e, it] e (fun i h => (∃ old, IsEnum h e it ((i : Nat) : Int) old) ∧ h.IsTupleIter it a i ∧ e ≠ it ∧ a ≠ it ∧ a ≠ e) where
  mem := by simp
  obj := fun i h st b hb => by
    obtain ⟨⟨old, he⟩, ⟨o, ho, hc, hd⟩, _⟩ := st
    have hb2 : b = e ∨ b = it := by simpa using hb
    rcases hb2 with z | z <;> rw [z]
    · exact ⟨_, he, fun v q => nomatch q⟩
    · exact ⟨o, ho, fun v q => by rw [hd] at q; cases q⟩
  keep := fun i h h' st k => by
    obtain ⟨⟨old, he⟩, hi, hne⟩ := st
    exact ⟨⟨old, k e (by simp) _ he⟩, hi.at fun o q => k it (by simp) o q, hne⟩
  item := by
    intro X hP hw hK hc i pins s σ H E I hf st hg
    subst hP hw hK
    obtain ⟨⟨old, he⟩, hit, hne, hai, hae⟩ := st
    obtain ⟨xs, x, hq, hx⟩ := hg
    obtain ⟨its, rv, tp, hz⟩ := I.tuple hq
    obtain ⟨u, hu, ru⟩ := rv.get hx
    have le : e < s.heap.objs.size := Heap.lt_size he
    have li : it < s.heap.objs.size := let ⟨_, q, _⟩ := hit; Heap.lt_size q
    have hlt : i < its.toArray.size := by have := (List.getElem?_eq_some_iff.mp hu).1; simpa using this
    have hin : e ∉ [it, a] := by simp [hne, Ne.symm hae]
    refine wpAny_pyNext_enum_itemD (Draws.tuple (A := X.A.in1) (I.ok.hd hc) it a hai its.toArray) he ⟨hit, show s.heap.IsTuple a its.toArray from tp⟩ hlt hne hin fun y g tk hy ho hst hT hsz hk => ?_
    obtain rfl : y = u := by
      have hy2 : its.toArray[i]? = some y := hy
      rw [show its.toArray[i]? = its[i]? by simp, hu] at hy2
      exact (Option.some.inj hy2).symm
    refine ⟨_, rfl, wpAny_letOwnedTupleGo_enum (s := { s with heap := g, toks := tk + 1 }) ho fun g2 he2 sb => ?_⟩
    have hT2 : g2.get? s.heap.objs.size = some { cls := .type "tuple", data := .seq #[.int i tk, y] } := (sb.2 _ (Nat.ne_of_gt le)).trans hT
    have nw : ObjOk X.prog X.w (upd H s.heap.objs.size (.tup [.int (i : Nat), x])) g2 s.heap.objs.size (.tup [.int (i : Nat), x]) :=
      ⟨(by show 2 ≤ sizeLine; decide), [.int i tk, y], .cons ⟨_, rfl⟩ (.cons ru .nil), ⟨_, hT2, rfl, _, rfl⟩⟩
    have I1 : Inv X pins σ (upd H s.heap.objs.size (.tup [.int (i : Nat), x])) { s with heap := g2, toks := tk + 1 } :=
      I.turnedNew (ch := [e, it]) (fun b ob hb q => by
        have n1 : b ≠ e := fun z => hb (by simp [z])
        have n2 : b ≠ it := fun z => hb (by simp [z])
        exact (sb.2 b n1).trans (hk b ob n1 n2 q)) hf (Nat.le_refl _) nw
    refine ⟨.ref s.heap.objs.size, _, I1, rfl, ⟨_, x, rfl, I.hok.fresh (Nat.le_refl _), rfl, fun ys hy => by rw [I.tuple_inj hy hq]; exact hx⟩, ⟨⟨y, ?_⟩, hst.1.at fun o q => (sb.2 it (Ne.symm hne)).trans q, hne, hai, hae⟩, fun b hb => ?_⟩
    · rw [show ((i + 1 : Nat) : Int) = (i : Int) + 1 by omega]
      exact he2
    · have hb2 : b = e ∨ b = it := by simpa using hb
      have hb3 : b < s.heap.objs.size := by rcases hb2 with z | z <;> rw [z] <;> assumption
      rw [upd_ne (Nat.ne_of_lt hb3)]
      exact (hf b hb).1
  done := by
    intro X hP hw hK hc i pins s σ H E I hf st hg
    subst hP hw hK
    obtain ⟨⟨old, he⟩, hit, hne, hai, hae⟩ := st
    obtain ⟨xs, hq, hx⟩ := hg
    obtain ⟨its, rv, tp, hz⟩ := I.tuple hq
    obtain ⟨f0, f1, f2, f3, f4, f5⟩ := hf it (by simp)
    have hl := rv.length
    have hTT : s.heap.IsTuple a its.toArray := tp
    have en : i = its.toArray.size := by rw [List.size_toArray]; omega
    refine wpAny_pyNext_enum_endD (Draws.tuple (A := X.A.in1) (I.ok.hd hc) it a hai its.toArray) he ⟨en ▸ hit, hTT⟩ fun g eb => ?_
    exact ⟨rfl, I.turned (t' := s.toks) (fun b o hb q => eb b o hb q) f0 f1 f3 f4 f5⟩
  self := fun A i s Q E st h => let ⟨⟨_, he⟩, _⟩ := st; wpAny_pyIter_enum he h
def iEnumT (K : PySem.W.Frag) (ta : TA) : TI := fun σ H R => ta σ H fun us H1 => ∃ a xs, us = [.ref a] ∧ SqT K H1 a xs ∧ R (IteT K a) H1
theorem pi_enumT {X : Cx} {e : Expr} {ta : TA} {p pos tpos : Pos} {elts : List Expr} {kk : Nat} (hg : Gl X "enumerate") (hm : X.mg "enumerate" = none) (ha : PA X [e] ta)
    (hs : starEach [e] X.env = [(false, eval e X.env)] := by rfl) : PI X (.Tuple elts kk tpos) (.Call (.Name "enumerate" p) [e] [] pos) (iEnumT X.K ta) := by
  refine ⟨fun pins s σ H R I h => Call_ (ld_blt I hg hm boot_enumerate (PyProof.Rows.callWith_type1 (thn (ha.run pos pins s σ H _ I h) fun us s1 ⟨vs, H1, I1, r1, q1⟩ => ?_) hs rfl))⟩
  obtain ⟨a, xs, rfl, hq, q⟩ := q1
  obtain ⟨u1, rfl, ru⟩ := vals1 r1
  cases ru
  obtain ⟨its, rv, tp, hz⟩ := I1.tuple hq
  have la : a < s1.heap.objs.size := by
    obtain ⟨o, ho, _⟩ := id tp
    exact Heap.lt_size ho
  refine call_enumT (show s1.heap.IsTuple a its.toArray from tp) fun g he hit hk => wpAny_pyIter_enum he ?_
  have I2 : Inv X pins σ H1 { s1 with heap := g } := I1.kept (t' := s1.toks) hk
  refine ⟨s1.heap.objs.size + 1, [s1.heap.objs.size + 1, s1.heap.objs.size], _, _, H1, rfl, I2, turn_enumT a (s1.heap.objs.size + 1) s1.heap.objs.size,
    ⟨⟨.none, he⟩, hit, Nat.succ_ne_self _, Nat.ne_of_lt la, Nat.ne_of_lt (Nat.lt_succ_of_lt la)⟩, fun b hb => ?_, q⟩
  have hb2 : b = s1.heap.objs.size + 1 ∨ b = s1.heap.objs.size := by simpa using hb
  have hle : s1.heap.objs.size ≤ b := by
    rcases hb2 with z | z <;> rw [z]
    · exact Nat.le_add_right _ _
    · exact Nat.le_refl _
  exact I1.fpOk hle (I1.hok.fresh hle)
theorem walk_enumT {K : PySem.W.Frag} {a : Addr} {xs : List V} : Walk (IteT K a) xs.length (fun H => SqT K H a xs) (YPair (fun i => some (.int (i : Nat))) fun i => xs[i]?) where
  goes i H hi g := ⟨xs, xs[i], g, List.getElem?_eq_getElem hi⟩
  stops H g := ⟨xs, g, rfl⟩
  yields i H v H' hi g y := by
    obtain ⟨T, x, e1, e2, e3, e4⟩ := y
    exact ⟨T, .int (i : Nat), x, e1, e2, e3, rfl, e4 xs g⟩
end Em

namespace Em
open PySem PySem.Spec PyProof.Rows L2 Qt

/-! ### a beat of the walk -/
/-- how long a lamp burns -/
def burnOf (N : Net) (x : Nat) : Int := (N.getD x (1, none)).1
theorem burnOf_get {N : Net} {x : Nat} {p : Int × Option Nat} (h : N[x]? = some p) : burnOf N x = p.1 := by
  unfold burnOf
  rw [List.getD_eq_getElem?_getD, h]
  rfl
abbrev Lt := Option (Nat × Nat)
inductive Row where
  | ended (b k f : Nat)
  | lit (b k f : Nat)
  | lost (b k f g : Nat)
def rowD : Row → PyData
  | .ended b k f => .tuple [.str "ended", .int b, .int k, .int f]
  | .lit b k f => .tuple [.str "lit", .int b, .int k, .int f]
  | .lost b k f g => .tuple [.str "lost", .int b, .int k, .int f, .int g]
def Row.at_ : Row → Nat
  | .ended b _ _ | .lit b _ _ | .lost b _ _ _ => b
def lightD : Lt → PyData
  | none => .none
  | some (f, t) => .tuple [.int f, .int t]
def waitD (p : Nat × Nat) : PyData := .tuple [.int p.1, .int p.2]
structure Dk where
  L : List Lt
  css : List (List Nat)
  rows : List Row
def darkK (N : Net) (b k : Nat) (s : Dk) : Dk :=
  match s.L.getD k none with
  | none => s
  | some (f, t) => if (b : Int) < (t : Int) + burnOf N k then s else
    match nxt N k with
    | none => ⟨s.L.set k none, s.css, s.rows ++ [.ended b k f]⟩
    | some y => ⟨s.L.set k none, s.css.set y (s.css.getD y [] ++ [f]), s.rows⟩
def darkN (N : Net) (b : Nat) : Nat → Dk → Dk
  | 0, s => s
  | k + 1, s => darkK N b k (darkN N b k s)
def addK (css : List (List Nat)) (p : Nat × Nat) : List (List Nat) := css.set p.2 (css.getD p.2 [] ++ [p.1])
def addW (css : List (List Nat)) (W : List (Nat × Nat)) : List (List Nat) := W.foldl addK css
def meet (b k : Nat) : Lt → List Nat → Lt × List Row
  | some (g, t), fs => (some (g, t), fs.map fun f => .lost b k f g)
  | none, [] => (none, [])
  | none, f :: r => (some (f, b), .lit b k f :: r.map fun g => .lost b k g f)
structure Ms where
  L : List Lt
  rows : List Row
def meetK (b : Nat) (css : List (List Nat)) (k : Nat) (s : Ms) : Ms :=
  ⟨s.L.set k (meet b k (s.L.getD k none) (srt (css.getD k []))).1, s.rows ++ (meet b k (s.L.getD k none) (srt (css.getD k []))).2⟩
def meetN (b : Nat) (css : List (List Nat)) : Nat → Ms → Ms
  | 0, s => s
  | k + 1, s => meetK b css k (meetN b css k s)
def darkA (N : Net) (b : Nat) (L : List Lt) : Dk := darkN N b N.length ⟨L, List.replicate N.length [], []⟩
def beatA (N : Net) (b : Nat) (L : List Lt) (W : List (Nat × Nat)) : Ms :=
  meetN b (addW (darkA N b L).css W) N.length ⟨(darkA N b L).L, (darkA N b L).rows⟩

/-! ### sizes -/
def tot (css : List (List Nat)) : Nat := (css.map List.length).sum
theorem tot_mem {css : List (List Nat)} {g : List Nat} (h : g ∈ css) : g.length ≤ tot css := by
  induction css with
  | nil => cases h
  | cons c r ih =>
    show g.length ≤ c.length + tot r
    rcases List.mem_cons.mp h with rfl | h
    · exact Nat.le_add_right _ _
    · exact Nat.le_trans (ih h) (Nat.le_add_left _ _)
theorem tot_put (css : List (List Nat)) (k f : Nat) : tot (css.set k (css.getD k [] ++ [f])) ≤ tot css + 1 := by
  induction css generalizing k with
  | nil => exact Nat.zero_le _
  | cons c r ih =>
    cases k with
    | zero =>
      show (c ++ [f]).length + tot r ≤ c.length + tot r + 1
      rw [List.length_append]
      simp
      omega
    | succ k =>
      have := ih k
      show c.length + tot (r.set k (r.getD k [] ++ [f])) ≤ c.length + tot r + 1
      omega
theorem tot_rep (n : Nat) : tot (List.replicate n []) = 0 := by
  unfold tot
  rw [List.map_replicate, List.sum_replicate_nat]
  simp
theorem darkK_len (N : Net) (b k : Nat) (s : Dk) : (darkK N b k s).L.length = s.L.length ∧ (darkK N b k s).css.length = s.css.length ∧ (darkK N b k s).rows.length + tot (darkK N b k s).css ≤ s.rows.length + tot s.css + 1 := by
  unfold darkK
  split
  · exact ⟨rfl, rfl, Nat.le_succ _⟩
  · rename_i f t _
    split
    · exact ⟨rfl, rfl, Nat.le_succ _⟩
    · split
      · refine ⟨List.length_set, rfl, ?_⟩
        show (s.rows ++ [_]).length + _ ≤ _
        rw [List.length_append]
        simp
        omega
      · rename_i y _
        have := tot_put s.css y f
        exact ⟨List.length_set, List.length_set, by show s.rows.length + tot (s.css.set y (s.css.getD y [] ++ [f])) ≤ _; omega⟩
theorem darkN_len (N : Net) (b : Nat) (s : Dk) : ∀ k, (darkN N b k s).L.length = s.L.length ∧ (darkN N b k s).css.length = s.css.length ∧ (darkN N b k s).rows.length + tot (darkN N b k s).css ≤ s.rows.length + tot s.css + k
  | 0 => ⟨rfl, rfl, Nat.le_refl _⟩
  | k + 1 => by
    obtain ⟨a1, a2, a3⟩ := darkN_len N b s k
    obtain ⟨b1, b2, b3⟩ := darkK_len N b k (darkN N b k s)
    exact ⟨b1.trans a1, b2.trans a2, by show _ ≤ _; exact Nat.le_trans b3 (by omega)⟩
theorem darkN_step (N : Net) (b : Nat) (s : Dk) (k : Nat) : (darkN N b k s).rows.length + tot (darkN N b k s).css ≤ s.rows.length + tot s.css + k := (darkN_len N b s k).2.2
theorem addW_len (W : List (Nat × Nat)) : ∀ css : List (List Nat), (addW css W).length = css.length ∧ tot (addW css W) ≤ tot css + W.length := by
  induction W with
  | nil => exact fun css => ⟨rfl, Nat.le_refl _⟩
  | cons p r ih =>
    intro css
    obtain ⟨a1, a2⟩ := ih (addK css p)
    have h1 : (addK css p).length = css.length := List.length_set
    have h2 := tot_put css p.2 p.1
    refine ⟨a1.trans h1, ?_⟩
    show tot (addW (addK css p) r) ≤ _
    have h3 : tot (addK css p) ≤ tot css + 1 := h2
    rw [List.length_cons]
    omega
theorem addW_more (css : List (List Nat)) (W : List (Nat × Nat)) (p : Nat × Nat) : addW css (W ++ [p]) = addK (addW css W) p := by
  unfold addW
  rw [List.foldl_append]
  rfl
theorem meet_len (b k : Nat) (l : Lt) (fs : List Nat) : (meet b k l fs).2.length = fs.length := by
  cases l with
  | some p => simp [meet]
  | none => cases fs <;> simp [meet]
theorem meetK_len (b : Nat) (css : List (List Nat)) (k : Nat) (s : Ms) : (meetK b css k s).L.length = s.L.length ∧ (meetK b css k s).rows.length = s.rows.length + (css.getD k []).length := by
  refine ⟨List.length_set, ?_⟩
  show (s.rows ++ (meet b k (s.L.getD k none) (srt (css.getD k []))).2).length = _
  rw [List.length_append, meet_len, srt_len]
theorem meetN_len (b : Nat) (css : List (List Nat)) (s : Ms) : ∀ k, (meetN b css k s).L.length = s.L.length ∧ (meetN b css k s).rows.length ≤ s.rows.length + tot (css.take k)
  | 0 => ⟨rfl, Nat.le_add_right _ _⟩
  | k + 1 => by
    obtain ⟨a1, a2⟩ := meetN_len b css s k
    obtain ⟨b1, b2⟩ := meetK_len b css k (meetN b css k s)
    refine ⟨b1.trans a1, ?_⟩
    show (meetK b css k (meetN b css k s)).rows.length ≤ _
    rw [b2]
    by_cases hk : k < css.length
    · have e : tot (css.take (k + 1)) = tot (css.take k) + (css.getD k []).length := by
        rw [List.take_add_one, List.getElem?_eq_getElem hk]
        unfold tot
        rw [List.map_append, List.sum_append, List.getD_eq_getElem?_getD, List.getElem?_eq_getElem hk]
        simp
      omega
    · have e1 : css.getD k [] = [] := by rw [List.getD_eq_getElem?_getD, List.getElem?_eq_none (by omega)]; rfl
      have e2 : css.take (k + 1) = css.take k := by rw [List.take_of_length_le (by omega), List.take_of_length_le (by omega)]
      rw [e1, e2]
      simpa using a2
theorem tot_take (css : List (List Nat)) (k : Nat) : tot (css.take k) ≤ tot css := by
  have e : tot css = tot (css.take k) + tot (css.drop k) := by
    unfold tot
    rw [← List.sum_append, ← List.map_append, List.take_append_drop]
  omega
theorem darkA_len {N : Net} {b : Nat} {L : List Lt} (h : L.length = N.length) : (darkA N b L).L.length = N.length ∧ (darkA N b L).css.length = N.length ∧ (darkA N b L).rows.length + tot (darkA N b L).css ≤ N.length := by
  obtain ⟨a1, a2, a3⟩ := darkN_len N b ⟨L, List.replicate N.length [], []⟩ N.length
  refine ⟨a1.trans h, a2.trans (List.length_replicate), ?_⟩
  have e : ([] : List Row).length + tot (List.replicate N.length []) + N.length = N.length := by rw [tot_rep]; simp
  exact Nat.le_trans a3 (Nat.le_of_eq e)
theorem beatA_len {N : Net} {b : Nat} {L : List Lt} {W : List (Nat × Nat)} (h : L.length = N.length) : (beatA N b L W).L.length = N.length ∧ (beatA N b L W).rows.length ≤ N.length + W.length := by
  obtain ⟨a1, a2, a3⟩ := darkA_len (b := b) h
  obtain ⟨b1, b2⟩ := addW_len W (darkA N b L).css
  obtain ⟨c1, c2⟩ := meetN_len b (addW (darkA N b L).css W) ⟨(darkA N b L).L, (darkA N b L).rows⟩ N.length
  refine ⟨c1.trans a1, Nat.le_trans c2 ?_⟩
  have := tot_take (addW (darkA N b L).css W) N.length
  show (darkA N b L).rows.length + _ ≤ _
  omega
/-! ### the rows of a beat are of that beat -/
theorem darkN_at (N : Net) (b : Nat) (s : Dk) (h : ∀ r ∈ s.rows, r.at_ = b) : ∀ k, ∀ r ∈ (darkN N b k s).rows, r.at_ = b
  | 0 => h
  | k + 1 => by
    intro r hr
    have ih := darkN_at N b s h k
    have hr2 : r ∈ (darkK N b k (darkN N b k s)).rows := hr
    unfold darkK at hr2
    split at hr2
    · exact ih r hr2
    · split at hr2
      · exact ih r hr2
      · split at hr2
        · rcases List.mem_append.mp hr2 with z | z
          · exact ih r z
          · rw [List.mem_singleton.mp z]; rfl
        · exact ih r hr2
theorem meet_at (b k : Nat) (l : Lt) (fs : List Nat) : ∀ r ∈ (meet b k l fs).2, r.at_ = b := by
  intro r hr
  cases l with
  | some p =>
    obtain ⟨f, _, rfl⟩ := List.mem_map.mp (show r ∈ fs.map _ from hr)
    rfl
  | none =>
    cases fs with
    | nil => cases hr
    | cons f g =>
      rcases List.mem_cons.mp (show r ∈ Row.lit b k f :: g.map _ from hr) with rfl | z
      · rfl
      · obtain ⟨f, _, rfl⟩ := List.mem_map.mp z
        rfl
theorem meetN_at (b : Nat) (css : List (List Nat)) (s : Ms) (h : ∀ r ∈ s.rows, r.at_ = b) : ∀ k, ∀ r ∈ (meetN b css k s).rows, r.at_ = b
  | 0 => h
  | k + 1 => by
    intro r hr
    rcases List.mem_append.mp (show r ∈ (meetN b css k s).rows ++ _ from hr) with z | z
    · exact meetN_at b css s h k r z
    · exact meet_at b k _ _ r z
theorem beatA_at (N : Net) (b : Nat) (L : List Lt) (W : List (Nat × Nat)) : ∀ r ∈ (beatA N b L W).rows, r.at_ = b :=
  meetN_at b _ _ (darkN_at N b _ (fun r hr => by cases hr) _) _
/-! ### what burns was lit, and is not over -/
def Fresh (N : Net) (b : Nat) (L : List Lt) : Prop := ∀ k f t, L[k]? = some (some (f, t)) → t < b ∧ (b : Int) ≤ (t : Int) + burnOf N k
end Em

namespace Em
open PySem PySem.Spec PyProof.Rows L2 Qt

/-! ### an Embers' fields -/
def emF (v : V) (b n : Int) (w l r : Addr) : List (Str × V) := [("_net", v), ("_beat", .int b), ("_flames", .int n), ("_waiting", .ref w), ("_lights", .ref l), ("_rows", .ref r)]
section
variable {v : V} {b n : Int} {w l r : Addr}
theorem em_ne : (("_net" : Str) == "_beat") = false ∧ (("_net" : Str) == "_flames") = false ∧ (("_net" : Str) == "_waiting") = false ∧ (("_net" : Str) == "_lights") = false ∧ (("_net" : Str) == "_rows") = false ∧
    (("_beat" : Str) == "_flames") = false ∧ (("_beat" : Str) == "_waiting") = false ∧ (("_beat" : Str) == "_lights") = false ∧ (("_beat" : Str) == "_rows") = false ∧
    (("_flames" : Str) == "_waiting") = false ∧ (("_flames" : Str) == "_lights") = false ∧ (("_flames" : Str) == "_rows") = false ∧
    (("_waiting" : Str) == "_lights") = false ∧ (("_waiting" : Str) == "_rows") = false ∧ (("_lights" : Str) == "_rows") = false := by decide +kernel
theorem look_c {α : Type} {x y : Str} {v : α} {r : List (Str × α)} (h : (y == x) = false) : List.lookup x ((y, v) :: r) = List.lookup x r := by
  have h2 : (x == y) = false := by
    have : y ≠ x := by simpa using h
    simpa using this.symm
  show (match x == y with | true => some v | false => List.lookup x r) = _
  rw [h2]
theorem look_h {α : Type} {x : Str} {v : α} {r : List (Str × α)} : List.lookup x ((x, v) :: r) = some v := by
  show (match x == x with | true => some v | false => List.lookup x r) = _
  rw [beq_self_eq_true]
theorem em_net : (emF v b n w l r).lookup ("_net" : Str) = some v := look_h
theorem em_beat : (emF v b n w l r).lookup ("_beat" : Str) = some (.int b) := (look_c (by decide +kernel)).trans look_h
theorem em_flames : (emF v b n w l r).lookup ("_flames" : Str) = some (.int n) := (look_c (by decide +kernel)).trans ((look_c (by decide +kernel)).trans look_h)
theorem em_waiting : (emF v b n w l r).lookup ("_waiting" : Str) = some (.ref w) := (look_c (by decide +kernel)).trans ((look_c (by decide +kernel)).trans ((look_c (by decide +kernel)).trans look_h))
theorem em_lights : (emF v b n w l r).lookup ("_lights" : Str) = some (.ref l) := (look_c (by decide +kernel)).trans ((look_c (by decide +kernel)).trans ((look_c (by decide +kernel)).trans ((look_c (by decide +kernel)).trans look_h)))
theorem em_rows : (emF v b n w l r).lookup ("_rows" : Str) = some (.ref r) := (look_c (by decide +kernel)).trans ((look_c (by decide +kernel)).trans ((look_c (by decide +kernel)).trans ((look_c (by decide +kernel)).trans ((look_c (by decide +kernel)).trans look_h))))
theorem em_no {m : Str} (h : m ∉ (["_net", "_beat", "_flames", "_waiting", "_lights", "_rows"] : List Str)) : (emF v b n w l r).lookup m = none := by
  simp only [List.mem_cons, List.not_mem_nil, or_false, not_or] at h
  obtain ⟨h1, h2, h3, h4, h5, h6⟩ := h
  have f : ∀ {x : Str}, m ≠ x → (x == m) = false := fun {x} e => by simpa using fun z => e z.symm
  unfold emF
  rw [look_c (f h1), look_c (f h2), look_c (f h3), look_c (f h4), look_c (f h5), look_c (f h6)]
  rfl
theorem putF_c {x y : Str} {v u : V} {r : List (Str × V)} (h : ¬ y = x) : putF x v ((y, u) :: r) = (y, u) :: putF x v r := by
  rw [putF]
  exact if_neg h
theorem putF_h {x : Str} {v u : V} {r : List (Str × V)} : putF x v ((x, u) :: r) = (x, v) :: r := by
  rw [putF]
  exact if_pos rfl
theorem pl {x : Str} {v : V} : ∀ {r : List (Str × V)} {k : Nat}, r.length ≤ k → (putF x v r).length ≤ k + 1
  | [], k, _ => Nat.succ_le_succ (Nat.zero_le _)
  | (y, u) :: r, 0, h => absurd h (Nat.not_succ_le_zero _)
  | (y, u) :: r, k + 1, h => by
    rw [putF]
    split
    · exact Nat.le_succ_of_le h
    · exact Nat.succ_le_succ (pl (Nat.le_of_succ_le_succ h))
theorem putF_n {x : Str} {v : V} : putF x v [] = [(x, v)] := rfl
theorem em_putBeat {y : Int} : putF "_beat" (.int y) (emF v b n w l r) = emF v y n w l r := by
  unfold emF
  rw [putF_c (by decide +kernel), putF_h]
theorem em_putFlames {y : Int} : putF "_flames" (.int y) (emF v b n w l r) = emF v b y w l r := by
  unfold emF
  rw [putF_c (by decide +kernel), putF_c (by decide +kernel), putF_h]
theorem em_putWaiting {y : Addr} : putF "_waiting" (.ref y) (emF v b n w l r) = emF v b n y l r := by
  unfold emF
  rw [putF_c (by decide +kernel), putF_c (by decide +kernel), putF_c (by decide +kernel), putF_h]
theorem em_new : putF "_rows" (.ref r) (putF "_lights" (.ref l) (putF "_waiting" (.ref w) (putF "_flames" (.int n) (putF "_beat" (.int b) (putF "_net" v []))))) = emF v b n w l r := by
  have p2 : putF "_beat" (.int b) (putF "_net" v []) = ([("_net", v), ("_beat", .int b)] : List (Str × V)) := by rw [putF_n, putF_c (by decide +kernel), putF_n]
  have p3 : putF "_flames" (.int n) ([("_net", v), ("_beat", .int b)] : List (Str × V)) = ([("_net", v), ("_beat", .int b), ("_flames", .int n)] : List (Str × V)) := by rw [putF_c (by decide +kernel), putF_c (by decide +kernel), putF_n]
  have p4 : putF "_waiting" (.ref w) ([("_net", v), ("_beat", .int b), ("_flames", .int n)] : List (Str × V)) = ([("_net", v), ("_beat", .int b), ("_flames", .int n), ("_waiting", .ref w)] : List (Str × V)) := by
    rw [putF_c (by decide +kernel), putF_c (by decide +kernel), putF_c (by decide +kernel), putF_n]
  have p5 : putF "_lights" (.ref l) ([("_net", v), ("_beat", .int b), ("_flames", .int n), ("_waiting", .ref w)] : List (Str × V)) = ([("_net", v), ("_beat", .int b), ("_flames", .int n), ("_waiting", .ref w), ("_lights", .ref l)] : List (Str × V)) := by
    rw [putF_c (by decide +kernel), putF_c (by decide +kernel), putF_c (by decide +kernel), putF_c (by decide +kernel), putF_n]
  rw [p2, p3, p4, p5, putF_c (by decide +kernel), putF_c (by decide +kernel), putF_c (by decide +kernel), putF_c (by decide +kernel), putF_c (by decide +kernel), putF_n]
  rfl
end
/-- a test's way -/
theorem condT {A B : Bool → Hp → Prop} {H : Hp} (h : A true H) : (fun (b : Bool) (H1 : Hp) => if b = true then A b H1 else B b H1) true H := by
  show (if true = true then _ else B true H)
  rw [if_pos rfl]; exact h
theorem condF {A B : Bool → Hp → Prop} {H : Hp} (h : B false H) : (fun (b : Bool) (H1 : Hp) => if b = true then A b H1 else B b H1) false H := by
  show (if false = true then A false H else _)
  rw [if_neg Bool.false_ne_true]; exact h
/-- a def with defaults, its body -/
theorem okKw {P : Program} {w : World} {K : PySem.W.Frag} {mg : Str → Option Value} {base : Heap} {x qual : Str} {st : Stmt} {dvs : List V} {kws : List (Str × V)} {f : Addr} {fd : FuncData} {N ps : List Str} {k : Nat} {sp : Sp}
    (F : FunD K x qual (defArgs st) (defBody st) (defScope st) dvs kws f fd) (S : FnScope N ps (defScope st)) (len : ∀ vs H Q E, sp vs H Q E → vs.length = ps.length)
    (hb : ∀ (cdv : Value) (A : Around) (outer : List Env) (s : Shared) (H : Hp) (vs : List V) (Q : VK) (E : XK), Room k (A.deeper (envOfC qual (defScope st) s.heap.objs.size f cdv)) → sp vs H Q E →
      ∃ t, PSs (cxOf CX0 P w K mg base N qual (defScope st) f cdv A outer s H E).nox (defBody st) t ∧ t { nx := fun _ H' => Q .non H', rt := Q } (start N vs) H) : FnOk P w K mg base CX0 (k + 1) f fd ps sp :=
  F.ok S len fun cdv A outer s H vs Q E hr h => let ⟨t, h1, q⟩ := hb cdv A outer s H vs Q E hr h; ⟨t, h1.nox, q⟩
/-- what an Embers has come to -/
structure EmS where
  N : Net
  b : Nat
  n : Nat
  W : List (Nat × Nat)
  L : List Lt
  R : List Row
structure Emb (C : Addr) (H : Hp) (e w l r : Addr) (s : EmS) : Prop where
  ex : ∃ (dx : Addr) (v : V), H e = some (.ins C dx (emF v s.b s.n w l r)) ∧ Tu H v (netD s.N)
  wt : ∃ ws, H w = some (.lst ws) ∧ TuA H ws (s.W.map waitD)
  lt : ∃ ls, H l = some (.lst ls) ∧ TuA H ls (s.L.map lightD)
  rw : ∃ rs, H r = some (.lst rs) ∧ TuA H rs (s.R.map rowD)
  nd : w ≠ l ∧ w ≠ r ∧ l ≠ r
  ok : NetOk s.N
  ln : s.L.length = s.N.length
  wk : ∀ p ∈ s.W, p.2 < s.N.length
theorem Emb.kp {C : Addr} {H H1 : Hp} {e w l r : Addr} {s : EmS} {S : List Addr} (h : Emb C H e w l r s) (k : Kp S H H1) (t : Kt H H1) (hS : ∀ x ∈ [e, w, l, r], x ∉ S) : Emb C H1 e w l r s := by
  obtain ⟨⟨dx, v, h1, h2⟩, ⟨ws, h3, h4⟩, ⟨ls, h5, h6⟩, ⟨rs, h7, h8⟩, nd, ok, ln, wk⟩ := h
  simp only [List.mem_cons, List.not_mem_nil, or_false, forall_eq_or_imp, forall_eq] at hS
  obtain ⟨n1, n2, n3, n4⟩ := hS
  exact ⟨⟨dx, v, k.ins n1 h1, h2.kt t⟩, ⟨ws, k.lst n2 h3, h4.kt t⟩, ⟨ls, k.lst n3 h5, h6.kt t⟩, ⟨rs, k.lst n4 h7, h8.kt t⟩, nd, ok, ln, wk⟩
theorem Emb.tr {C : Addr} {H : Hp} {e w l r : Addr} {s : EmS} (h : Emb C H e w l r s) : ∀ x ∈ [e, w, l, r], H x ≠ none := by
  obtain ⟨⟨dx, v, h1, h2⟩, ⟨ws, h3, h4⟩, ⟨ls, h5, h6⟩, ⟨rs, h7, h8⟩, _⟩ := h
  simp only [List.mem_cons, List.not_mem_nil, or_false, forall_eq_or_imp, forall_eq]
  refine ⟨?_, ?_, ?_, ?_⟩
  · rw [h1]; exact fun z => by cases z
  · rw [h3]; exact fun z => by cases z
  · rw [h5]; exact fun z => by cases z
  · rw [h7]; exact fun z => by cases z
theorem Emb.nt {C : Addr} {H : Hp} {e w l r : Addr} {s : EmS} (h : Emb C H e w l r s) : ∀ x ∈ [e, w, l, r], ∀ xs, H x ≠ some (.tup xs) := by
  obtain ⟨⟨dx, v, h1, h2⟩, ⟨ws, h3, h4⟩, ⟨ls, h5, h6⟩, ⟨rs, h7, h8⟩, _⟩ := h
  simp only [List.mem_cons, List.not_mem_nil, or_false, forall_eq_or_imp, forall_eq]
  refine ⟨fun xs => ?_, fun xs => ?_, fun xs => ?_, fun xs => ?_⟩
  · rw [h1]; exact fun z => by cases z
  · rw [h3]; exact fun z => by cases z
  · rw [h5]; exact fun z => by cases z
  · rw [h7]; exact fun z => by cases z
/-- one beat gone -/
def EmS.go (s : EmS) : EmS := { s with b := s.b + 1, W := [], L := (beatA s.N s.b s.L s.W).L }
def EmS.rows (s : EmS) : List Row := (beatA s.N s.b s.L s.W).rows
/-- so many beats gone, what happened so far apart -/
def EmS.goN (s : EmS) : Nat → EmS × List Row
  | 0 => (s, [])
  | k + 1 => ((s.goN k).1.go, (s.goN k).2 ++ (s.goN k).1.rows)
theorem getD_some {L : List Lt} {k : Nat} {x : Lt} (h : L[k]? = some x) : L.getD k none = x := by
  rw [List.getD_eq_getElem?_getD, h]; rfl
theorem getD_css {css : List (List Nat)} {k : Nat} {g : List Nat} (h : css[k]? = some g) : css.getD k [] = g := by
  rw [List.getD_eq_getElem?_getD, h]; rfl
/-- a light in the heap -/
theorem light_at {H : Hp} {v : V} {x : Lt} (h : Tu H v (lightD x)) : (x = none ∧ v = .non) ∨ ∃ f t a, x = some (f, t) ∧ v = .ref a ∧ H a = some (.tup [.int (f : Nat), .int (t : Nat)]) := by
  cases x with
  | none =>
    cases h
    exact .inl ⟨rfl, rfl⟩
  | some p =>
    obtain ⟨f, t⟩ := p
    cases h with
    | @tup a xs ds h r =>
      cases r with
      | cons r1 r =>
        cases r1
        cases r with
        | cons r2 r =>
          cases r2
          cases r
          exact .inr ⟨f, t, a, rfl, rfl, h⟩
theorem wait_at {H : Hp} {v : V} {p : Nat × Nat} (h : Tu H v (waitD p)) : ∃ a, v = .ref a ∧ H a = some (.tup [.int (p.1 : Nat), .int (p.2 : Nat)]) := by
  cases h with
  | @tup a xs ds h r =>
    cases r with
    | cons r1 r =>
      cases r1
      cases r with
      | cons r2 r =>
        cases r2
        cases r
        exact ⟨a, rfl, h⟩
end Em

namespace Em
open PySem PySem.Spec PyProof.Rows L2 Qt

/-! ### new lists in a list -/
structure BagNew (H : Hp) (c : Addr) (ps : List Addr) (j : Nat) (H' : Hp) : Prop where
  bag : Bag H' c ps (List.replicate j [])
  new : ∀ x ∈ c :: ps, H x = none
  kp : Kp [] H H'
theorem BagNew.start {H : Hp} {c : Addr} (nc : H c = none) : BagNew H c [] 0 (upd H c (.lst [])) :=
  ⟨⟨upd_same, by simp, rfl, fun i p g hp => by simp at hp⟩, fun x hx => by rw [List.mem_singleton.mp hx]; exact nc, Kp.new nc⟩
theorem BagNew.step {H H' : Hp} {c q : Addr} {ps : List Addr} {j : Nat} (h : BagNew H c ps j H') (nq : H' q = none) :
    (upd H' q (.lst [])) c = some (.lst (ps.map V.ref)) ∧ BagNew H c (ps ++ [q]) (j + 1) (upd (upd H' q (.lst [])) c (.lst (ps.map V.ref ++ [.ref q]))) := by
  have kq : Kp [] H' (upd H' q (.lst [])) := Kp.new nq
  have hc := kq.lst (by simp) h.bag.top
  have nc := h.new c List.mem_cons_self
  refine ⟨hc, ?_, fun x hx => ?_, ?_⟩
  · rw [List.replicate_succ']
    exact h.bag.more nq
  · rcases List.mem_cons.mp hx with z | z
    · rw [z]; exact nc
    · rcases List.mem_append.mp z with z | z
      · exact h.new x (List.mem_cons_of_mem _ z)
      · rw [List.mem_singleton.mp z]
        cases y : H q with
        | none => rfl
        | some o => exact absurd nq (h.kp.tr_ q (by rw [y]; exact fun y => by cases y))
  · exact Kp.drop nc ((h.kp.tr kq).of0.tr (Kp.put (S := [c]) (by simp) hc fun ps z => by cases z))

/-! ### the law's own walk: what burns, and since how many beats -/
def burnD (c : Int) : Lt → PyData
  | none => .none
  | some (f, t) => .tuple [.int f, .int (c - t)]
theorem burn_at {H : Hp} {v : V} {c : Int} {x : Lt} (h : Tu H v (burnD c x)) : (x = none ∧ v = .non) ∨ ∃ f t a, x = some (f, t) ∧ v = .ref a ∧ H a = some (.tup [.int (f : Nat), .int (c - (t : Nat))]) := by
  cases x with
  | none =>
    cases h
    exact .inl ⟨rfl, rfl⟩
  | some p =>
    obtain ⟨f, t⟩ := p
    cases h with
    | @tup a xs ds h r =>
      cases r with
      | cons r1 r =>
        cases r1
        cases r with
        | cons r2 r =>
          cases r2
          cases r
          exact .inr ⟨f, t, a, rfl, rfl, h⟩
/-- the first k of it at the clock c, the others a beat ago -/
def mixD (c : Int) (k : Nat) (L : List Lt) : List PyData := (List.range L.length).map fun i => burnD (if i < k then c else c - 1) (L.getD i none)
theorem mixD_len (c : Int) (k : Nat) (L : List Lt) : (mixD c k L).length = L.length := by unfold mixD; rw [List.length_map, List.length_range]
theorem mixD_get {c : Int} {k i : Nat} {L : List Lt} {x : Lt} (h : L[i]? = some x) : (mixD c k L)[i]? = some (burnD (if i < k then c else c - 1) x) := by
  have hi := (List.getElem?_eq_some_iff.mp h).1
  unfold mixD
  rw [List.getElem?_map, List.getElem?_range hi]
  show some (burnD _ (L.getD i none)) = _
  rw [getD_some h]
theorem mixD_zero (c : Int) (L : List Lt) : mixD c 0 L = L.map (burnD (c - 1)) := by
  refine List.ext_getElem? fun i => ?_
  cases h : L[i]? with
  | none => rw [List.getElem?_map, h, List.getElem?_eq_none (by rw [mixD_len]; exact List.getElem?_eq_none_iff.mp h)]; rfl
  | some x => rw [mixD_get h, List.getElem?_map, h]; rfl
theorem mixD_all (c : Int) (L : List Lt) : mixD c L.length L = L.map (burnD c) := by
  refine List.ext_getElem? fun i => ?_
  cases h : L[i]? with
  | none => rw [List.getElem?_map, h, List.getElem?_eq_none (by rw [mixD_len]; exact List.getElem?_eq_none_iff.mp h)]; rfl
  | some x =>
    rw [mixD_get h, List.getElem?_map, h, if_pos (List.getElem?_eq_some_iff.mp h).1]; rfl
theorem mixD_set {c : Int} {k : Nat} {L : List Lt} (hk : k < L.length) (x : Lt) : mixD c (k + 1) (L.set k x) = (mixD c k L).set k (burnD c x) := by
  refine List.ext_getElem? fun i => ?_
  by_cases e : i = k
  · subst e
    rw [mixD_get (List.getElem?_set_self hk), if_pos (Nat.lt_succ_self _), List.getElem?_set_self (by rw [mixD_len]; exact hk)]
  · rw [List.getElem?_set_ne (fun z => e z.symm)]
    cases h : L[i]? with
    | none =>
      have := List.getElem?_eq_none_iff.mp h
      rw [List.getElem?_eq_none (by rw [mixD_len, List.length_set]; exact this), List.getElem?_eq_none (by rw [mixD_len]; exact this)]
    | some y =>
      rw [mixD_get h, mixD_get (by rw [List.getElem?_set_ne (fun z => e z.symm)]; exact h)]
      congr 1
      by_cases h1 : i < k
      · rw [if_pos h1, if_pos (by omega)]
      · rw [if_neg h1, if_neg (by omega)]
theorem set_self {L : List Lt} {k : Nat} {x : Lt} (h : L[k]? = some x) : L.set k x = L := by
  obtain ⟨hk, rfl⟩ := List.getElem?_eq_some_iff.mp h
  exact List.set_getElem_self hk
theorem mixD_same {c : Int} {k : Nat} {L : List Lt} {x : Lt} (h : L[k]? = some x) : mixD c (k + 1) L = (mixD c k L).set k (burnD c x) := by
  have := mixD_set (c := c) (List.getElem?_eq_some_iff.mp h).1 x
  rwa [set_self h] at this
theorem mixD_none {c : Int} {k : Nat} {L : List Lt} (h : L[k]? = some none) : mixD c (k + 1) L = mixD c k L := by
  rw [mixD_same h]
  refine List.ext_getElem? fun i => ?_
  by_cases e : i = k
  · subst e
    rw [List.getElem?_set_self (by rw [mixD_len]; exact (List.getElem?_eq_some_iff.mp h).1), mixD_get h]
    rfl
  · rw [List.getElem?_set_ne (fun z => e z.symm)]
/-! a flame more comes -/
theorem meet_snoc (b k f : Nat) (l : Lt) (fs : List Nat) : meet b k l (fs ++ [f]) = match (meet b k l fs).1 with
    | none => (some (f, b), (meet b k l fs).2 ++ [.lit b k f])
    | some (g, t) => (some (g, t), (meet b k l fs).2 ++ [.lost b k f g]) := by
  cases l with
  | some p =>
    obtain ⟨g, t⟩ := p
    show (some (g, t), (fs ++ [f]).map _) = _
    rw [List.map_append]
    rfl
  | none =>
    cases fs with
    | nil => rfl
    | cons h r =>
      show (some (h, b), Row.lit b k h :: (r ++ [f]).map _) = _
      rw [List.map_append]
      rfl
theorem meetN_pre (b : Nat) (css : List (List Nat)) (L : List Lt) (R0 : List Em.Row) : ∀ k, (meetN b css k ⟨L, R0⟩).L = (meetN b css k ⟨L, []⟩).L ∧ (meetN b css k ⟨L, R0⟩).rows = R0 ++ (meetN b css k ⟨L, []⟩).rows
  | 0 => ⟨rfl, (List.append_nil _).symm⟩
  | k + 1 => by
    obtain ⟨a1, a2⟩ := meetN_pre b css L R0 k
    refine ⟨?_, ?_⟩
    · show (meetK b css k _).L = (meetK b css k _).L
      unfold meetK
      rw [a1]
    · show (meetK b css k _).rows = R0 ++ (meetK b css k _).rows
      unfold meetK
      rw [a1, a2, List.append_assoc]
/-! ### the walk -/
def numW : Nat → List Nat → List (Nat × Nat)
  | _, [] => []
  | m, k :: g => (m, k) :: numW (m + 1) g
theorem numW_len : ∀ (m : Nat) (g : List Nat), (numW m g).length = g.length
  | _, [] => rfl
  | m, k :: g => by show _ + 1 = _ + 1; rw [numW_len]
theorem numW_take : ∀ (m : Nat) (g : List Nat) (j : Nat) (k : Nat), g[j]? = some k → numW m (g.take (j + 1)) = numW m (g.take j) ++ [(m + j, k)]
  | m, [], j, k, h => by cases h
  | m, x :: g, 0, k, h => by cases h; rfl
  | m, x :: g, j + 1, k, h => by
    have := numW_take (m + 1) g j k (by simpa using h)
    show (m, x) :: numW (m + 1) (g.take (j + 1)) = (m, x) :: numW (m + 1) (g.take j) ++ _
    rw [this, show m + 1 + j = m + (j + 1) by omega]
    rfl
theorem numW_mem : ∀ (m : Nat) (g : List Nat) (p : Nat × Nat), p ∈ numW m g → p.2 ∈ g
  | m, x :: g, p, h => by
    rcases List.mem_cons.mp (show p ∈ (m, x) :: numW (m + 1) g from h) with rfl | h
    · exact List.mem_cons_self
    · exact List.mem_cons_of_mem _ (numW_mem (m + 1) g p h)
structure Wk where
  L : List Lt
  rows : List Em.Row
  many : Nat
  stands : List (List Lt)
def wk (N : Net) (css : List (List Nat)) : Nat → Wk
  | 0 => ⟨List.replicate N.length none, [], 0, []⟩
  | b + 1 =>
    let s := wk N css b
    let B := beatA N b s.L (numW s.many (css.getD b []))
    ⟨B.L, s.rows ++ B.rows, s.many + (css.getD b []).length, s.stands ++ [B.L]⟩
theorem wk_len {N : Net} {css : List (List Nat)} : ∀ b, (wk N css b).L.length = N.length ∧ (wk N css b).rows.length ≤ N.length * b + tot (css.take b) ∧ (wk N css b).many = tot (css.take b)
  | 0 => ⟨List.length_replicate, Nat.zero_le _, rfl⟩
  | b + 1 => by
    obtain ⟨a1, a2, a3⟩ := wk_len (N := N) (css := css) b
    obtain ⟨b1, b2⟩ := beatA_len (b := b) (W := numW (wk N css b).many (css.getD b [])) a1
    have e : tot (css.take (b + 1)) = tot (css.take b) + (css.getD b []).length := by
      by_cases hk : b < css.length
      · rw [List.take_add_one, List.getElem?_eq_getElem hk]
        unfold tot
        rw [List.map_append, List.sum_append, List.getD_eq_getElem?_getD, List.getElem?_eq_getElem hk]
        simp
      · rw [show css.getD b [] = [] by rw [List.getD_eq_getElem?_getD, List.getElem?_eq_none (by omega)]; rfl, List.take_of_length_le (by omega), List.take_of_length_le (by omega)]
        rfl
    refine ⟨b1, ?_, ?_⟩
    · show ((wk N css b).rows ++ _).length ≤ _
      rw [numW_len] at b2
      rw [List.length_append, Nat.mul_succ]
      omega
    · show (wk N css b).many + _ = _
      omega
theorem wk_stands {N : Net} {css : List (List Nat)} : ∀ b, (wk N css b).stands.length = b ∧ ∀ i, i < b → (wk N css b).stands[i]? = some (wk N css (i + 1)).L
  | 0 => ⟨rfl, fun i h => absurd h (Nat.not_lt_zero _)⟩
  | b + 1 => by
    obtain ⟨a1, a2⟩ := wk_stands (N := N) (css := css) b
    refine ⟨by show ((wk N css b).stands ++ [_]).length = _; rw [List.length_append, a1]; rfl, fun i h => ?_⟩
    show ((wk N css b).stands ++ [_])[i]? = _
    by_cases e : i < b
    · rw [List.getElem?_append_left (by omega)]
      exact a2 i e
    · obtain rfl : i = b := by omega
      rw [List.getElem?_append_right (by omega), a1, Nat.sub_self]
      rfl
theorem wk_at {N : Net} {css : List (List Nat)} : ∀ b, ∀ r ∈ (wk N css b).rows, r.at_ < b
  | 0 => fun r h => by cases h
  | b + 1 => fun r h => by
    rcases List.mem_append.mp (show r ∈ (wk N css b).rows ++ _ from h) with z | z
    · exact Nat.lt_succ_of_lt (wk_at b r z)
    · rw [beatA_at _ _ _ _ r z]
      exact Nat.lt_succ_self _
/-- what happens at a beat of it -/
def wkB (N : Net) (css : List (List Nat)) (b : Nat) : List Em.Row := (beatA N b (wk N css b).L (numW (wk N css b).many (css.getD b []))).rows
theorem wk_filter {N : Net} {css : List (List Nat)} {b : Nat} : ∀ n, b < n → (wk N css n).rows.filter (fun r => decide (r.at_ = b)) = wkB N css b
  | 0, h => absurd h (Nat.not_lt_zero _)
  | n + 1, h => by
    show ((wk N css n).rows ++ wkB N css n).filter _ = _
    rw [List.filter_append]
    have hn : ∀ r ∈ wkB N css n, r.at_ = n := beatA_at _ _ _ _
    by_cases e : b = n
    · subst e
      rw [List.filter_eq_nil_iff.mpr (fun r hr => by have := wk_at b r hr; simp; omega), List.filter_eq_self.mpr (fun r hr => by simp [hn r hr])]
      rfl
    · rw [wk_filter n (by omega), List.filter_eq_nil_iff.mpr (fun r hr => by rw [hn r hr]; simp; omega), List.append_nil]
/-! what burns is not over -/
theorem darkK_get {N : Net} {b k i : Nat} {s : Dk} {f t : Nat} (h : (darkK N b k s).L[i]? = some (some (f, t))) : s.L[i]? = some (some (f, t)) ∧ (i = k → (b : Int) < (t : Int) + burnOf N k) := by
  unfold darkK at h
  split at h
  · rename_i hn
    refine ⟨h, fun e => ?_⟩
    subst e
    rw [getD_some h] at hn
    cases hn
  · rename_i f' t' hn
    have key : ∀ L', L' = s.L.set k none → L'[i]? = some (some (f, t)) → s.L[i]? = some (some (f, t)) ∧ (i = k → (b : Int) < (t : Int) + burnOf N k) := fun L' e hL => by
      by_cases hk : i = k
      · subst hk
        rw [e] at hL
        by_cases hl : i < s.L.length
        · rw [List.getElem?_set_self hl] at hL; cases hL
        · rw [List.getElem?_eq_none (by rw [List.length_set]; omega)] at hL; cases hL
      · rw [e, List.getElem?_set_ne (fun z => hk z.symm)] at hL
        exact ⟨hL, fun z => absurd z hk⟩
    split at h
    · rename_i hc
      refine ⟨h, fun e => ?_⟩
      subst e
      rw [getD_some h] at hn
      cases hn
      exact hc
    · split at h
      · exact key _ rfl h
      · exact key _ rfl h
theorem darkN_get {N : Net} {b i : Nat} {s : Dk} {f t : Nat} : ∀ k, (darkN N b k s).L[i]? = some (some (f, t)) → s.L[i]? = some (some (f, t)) ∧ (i < k → (b : Int) < (t : Int) + burnOf N i)
  | 0, h => ⟨h, fun z => absurd z (Nat.not_lt_zero _)⟩
  | k + 1, h => by
    obtain ⟨a1, a2⟩ := darkK_get (show (darkK N b k (darkN N b k s)).L[i]? = _ from h)
    obtain ⟨b1, b2⟩ := darkN_get k a1
    refine ⟨b1, fun hi => ?_⟩
    by_cases e : i = k
    · subst e; exact a2 rfl
    · exact b2 (by omega)
theorem meetN_get {b i : Nat} {css : List (List Nat)} {s : Ms} {f t : Nat} : ∀ k, (meetN b css k s).L[i]? = some (some (f, t)) → s.L[i]? = some (some (f, t)) ∨ t = b
  | 0, h => .inl h
  | k + 1, h => by
    have h2 : ((meetN b css k s).L.set k _)[i]? = _ := h
    by_cases e : i = k
    · subst e
      by_cases hl : i < (meetN b css i s).L.length
      · rw [List.getElem?_set_self hl] at h2
        have h3 := Option.some.inj h2
        obtain ⟨x, hx⟩ : ∃ x, (meetN b css i s).L[i]? = some x := ⟨_, List.getElem?_eq_getElem hl⟩
        rw [getD_some hx] at h3
        cases x with
        | none =>
          generalize srt (css.getD i []) = fs at h3
          cases fs with
          | nil => cases h3
          | cons g r =>
            cases h3
            exact .inr rfl
        | some p =>
          obtain ⟨g, u⟩ := p
          cases h3
          exact meetN_get i hx
      · rw [List.getElem?_eq_none (by rw [List.length_set]; omega)] at h2; cases h2
    · rw [List.getElem?_set_ne (fun z => e z.symm)] at h2
      exact meetN_get k h2
theorem beat_fresh {N : Net} {b : Nat} {L : List Lt} {W : List (Nat × Nat)} (ok : NetOk N) (hl : L.length = N.length) (h : Fresh N b L) : Fresh N (b + 1) (beatA N b L W).L := by
  intro k f t hk
  have hkN : k < N.length := by
    have := (List.getElem?_eq_some_iff.mp hk).1
    rw [(beatA_len hl).1] at this
    exact this
  have hp := List.getElem?_eq_getElem hkN
  have h1 : 1 ≤ burnOf N k := by rw [burnOf_get hp]; exact ok.len _ (List.getElem_mem hkN)
  rcases meetN_get _ hk with z | z
  · obtain ⟨a1, a2⟩ := darkN_get _ (show (darkN N b N.length ⟨L, List.replicate N.length [], []⟩).L[k]? = some (some (f, t)) from z)
    have := h k f t a1
    have := a2 hkN
    omega
  · subst z
    omega
theorem wk_fresh {N : Net} {css : List (List Nat)} (ok : NetOk N) : ∀ b, Fresh N b (wk N css b).L
  | 0 => fun k f t h => by
    rw [show (wk N css 0).L = List.replicate N.length none from rfl] at h
    rw [List.getElem?_replicate] at h
    split at h <;> cases h
  | b + 1 => beat_fresh ok (wk_len b).1 (wk_fresh ok b)
/-- what burnt behind each beat -/
def Stood (H : Hp) (S : List Addr) (N : Net) (css : List (List Nat)) (n : Nat) (ys : List V) : Prop := ys.length = n ∧ ∀ j, j < n → ∃ (q : Addr) (bs : List V), ys[j]? = some (.ref q) ∧ q ∉ S ∧ H q = some (.lst bs) ∧ TuA H bs ((wk N css (j + 1)).L.map (burnD (j : Nat)))
theorem Stood.kp {H H' : Hp} {S S' : List Addr} {N : Net} {css : List (List Nat)} {n : Nat} {ys : List V} (h : Stood H S N css n ys) (k : Kp S' H H') (t : Kt H H') (hs : ∀ x ∈ S', x ∈ S ∨ H x = none) : Stood H' S N css n ys := by
  refine ⟨h.1, fun j hj => ?_⟩
  obtain ⟨q, bs, a1, a2, a3, a4⟩ := h.2 j hj
  refine ⟨q, bs, a1, a2, k.lst (fun z => ?_) a3, a4.kt t⟩
  rcases hs q z with y | y
  · exact a2 y
  · rw [y] at a3; cases a3
end Em

namespace Qt
open PySem PySem.Spec PyProof.Rows L2

/-! ### t[i] of a tuple, quiet -/
theorem q_ixT {c : Qc} {k : Nat} {env : Env} {N : Nm} {a b : Expr} {pos : Pos} {p : Addr} {xs : List V} {j : Nat} {v : V} (ha : QE c k env N a (.ref p)) (hb : QE c k env N b (.int j)) (ht : TupQ c p xs) (hx : xs[j]? = some v)
    (hs : PlainIx b := by intro _ _; rfl) : QE c k env N (.Subscript a b pos) v := by
  intro A E Q s r i h
  refine Subscript_ (ha A E _ s r i fun u g tk ru up => hb A E _ _ r (i.more up) fun u2 g2 tk2 r2 up2 => ?_)
  cases ru
  obtain ⟨t, rfl⟩ := r2
  obtain ⟨its, rv, hT, hz⟩ := ht
  obtain ⟨w, hw, rw_⟩ := rv.get hx
  have hup := i.up.tr (up.tr up2)
  have hT2 := isTup_up hup hT
  have hl := rv.length
  have hj := (List.getElem?_eq_some_iff.mp hx).1
  have hn := line63
  have fin : Q w { s with heap := g2, toks := tk2 } := h w g2 tk2 rw_ (up.tr up2)
  have e1 : seqIndex? (j : Int) its.toArray.size = some j := by
    rw [seqIndex_of (by omega) (by rw [List.size_toArray]; omega)]
    rfl
  exact subscriptTail_builtinR (x := w) hT2.typeIs slot_tuple_getitem.lookup
    (getItem_tuple (j := j) (Q := fun r s' => r = w ∧ Q r s') hT2 (by omega) (by omega) e1 (by simpa using hw) ⟨rfl, fin⟩) (hs _ _)

section
variable {X : Cx} {pins : List (Addr × Obj)} {σ : L2.St} {H : Hp} {s : Shared}
/-- what the element of a generator expression is, for the item xv: any value -/
def EltV (X : Cx) (kk : Nat) (scope : Scope) (x : Str) (elt : Expr) (caps : Nm) (Hw : Hp) (xs : List V) (bs : List V) : Prop :=
  bs.length = xs.length ∧ ∀ (hd : Heap) (env : Env), (Qc.mk X.prog X.w X.K X.mg Hw hd).Ok → env.scope = scope → ∀ (j : Nat) (xv : V) (b : V), xs[j]? = some xv → bs[j]? = some b → QE ⟨X.prog, X.w, X.K, X.mg, Hw, hd⟩ kk env ((x, xv) :: caps) elt b
/-- the generator g is made, to be gone through -/
def MadeV (X : Cx) (pins : List (Addr × Obj)) (σ : L2.St) (H1 : Hp) (P : Addr) (xs : List V) (bs : List V) (g : Addr) (s5 : Shared) : Prop :=
  ∃ (fp wr : List Addr) (G : Array GenState → Array GenState → Prop) (F : Nat → Value → Prop) (St : Nat → Shared → Prop),
    WalksS X.prog X.w X.A.in1 g fp wr G bs.length F St ∧ St 0 s5 ∧ (∀ i y, F i y → ∃ b, bs[i]? = some b ∧ RelV b y) ∧ (∀ z ∈ fp, z < s5.heap.objs.size) ∧ ∀ s', Moved wr G s5 s' → ∃ H2, GxR.Tabbed P H1 H2 ∧ Inv X pins σ H2 s'

theorem gen_madeV {c P : Addr} {elt iter : Expr} {x : Str} {px gpos : Pos} {scope : Scope} {te : TE} {k : Nat} {Z : Value → Shared → Prop} {R : List V → List V → Hp → Prop}
    (rm : Room (k + 2) X.A) (TB : GxR.TabB X.base X.mg c P) (hcode : X.env.code = .ref c) (GS : GxR.GenS X.env scope x) (hi : PE X iter te)
    (hs : ∀ v, genFold iter X.env v = pure v) (I : Inv X pins σ H s)
    (h : te σ H fun v H1 => ∃ (ad : Addr) (xs : List V) (bs : List V) (caps : Nm), v = .ref ad ∧ (SqT X.K H1 ad xs ∨ SqL X.K H1 ad xs) ∧ GxR.TabG H1 P ∧ Caps X scope x σ caps ∧ EltV X (3 * k) scope x elt caps (wipe H1 P) xs bs ∧ R xs bs H1)
    (hZ : ∀ xs bs H1 g s5, R xs bs H1 → MadeV X pins σ H1 P xs bs g s5 → Z (.ref g) s5) :
    wpAny (model X.prog X.w) X.A (eval (.GeneratorExp elt [⟨.Name x px, iter, [], 0⟩] scope gpos) X.env) Z X.xe s := by
  have hdp := rm.dp
  refine wpAny_GeneratorExp_walksQD rm.hd GS.co (closure_ok GS.free) GS.cell GS.dot GS.loc GS.kind rm.depth ?_ hs
  refine thn (hi.run pins s σ H _ I h) fun xv s1 hx => ?_
  obtain ⟨v, H1, I1, r1, ad, xs, bs, caps, ev, hsq, ⟨ps, hP, htr⟩, hcap, hel, hR⟩ := hx
  subst ev
  obtain rfl : xv = Value.ref ad := r1
  obtain ⟨its, o, St, rv, S, hno⟩ := seq_src I1 hsq
  have hlen : its.length = xs.length := rv.length.symm
  have hPs : s1.heap.get? P = some { cls := .none, data := .fields ps } := I1.hok P _ hP
  have hPlt : P < s1.heap.objs.size := Heap.lt_size hPs
  have adP : ad ≠ P := by
    rintro rfl
    rcases hsq with hq | hq
    · obtain ⟨_, _, ⟨ob, e, ec, _⟩, _⟩ := I1.tuple hq
      rw [hPs] at e
      cases e
      cases ec
    · obtain ⟨_, _, hl, _⟩ := I1.list hq
      obtain ⟨ob, _, e, ec, _⟩ := id hl
      rw [hPs] at e
      cases e
      cases ec
  refine S.iter _ _ _ _ rfl ?_
  have push_ok : ∀ b u, s1.heap.get? b = some u → (s1.heap.push o).get? b = some u := fun b u e => Heap.get?_push_of_some _ e
  have hPo := push_ok P _ hPs
  have lim2 : (s1.heap.push o).NoLimit := I1.nolimit.push o
  have cd : PySem.W.CodeHd (s1.heap.push o) c P := TB.code.keeps fun b u e => push_ok b u (I1.bk b u e)
  have go : ∀ (code : Value) (h3 : Heap) (tk : Nat) (ps' : Array Value), Heap.ExtBut P (s1.heap.push o) h3 → (s1.heap.push o).objs.size ≤ h3.objs.size → h3.get? P = some { cls := .none, data := .fields ps' } → (∃ more, ps' = ps ++ more) → TriplesOk ps'.toList →
      wpAny (model X.prog X.w) X.A (builtinsFor X.env.globals X.env.builtins) (fun bi s₄ =>
        ∃ Ia fp wr n₀ Pf St₀ pz F, Value.ref s1.heap.objs.size = .ref Ia ∧ (∀ A' : Around, A'.handled = none → Walks X.prog X.w A' Ia fp wr n₀ Pf St₀) ∧ St₀ 0 s₄.heap ∧ (∀ b ∈ fp, b < s₄.heap.objs.size) ∧ s₄.heap.NoLimit ∧ cStatics ∉ wr ∧
          (∀ hr : Heap, (∀ b u, s₄.heap.get? b = some u → hr.get? b = some u) →
            QuietGenD X.prog X.w (genEnv scope (cloFrom X.env.cells scope.names []) s₄.heap.objs.size code bi X.env) x [] elt (List.range s₄.heap.objs.size) wr Pf pz F hr (X.A.depth + 1) (X.A.units + 8)) ∧
          (∀ a h₅ tk gs, gs.bare = true → s₄.heap.objs.size < a → h₅.objs.size = a + 1 → (∀ b u, s₄.heap.get? b = some u → h₅.get? b = some u) →
            WalksS X.prog X.w X.A.in4 a (a :: s₄.heap.objs.size :: List.range s₄.heap.objs.size) (s₄.heap.objs.size :: wr) (GenOnlyQ s₄.gens.size) (passing pz n₀ 0).length
              (fun j y => ∃ i, (passing pz n₀ 0)[j]? = some i ∧ F i y) (GenAt X.prog X.w X.A.in4 a s₄.gens.size s₄.heap.objs.size (List.range s₄.heap.objs.size) wr pz n₀ F) →
            GenAt X.prog X.w X.A.in4 a s₄.gens.size s₄.heap.objs.size (List.range s₄.heap.objs.size) wr pz n₀ F 0 { s₄ with gens := s₄.gens.push gs, toks := tk, heap := h₅ } →
            Z (.ref a) { s₄ with gens := s₄.gens.push gs, toks := tk, heap := h₅ })) X.xe { s1 with heap := h3, toks := tk } := by
    intro code h3 tk ps' hx hsz hP3 hmore ht3
    obtain ⟨bm, ob, e1, e2, e3, e4, e5, e6, e7, e8⟩ := TB.bm
    have szo : (s1.heap.push o).objs.size = s1.heap.objs.size + 1 := Heap.size_push ..
    have k3 : ∀ b u, b ≠ P → s1.heap.get? b = some u → h3.get? b = some u := fun b u hb e => hx b u hb (push_ok b u e)
    have hcP : cStatics ≠ P := by
      rintro rfl
      obtain ⟨_, hns, _⟩ := I1.nolimit
      obtain ⟨o', es, ep, ho, hd, _⟩ := hns
      rw [hPs] at ho
      cases ho
      cases hd
    have hcl : cStatics < s1.heap.objs.size := let ⟨_, hns, _⟩ := I1.nolimit; hns.lt
    refine wpAny_builtinsFor (m := X.mg) (by rw [I1.ok.glob]; exact ((I1.mod.glob.keeps I1.bk).push o).extBut hx TB.gP) e1 e2 (k3 _ _ e4 (I1.bk _ _ e5)) e6 e7 e8 ?_
    have hi3 : s1.heap.objs.size < h3.objs.size := by omega
    refine ⟨s1.heap.objs.size, [s1.heap.objs.size, ad], [s1.heap.objs.size], its.toArray.size, (fun i v => its.toArray[i]? = some v), St s1.heap.objs.size, (fun _ => true), (fun i y => ∃ b, bs[i]? = some b ∧ RelV b y), rfl,
      fun A' hA => S.walks A' _ hA (Nat.ne_of_lt S.lt), ?_, ?_, lim2.extBut hx hcP, ?_, ?_, ?_⟩
    · refine S.st0 h3 fun b u hb e => hx b u (fun z => ?_) e
      rcases hb with hb | hb
      · exact adP (hb.symm.trans z)
      · exact Nat.ne_of_gt hPlt (hb.symm.trans z)
    · intro b hb
      simp only [List.mem_cons, List.not_mem_nil, or_false] at hb
      rcases hb with hb | hb
      · rw [hb]; exact hi3
      · rw [hb]; exact Nat.lt_trans S.lt hi3
    · intro z
      simp only [List.mem_cons, List.not_mem_nil, or_false] at z
      exact Nat.ne_of_lt hcl z
    · intro hr hhr
      obtain ⟨hd, g1, g2⟩ := restrict h3 fun b => decide (b ≠ s1.heap.objs.size)
      have old : ∀ b u, b ≠ P → s1.heap.get? b = some u → hd.get? b = some u := fun b u nb e => by
        rw [g1 b (decide_eq_true (Nat.ne_of_lt (Heap.lt_size e)))]
        exact k3 b u nb e
      have up3 : Up hd h3 := fun b u e => by
        by_cases hb : b = s1.heap.objs.size
        · rw [g2 b (by simp [hb])] at e
          cases e
        · rw [g1 b (decide_eq_true hb)] at e
          exact e
      have bP : ∀ b u, X.base.get? b = some u → b ≠ P := fun b u e z => by
        have q := (I1.bs b u e).2
        rw [z, hP] at q
        cases q
      have bup : ∀ b u, X.base.get? b = some u → hd.get? b = some u := fun b u e => old b u (bP b u e) (I1.bk b u e)
      have OK : (Qc.mk X.prog X.w X.K X.mg (wipe H1 P) hd).Ok := by
        obtain ⟨mb, q1, q2⟩ := I1.mod.blt
        refine ⟨I1.mod.kin.keeps bup, I1.mod.glob.keeps bup, ⟨mb, q1.keeps bup, q2⟩, I1.mod.nolimit.keeps bup, fun a u e => ?_⟩
        obtain ⟨na, e⟩ := wipe_of e
        have noP : ∀ b, H1 b = some (.own a) → b ≠ P := fun b q z => by
          rw [z, hP] at q
          cases q
        refine (I1.hok a u e).stay (fun b u' hb q => old b u' ?_ q) (fun b q => wipe_at (noP b q) q) (fun b ys q => wipe_at (fun z => ?_) q)
        · rcases hb with hb | hb
          · rw [hb]; exact na
          · exact noP b hb
        · rw [z, hP] at q
          cases q
      have seen : ∀ s₂ : Shared, (∀ b ∈ List.range h3.objs.size, b ∉ [s1.heap.objs.size] → ∀ u, hr.get? b = some u → s₂.heap.get? b = some u) → Up hd s₂.heap := fun s₂ hk b u e => by
        have h3e := up3 b u e
        refine hk b (List.mem_range.mpr (Heap.lt_size h3e)) (fun z => ?_) u (hhr b u h3e)
        have hb : b = s1.heap.objs.size := by simpa using z
        rw [g2 b (by simp [hb])] at e
        cases e
      refine ⟨fun A' E' i v s₂ m₂ hA _ _ hPv hn hm hk => ?_, fun A' E' i v s₂ m₂ hA hAd _ hPv hp hn hm hk => ?_⟩
      · simp only [List.forIn_nil]
        exact wpAny_pure ⟨rfl, GxR.keeps_refl _⟩
      · have hv2 : its[i]? = some v := by simpa using hPv
        have hix : i < xs.length := by rw [← hlen]; exact (List.getElem?_eq_some_iff.mp hv2).1
        obtain ⟨xv, hxv⟩ : ∃ xv, xs[i]? = some xv := ⟨xs[i], List.getElem?_eq_getElem hix⟩
        obtain ⟨u, hu, ru⟩ := rv.get hxv
        rw [hv2] at hu
        cases hu
        have at2 : At ⟨X.prog, X.w, X.K, X.mg, wipe H1 P, hd⟩ (genEnv scope (cloFrom X.env.cells scope.names []) h3.objs.size code builtinsNs X.env) ((x, xv) :: caps) s₂.heap := by
          have upS := seen s₂ hk
          refine ⟨upS, GS.kind, I1.ok.glob, rfl, m₂, hn, fun y vy hy => ?_⟩
          by_cases ey : y = x
          · subst ey
            have e9 : xv = vy := by simpa [List.lookup] using hy
            exact ⟨v, e9 ▸ ru, .inl ⟨GS.loc, hm⟩⟩
          · have ey' : (y == x) = false := by simpa using ey
            have hy2 : caps.lookup y = some vy := by simpa [List.lookup, ey'] using hy
            obtain ⟨_, hmem, hfr, j, hj, hσ, hcl2⟩ := hcap y vy hy2
            obtain ⟨m1, hn1, hloc⟩ := I1.loc
            obtain ⟨u9, r9, l9⟩ := hloc j y vy hj hσ (.inr (.inl hcl2))
            refine ⟨u9, r9, .inr ⟨.inr hfr, ?_⟩⟩
            rcases l9 with ⟨l9, _⟩ | ⟨_, ca, hca, hic⟩
            · have l8 : X.env.scope.names.lookup y = some .local := l9
              rw [hcl2] at l8
              cases l8
            · refine ⟨ca, NdefX.clo_has GS.free hmem hca, ?_⟩
              obtain ⟨oc, ec, rc⟩ := hic
              have nP : ca ≠ P := fun z => by
                have q := I1.freeC y ca hca
                rw [z, hP] at q
                cases q
              exact ⟨oc, upS _ _ (old _ _ nP ec), rc⟩
        obtain ⟨b, hb⟩ : ∃ b, bs[i]? = some b := ⟨bs[i]'(by rw [hel.1]; exact hix), List.getElem?_eq_getElem _⟩
        refine hel.2 hd _ OK rfl i xv b hxv hb A' E' _ s₂ ⟨hA, by omega⟩ at2 fun u9 g9 tk9 r9 up9 => ?_
        exact ⟨⟨b, hb, r9⟩, g9, tk9, rfl, up9⟩
    · intro g h5 tk5 gs hgb hag hsz5 hk5 W5 hgat
      simp only [GxR.passing_true, List.length_range] at W5
      have hn5 : its.toArray.size = bs.length := by rw [List.size_toArray, hlen, hel.1]
      rw [hn5] at W5 hgat
      refine hZ xs bs H1 g _ hR ⟨_, _, _, _, _, W5.in4_1, hgat, fun j y hy => ?_, fun z hz => ?_, fun s' hm => ?_⟩
      · obtain ⟨i, hij, b, hb1, hb2⟩ := hy
        obtain ⟨hj, ej⟩ := List.getElem?_eq_some_iff.mp hij
        rw [List.getElem_range] at ej
        subst ej
        exact ⟨b, hb1, hb2⟩
      · show z < h5.objs.size
        rw [hsz5]
        rcases List.mem_cons.mp hz with e | hz
        · rw [e]; exact Nat.lt_succ_self _
        · rcases List.mem_cons.mp hz with e | hz
          · rw [e]; exact Nat.lt_succ_of_lt hag
          · exact Nat.lt_succ_of_lt (Nat.lt_trans (List.mem_range.mp hz) hag)
      · obtain ⟨more, em⟩ := hmore
        have nwr : ∀ b u, s1.heap.get? b = some u → b ∉ h3.objs.size :: [s1.heap.objs.size] := fun b u e hb => by
          have hl := Heap.lt_size e
          simp only [List.mem_cons, List.not_mem_nil, or_false] at hb
          rcases hb with hb | hb
          · rw [hb] at hl
            exact absurd (Nat.lt_trans hl hi3) (Nat.lt_irrefl _)
          · rw [hb] at hl
            exact Nat.lt_irrefl _ hl
        have J := GxR.inv_tab (more := more) (h' := s'.heap) (g' := s'.gens) (d' := s'.drawn) (t' := s'.toks) I1 hP (fun b u hb e => hm.heap b u (nwr b u e) (hk5 b u (k3 b u hb e)))
          (by rw [← em]; exact hm.heap P _ (nwr P _ hPs) (hk5 P _ hP3)) (AllBare.movedS (I1.bare.push hgb) hm)
        rw [GxR.sh_eta s1 s' hm.os] at J
        exact ⟨upd H1 P (.tbl (ps ++ more)), ⟨⟨ps ++ more, upd_same, by rw [← em]; exact ht3⟩, fun b hb => upd_ne hb⟩, J⟩
  refine ⟨lim2, ?_⟩
  cases hf : codeAmong gpos ps.toList with
  | none =>
    refine wpAny_genexprCodeX hcode (cd.code hPo htr) (cd.tab hPo) hf fun c' h' tk hx hge hlt hco' _ htab' _ => ?_
    obtain ⟨_, _, _, _, _, _, _, _, _, _, _, _, _, _, _, _, _, _, _, htr', _⟩ := hco'
    exact go _ h' tk _ hx (Nat.le_trans hge (Nat.le_of_lt hlt)) htab'.2 ⟨_, rfl⟩ htr'
  | some cv =>
    refine wpAny_genexprCode_hit hcode (cd.code hPo htr) hf ?_
    exact go cv (s1.heap.push o) s1.toks ps (Heap.ExtBut.refl _ _) (Nat.le_refl _) hPo ⟨#[], by simp⟩ htr

/-- sum(.. for x in e), e a tuple or a list, the element a quiet int -/
def tSumQ (X : Cx) (P : Addr) (k : Nat) (scope : Scope) (x : Str) (elt : Expr) (te : TE) : TE := fun σ H Q => te σ H fun v H1 => ∃ (ad : Addr) (xs bs : List V) (caps : Nm), v = .ref ad ∧ (SqT X.K H1 ad xs ∨ SqL X.K H1 ad xs) ∧
  GxR.TabG H1 P ∧ Caps X scope x σ caps ∧ EltV X (3 * k) scope x elt caps (wipe H1 P) xs bs ∧ ∃ ns : List Int, bs = ns.map V.int ∧ ∀ H2, GxR.Tabbed P H1 H2 → Q (.int ns.sum) H2
theorem pe_sumQ {c P : Addr} {elt iter : Expr} {x : Str} {px p pos gpos : Pos} {scope : Scope} {te : TE} {k : Nat}
    (rm : Room (k + 2) X.A) (hg : Gl X "sum") (hm : X.mg "sum" = none) (TB : GxR.TabB X.base X.mg c P) (hcode : X.env.code = .ref c) (GS : GxR.GenS X.env scope x) (hi : PE X iter te)
    (hs : ∀ v, genFold iter X.env v = pure v) (hb : bootBuiltins "sum" = some (.builtin "sum") := by decide +kernel)
    (he : starEach [.GeneratorExp elt [⟨.Name x px, iter, [], 0⟩] scope gpos] X.env = (false, eval (.GeneratorExp elt [⟨.Name x px, iter, [], 0⟩] scope gpos) X.env) :: starEach [] X.env := by rfl) :
    PE X (.Call (.Name "sum" p) [.GeneratorExp elt [⟨.Name x px, iter, [], 0⟩] scope gpos] [] pos) (tSumQ X P k scope x elt te) := by
  refine ⟨fun pins s σ H Q I h => ?_⟩
  refine wpAny_Call_Name_kw (ld_blt I hg hm hb (PyProof.Rows.callWith_builtin1 ?_ he (by rfl)))
  rw [he]
  show wpAny _ X.A (spliced ((false, eval (.GeneratorExp elt [⟨.Name x px, iter, [], 0⟩] scope gpos) X.env) :: backTo pos (starEach [] X.env))) _ X.xe s
  refine Calls.spliced_cons (gen_madeV (R := fun xs bs H1 => ∃ ns : List Int, bs = ns.map V.int ∧ ∀ H2, GxR.Tabbed P H1 H2 → Q (.int ns.sum) H2) rm TB hcode GS hi hs I h fun xs bs H1 g s5 hR hG => Calls.spliced_nil ?_)
  obtain ⟨ns, rfl, hR⟩ := hR
  obtain ⟨fp, wr, G, F, St, W, hst, hF, hfp, hI⟩ := hG
  refine call_sum_walkAnyS (W.self 0 _ _ _ hst ⟨g, fp, wr, G, _, F, St, fun i => ns.getD i 0, rfl, W, hst, hfp, fun i v hv => ?_, fun s' t' hmv => ?_⟩)
  · obtain ⟨b, hb1, hb2⟩ := hF i v hv
    rw [List.getElem?_map] at hb1
    cases q : ns[i]? with
    | none => rw [q] at hb1; cases hb1
    | some n =>
      rw [q] at hb1
      cases hb1
      obtain ⟨t, rfl⟩ := hb2
      exact ⟨t, by show Value.int n t = Value.int (ns.getD i 0) t; rw [List.getD_eq_getElem?_getD, q]; rfl⟩
  · obtain ⟨H2, hT, J⟩ := hI s' hmv
    have e : preSum (fun i => ns.getD i 0) (ns.map V.int).length = ns.sum := by
      have h1 := preSum_list (h := fun v => match v with | .int i => i | _ => 0) (ns.map V.int) (fun i => ns.getD i 0) (fun i x hx => by
        rw [List.getElem?_map] at hx
        cases q : ns[i]? with
        | none => rw [q] at hx; cases hx
        | some n =>
          rw [q] at hx
          cases hx
          show ns.getD i 0 = n
          rw [List.getD_eq_getElem?_getD, q]; rfl) (ns.map V.int).length (Nat.le_refl _)
      rw [h1, List.take_length, List.map_map]
      congr 1
      exact (List.map_congr_left fun n _ => rfl).trans (List.map_id ns)
    exact ⟨.int ns.sum, H2, J, ⟨t', by rw [e]⟩, hR H2 hT⟩
end
end Qt

namespace Em
open PySem PySem.Spec PyProof.Rows L2 Qt

/-! ### where a flame's way leads, lamp by lamp -/
theorem burn_pos {N : Net} (o : NetOk N) {y : Nat} (h : y < N.length) : 1 ≤ burnOf N y := by
  have hp := List.getElem?_eq_getElem h
  rw [burnOf_get hp]
  exact o.len _ (List.getElem_mem h)
def sumB (N : Net) (g : List Nat) : Int := (g.map (burnOf N)).sum
theorem sumB_nil (N : Net) : sumB N [] = 0 := rfl
theorem sumB_app (N : Net) (g h : List Nat) : sumB N (g ++ h) = sumB N g + sumB N h := by unfold sumB; rw [List.map_append, List.sum_append_int]
theorem sumB_one (N : Net) (y : Nat) : sumB N [y] = burnOf N y := by simp [sumB]
theorem sumB_cons (N : Net) (y : Nat) (g : List Nat) : sumB N (y :: g) = burnOf N y + sumB N g := by simp [sumB]
theorem sumB_nonneg {N : Net} (o : NetOk N) : ∀ {g : List Nat}, (∀ y ∈ g, y < N.length) → 0 ≤ sumB N g
  | [], _ => Int.le_refl _
  | y :: g, h => by
    have h1 := burn_pos o (h y List.mem_cons_self)
    have h2 := sumB_nonneg o (g := g) fun z hz => h z (List.mem_cons_of_mem _ hz)
    rw [sumB_cons]
    omega
/-- the lamps of a way, each with the first beat and the lap -/
abbrev Lgt := Nat × Int × Option Int
def lts (N : Net) (lap : Option Int) : Int → List Nat → List Lgt
  | _, [] => []
  | b, y :: r => (y, b, lap) :: lts N lap (b + burnOf N y) r
theorem lts_len (N : Net) (lap : Option Int) : ∀ (b : Int) (g : List Nat), (lts N lap b g).length = g.length
  | _, [] => rfl
  | b, y :: r => congrArg Nat.succ (lts_len N lap _ r)
theorem lts_snoc (N : Net) (lap : Option Int) (y : Nat) : ∀ (b : Int) (g : List Nat), lts N lap b (g ++ [y]) = lts N lap b g ++ [(y, b + sumB N g, lap)]
  | b, [] => by
    show [(y, b, lap)] = [(y, b + 0, lap)]
    rw [Int.add_zero]
  | b, z :: r => by
    show (z, b, lap) :: lts N lap (b + burnOf N z) (r ++ [y]) = _
    rw [lts_snoc N lap y (b + burnOf N z) r, sumB_cons, Int.add_assoc]
    rfl
theorem lts_get (N : Net) (lap : Option Int) : ∀ (b : Int) (g : List Nat) (j y : Nat), g[j]? = some y → (lts N lap b g)[j]? = some (y, b + sumB N (g.take j), lap)
  | _, [], _, _, h => by cases h
  | b, z :: r, 0, y, h => by
    cases h
    show some (z, b, lap) = some (z, b + 0, lap)
    rw [Int.add_zero]
  | b, z :: r, j + 1, y, h => by
    have := lts_get N lap (b + burnOf N z) r j y (by simpa using h)
    show (lts N lap (b + burnOf N z) r)[j]? = _
    rw [this, List.take_succ_cons, sumB_cons, Int.add_assoc]
theorem lts_fst (N : Net) (lap : Option Int) : ∀ (b : Int) (g : List Nat), (lts N lap b g).map (·.1) = g
  | _, [] => rfl
  | b, z :: r => congrArg (z :: ·) (lts_fst N lap _ r)
def lapOf (N : Net) (x : Nat) : Int := sumB N (wayR N x)
def cutN (N : Net) (x : Nat) : Nat := cutAt N (path N x)
def frst (N : Net) (b : Int) (x j : Nat) : Int := b + sumB N ((path N x).take j)
def lightsL (N : Net) (b : Int) (x : Nat) : List Lgt := lts N none b (wayA N x) ++ lts N (some (lapOf N x)) (b + sumB N (wayA N x)) (wayR N x)
theorem lights_fst (N : Net) (b : Int) (x : Nat) : (lightsL N b x).map (·.1) = path N x := by
  unfold lightsL
  rw [List.map_append, lts_fst, lts_fst, way_cat]
theorem cut_le {N : Net} (o : NetOk N) {x : Nat} (hx : x < N.length) : cutN N x ≤ (path N x).length := by
  unfold cutN cutAt
  split
  · exact Nat.le_refl _
  · exact List.idxOf_le_length
theorem wayA_len {N : Net} (o : NetOk N) {x : Nat} (hx : x < N.length) : (wayA N x).length = cutN N x := by
  have := cut_le o hx
  unfold wayA
  rw [List.length_take]
  show min (cutN N x) _ = _
  omega
theorem lights_get {N : Net} (o : NetOk N) {x : Nat} (hx : x < N.length) (b : Int) {j y : Nat} (h : (path N x)[j]? = some y) :
    (lightsL N b x)[j]? = some (y, frst N b x j, if j < cutN N x then none else some (lapOf N x)) := by
  have lA := wayA_len o hx
  have hc := way_cat N x
  have hj := (List.getElem?_eq_some_iff.mp h).1
  unfold lightsL
  by_cases hjc : j < cutN N x
  · rw [if_pos hjc, List.getElem?_append_left (by rw [lts_len, lA]; exact hjc)]
    have h2 : (wayA N x)[j]? = some y := by
      unfold wayA
      rw [List.getElem?_take, if_pos (show j < cutAt N (path N x) from hjc)]; exact h
    rw [lts_get N none b _ j y h2]
    have e : (wayA N x).take j = (path N x).take j := by
      unfold wayA
      rw [List.take_take, Nat.min_eq_left (show j ≤ cutAt N (path N x) from Nat.le_of_lt hjc)]
    rw [e]
    rfl
  · rw [if_neg hjc, List.getElem?_append_right (by rw [lts_len, lA]; omega), lts_len, lA]
    have h2 : (wayR N x)[j - cutN N x]? = some y := by
      unfold wayR
      rw [List.getElem?_drop]
      show (path N x)[cutN N x + (j - cutN N x)]? = _
      rw [show cutN N x + (j - cutN N x) = j by omega]; exact h
    rw [lts_get N _ _ _ _ y h2]
    have e : (path N x).take j = wayA N x ++ (wayR N x).take (j - cutN N x) := by
      rw [← hc, List.take_append, List.take_of_length_le (by rw [lA]; omega), lA]
    unfold frst
    rw [e, sumB_app, Int.add_assoc]
theorem take_succ_sum (N : Net) {g : List Nat} {j y : Nat} (h : g[j]? = some y) : sumB N (g.take (j + 1)) = sumB N (g.take j) + burnOf N y := by
  rw [List.take_add_one, h, sumB_app]
  show _ + sumB N [y] = _
  rw [sumB_one]
theorem sum_mono {N : Net} (o : NetOk N) {g : List Nat} (hg : ∀ y ∈ g, y < N.length) {i j : Nat} (h : i ≤ j) : sumB N (g.take i) ≤ sumB N (g.take j) := by
  have hn := sumB_nonneg o (g := (g.take j).drop i) fun y hy => hg y (List.mem_of_mem_take (List.mem_of_mem_drop hy))
  have e2 : sumB N (g.take j) = sumB N (g.take i) + sumB N ((g.take j).drop i) := by
    rw [← sumB_app]
    have e := List.take_append_drop i (g.take j)
    rw [List.take_take, Nat.min_eq_left h] at e
    rw [e]
  omega
theorem frst_gap {N : Net} (o : NetOk N) {x : Nat} (hx : x < N.length) (b : Int) {i j y : Nat} (h : (path N x)[i]? = some y) (hij : i < j) : frst N b x i + burnOf N y ≤ frst N b x j := by
  have h1 := sum_mono o (path_been o hx).lt (show i + 1 ≤ j from hij)
  rw [take_succ_sum N h] at h1
  unfold frst
  omega
theorem lap_frst {N : Net} (o : NetOk N) {x : Nat} (hx : x < N.length) (b : Int) : frst N b x (path N x).length = frst N b x (cutN N x) + lapOf N x := by
  unfold frst lapOf
  rw [List.take_length]
  have e : (path N x).take (cutN N x) = wayA N x := rfl
  rw [e]
  have : sumB N (path N x) = sumB N (wayA N x) + sumB N (wayR N x) := by rw [← sumB_app, way_cat]
  omega
/-! ### where it is at a beat -/
def gone (beat : Int) (z : Lgt) : Int := match z.2.2 with
  | none => beat - z.2.1
  | some l => if 0 ≤ beat - z.2.1 then (beat - z.2.1) % l else beat - z.2.1
def hit (N : Net) (beat : Int) (z : Lgt) : Bool := decide (0 ≤ gone beat z) && decide (gone beat z < burnOf N z.1)
def placeL (N : Net) (beat : Int) : List Lgt → Option (Nat × Int)
  | [] => none
  | z :: r => if hit N beat z = true then some (z.1, gone beat z) else placeL N beat r
theorem place_none {N : Net} {beat : Int} : ∀ {L : List Lgt}, (∀ z ∈ L, hit N beat z = false) → placeL N beat L = none
  | [], _ => rfl
  | z :: r, h => by
    unfold placeL
    rw [if_neg (by rw [h z List.mem_cons_self]; exact Bool.false_ne_true)]
    exact place_none fun y hy => h y (List.mem_cons_of_mem _ hy)
theorem place_some {N : Net} {beat : Int} : ∀ {L : List Lgt} {j : Nat} {z : Lgt}, L[j]? = some z → hit N beat z = true → (∀ i, i < j → ∀ y, L[i]? = some y → hit N beat y = false) → placeL N beat L = some (z.1, gone beat z)
  | [], _, _, h, _, _ => by cases h
  | y :: r, 0, z, h, hz, _ => by
    cases h
    unfold placeL
    rw [if_pos hz]
  | y :: r, j + 1, z, h, hz, hb => by
    unfold placeL
    rw [if_neg (by rw [hb 0 (Nat.zero_lt_succ _) y rfl]; exact Bool.false_ne_true)]
    exact place_some (j := j) (by simpa using h) hz fun i hi y hy => hb (i + 1) (Nat.succ_lt_succ hi) y (by simpa using hy)
theorem no_hit {N : Net} {beat : Int} {z : Lgt} (h : burnOf N z.1 ≤ gone beat z ∨ gone beat z < 0) : hit N beat z = false := by
  unfold hit
  rcases h with h | h
  · rw [decide_eq_false (show ¬ gone beat z < burnOf N z.1 by omega), Bool.and_false]
  · rw [decide_eq_false (show ¬ 0 ≤ gone beat z by omega), Bool.false_and]
theorem yes_hit {N : Net} {beat : Int} {z : Lgt} (h1 : 0 ≤ gone beat z) (h2 : gone beat z < burnOf N z.1) : hit N beat z = true := by
  unfold hit
  rw [decide_eq_true h1, decide_eq_true h2]; rfl
/-- so many laps on, within a lamp's length -/
theorem place_on {N : Net} (o : NetOk N) {x : Nat} (hx : x < N.length) (b : Int) {j y : Nat} (h : (path N x)[j]? = some y) {g laps : Int} (h0 : 0 ≤ g) (h1 : g < burnOf N y) (hl : 0 ≤ laps) (hlc : laps = 0 ∨ cutN N x ≤ j) :
    placeL N (frst N b x j + laps * lapOf N x + g) (lightsL N b x) = some (y, g) := by
  have hj := (List.getElem?_eq_some_iff.mp h).1
  have lp := lap_frst o hx b
  have gy := frst_gap o hx b h hj
  have key : gone (frst N b x j + laps * lapOf N x + g) (y, frst N b x j, if j < cutN N x then none else some (lapOf N x)) = g := by
    by_cases hjc : j < cutN N x
    · rw [if_pos hjc]
      have : laps = 0 := by rcases hlc with z | z <;> omega
      subst this
      show frst N b x j + 0 * lapOf N x + g - frst N b x j = g
      rw [Int.zero_mul]; omega
    · rw [if_neg hjc]
      have hm := sum_mono o (path_been o hx).lt (show cutN N x ≤ j by omega)
      have hlap : g < lapOf N x := by
        unfold frst at lp gy
        omega
      have hp : 0 ≤ laps * lapOf N x := Int.mul_nonneg hl (by omega)
      show (if 0 ≤ frst N b x j + laps * lapOf N x + g - frst N b x j then (frst N b x j + laps * lapOf N x + g - frst N b x j) % lapOf N x else _) = g
      have e : frst N b x j + laps * lapOf N x + g - frst N b x j = g + laps * lapOf N x := by omega
      rw [e, if_pos (by omega), Int.add_mul_emod_self_right]
      exact Int.emod_eq_of_lt h0 hlap
  have hz := lights_get o hx b h
  have r := place_some (N := N) (beat := frst N b x j + laps * lapOf N x + g) hz (yes_hit (by rw [key]; exact h0) (by rw [key]; exact h1)) fun i hi z hzi => ?_
  · rw [key] at r
    exact r
  · obtain ⟨yi, hyi⟩ : ∃ yi, (path N x)[i]? = some yi := ⟨_, List.getElem?_eq_getElem (by omega)⟩
    rw [lights_get o hx b hyi] at hzi
    cases hzi
    have gi := frst_gap o hx b hyi hi
    refine no_hit (.inl ?_)
    by_cases hic : i < cutN N x
    · rw [if_pos hic]
      have hp : 0 ≤ laps * lapOf N x := Int.mul_nonneg hl (sumB_nonneg o (way_sub o hx))
      show burnOf N yi ≤ frst N b x j + laps * lapOf N x + g - frst N b x i
      omega
    · rw [if_neg hic]
      have hm := sum_mono o (path_been o hx).lt (show cutN N x ≤ i by omega)
      have hp : 0 ≤ laps * lapOf N x := Int.mul_nonneg hl (sumB_nonneg o (way_sub o hx))
      show burnOf N yi ≤ (if 0 ≤ frst N b x j + laps * lapOf N x + g - frst N b x i then (frst N b x j + laps * lapOf N x + g - frst N b x i) % lapOf N x else _)
      have bp := burn_pos o ((path_been o hx).lt yi (List.mem_of_getElem? hyi))
      have e : frst N b x j + laps * lapOf N x + g - frst N b x i = (frst N b x j - frst N b x i + g) + laps * lapOf N x := by omega
      rw [e, if_pos (by omega), Int.add_mul_emod_self_right, Int.emod_eq_of_lt (by omega) (by
        unfold frst at lp gy gi ⊢
        omega)]
      omega
theorem place_before {N : Net} (o : NetOk N) {x : Nat} (hx : x < N.length) {b beat : Int} (h : beat < b) : placeL N beat (lightsL N b x) = none := by
  refine place_none fun z hz => ?_
  obtain ⟨j, hj, e⟩ := List.getElem_of_mem hz
  have hl : (lightsL N b x).length = (path N x).length := by rw [← lights_fst N b x, List.length_map]
  have hyj : (path N x)[j]? = some ((path N x)[j]'(by omega)) := List.getElem?_eq_getElem _
  have hz2 := lights_get o hx b hyj
  rw [List.getElem?_eq_getElem hj, e] at hz2
  have hz3 := Option.some.inj hz2
  have hm := sum_mono o (path_been o hx).lt (Nat.zero_le j)
  have hm2 : 0 ≤ sumB N ((path N x).take j) := hm
  refine no_hit (.inr ?_)
  rw [hz3]
  unfold gone frst
  split
  · show beat - (b + sumB N ((path N x).take j)) < 0
    omega
  · show (if 0 ≤ beat - (b + sumB N ((path N x).take j)) then _ else beat - (b + sumB N ((path N x).take j))) < 0
    rw [if_neg (by omega)]
    omega
theorem place_after {N : Net} (o : NetOk N) {x : Nat} (hx : x < N.length) {b beat : Int} (hr : wayR N x = []) (h : frst N b x (path N x).length ≤ beat) : placeL N beat (lightsL N b x) = none := by
  refine place_none fun z hz => ?_
  obtain ⟨j, hj, e⟩ := List.getElem_of_mem hz
  have hl : (lightsL N b x).length = (path N x).length := by rw [← lights_fst N b x, List.length_map]
  have hyj : (path N x)[j]? = some ((path N x)[j]'(by omega)) := List.getElem?_eq_getElem _
  have hz2 := lights_get o hx b hyj
  rw [List.getElem?_eq_getElem hj, e] at hz2
  have hz3 := Option.some.inj hz2
  have hc : j < cutN N x := by
    have h1 := way_cat N x
    rw [hr, List.append_nil] at h1
    have h2 := wayA_len o hx
    rw [h1] at h2
    omega
  rw [if_pos hc] at hz3
  have g := frst_gap o hx b hyj (show j < (path N x).length by omega)
  refine no_hit (.inl ?_)
  rw [hz3]
  show burnOf N ((path N x)[j]'(by omega)) ≤ beat - frst N b x j
  omega
/-- when it lights a lamp -/
def lookL (y : Nat) : List Lgt → Option (Int × Option Int)
  | [] => none
  | z :: r => if z.1 = y then some z.2 else lookL y r
theorem look_none {y : Nat} : ∀ {L : List Lgt}, y ∉ L.map (·.1) → lookL y L = none
  | [], _ => rfl
  | z :: r, h => by
    simp only [List.map_cons, List.mem_cons, not_or] at h
    unfold lookL
    rw [if_neg (fun e => h.1 e.symm)]
    exact look_none h.2
theorem look_some {y : Nat} : ∀ {L : List Lgt} {j : Nat} {w : Int × Option Int}, (L.map (·.1)).Nodup → L[j]? = some (y, w) → lookL y L = some w
  | [], _, _, _, h => by cases h
  | z :: r, 0, w, _, h => by
    cases h
    unfold lookL
    rw [if_pos rfl]
  | z :: r, j + 1, w, hn, h => by
    have hm : (r.map (·.1))[j]? = some y := by rw [List.getElem?_map, show r[j]? = some (y, w) by simpa using h]; rfl
    have hn2 : z.1 ∉ r.map (·.1) ∧ (r.map (·.1)).Nodup := List.nodup_cons.mp hn
    unfold lookL
    rw [if_neg (fun e : z.1 = y => hn2.1 (by rw [e]; exact List.mem_of_getElem? hm))]
    exact look_some hn2.2 (by simpa using h)
theorem lights_nd {N : Net} (o : NetOk N) {x : Nat} (hx : x < N.length) (b : Int) : ((lightsL N b x).map (·.1)).Nodup := by
  rw [lights_fst]; exact (path_been o hx).nd

theorem nd_take {g : List Nat} {i y : Nat} (hn : g.Nodup) (h : g[i]? = some y) : y ∉ g.take i := by
  intro hm
  obtain ⟨hi, e⟩ := List.getElem?_eq_some_iff.mp h
  obtain ⟨j, hj, e2⟩ := List.getElem_of_mem hm
  rw [List.length_take] at hj
  rw [List.getElem_take] at e2
  have := (List.getElem_inj (h₀ := by omega) (h₁ := hi) hn).mp (e2.trans e.symm)
  omega
/-! ### the lights as a dict -/
def lgtD (w : Int × Option Int) : PyData := .tuple [.int w.1, match w.2 with
  | none => .none
  | some l => .int l]
inductive LtA (H : Hp) : List (Key × V) → List Lgt → Prop
  | nil : LtA H [] []
  | cons {y : Nat} {w : Int × Option Int} {v : V} {r : List (Key × V)} {l : List Lgt} (h : Tu H v (lgtD w)) (t : LtA H r l) : LtA H ((Sum.inl (y : Int), v) :: r) ((y, w) :: l)
theorem LtA.kt {H H' : Hp} (k : Kt H H') : ∀ {r : List (Key × V)} {l : List Lgt}, LtA H r l → LtA H' r l
  | _, _, .nil => .nil
  | _, _, .cons h t => .cons (h.kt k) (LtA.kt k t)
theorem LtA.len {H : Hp} : ∀ {r : List (Key × V)} {l : List Lgt}, LtA H r l → r.length = l.length
  | _, _, .nil => rfl
  | _, _, .cons _ t => congrArg Nat.succ (LtA.len t)
theorem LtA.snoc {H : Hp} {y : Nat} {w : Int × Option Int} {v : V} (h : Tu H v (lgtD w)) : ∀ {r : List (Key × V)} {l : List Lgt}, LtA H r l → LtA H (r ++ [(Sum.inl (y : Int), v)]) (l ++ [(y, w)])
  | _, _, .nil => .cons h .nil
  | _, _, .cons a t => .cons a (LtA.snoc h t)
theorem LtA.get {H : Hp} : ∀ {r : List (Key × V)} {l : List Lgt} {i : Nat} {z : Lgt}, LtA H r l → l[i]? = some z → ∃ v, r[i]? = some (Sum.inl (z.1 : Int), v) ∧ Tu H v (lgtD z.2)
  | _, _, _, _, .nil, h => by cases h
  | _, _, 0, _, .cons a _, h => by cases h; exact ⟨_, rfl, a⟩
  | _, _, i + 1, _, .cons _ t, h => LtA.get (i := i) t (by simpa using h)
theorem LtA.val {H : Hp} {y : Nat} : ∀ {r : List (Key × V)} {l : List Lgt}, LtA H r l → (lookL y l = none ∧ valV r (Sum.inl (y : Int) : Key) = none) ∨ ∃ w v, lookL y l = some w ∧ valV r (Sum.inl (y : Int) : Key) = some v ∧ Tu H v (lgtD w)
  | _, _, .nil => .inl ⟨rfl, rfl⟩
  | _, _, @LtA.cons _ z w v r l h t => by
    by_cases e : z = y
    · subst e
      refine .inr ⟨w, v, ?_, valV_pos rfl, h⟩
      unfold lookL
      rw [if_pos rfl]
    · have e1 : lookL y ((z, w) :: l) = lookL y l := by
        show (if z = y then _ else _) = _
        rw [if_neg e]
      have e2 : valV ((Sum.inl (z : Int), v) :: r) (Sum.inl (y : Int) : Key) = valV r (Sum.inl (y : Int) : Key) := valV_neg (fun q => e (by
        have := Sum.inl.inj q
        omega))
      rw [e1, e2]
      exact LtA.val t
theorem wiped_tup {H : Hp} {P a : Addr} {xs : List V} (t : GxR.TabG H P) (h : H a = some (.tup xs)) : Qt.wipe H P a = some (.tup xs) :=
  wipe_at (fun z => by obtain ⟨ps, e, _⟩ := t; rw [z, e] at h; cases h) h
theorem lgt_at {H : Hp} {v : V} {w : Int × Option Int} (h : Tu H v (lgtD w)) : ∃ a, v = .ref a ∧ H a = some (.tup [.int w.1, match w.2 with
    | none => .non
    | some l => .int l]) := by
  obtain ⟨f, o⟩ := w
  cases h with
  | @tup a xs ds h t =>
    cases t with
    | cons t1 t =>
      cases t1
      cases t with
      | cons t2 t =>
        cases t
        cases o with
        | none => cases t2; exact ⟨a, rfl, h⟩
        | some l => cases t2; exact ⟨a, rfl, h⟩
end Em

namespace Em
open PySem PySem.Spec PyProof.Rows L2 Qt

/-! ### a flame that goes on alone, lamp by lamp -/
theorem last_eq {g : List Nat} {j z : Nat} (h : g[j]? = some z) (hj : j + 1 = g.length) : lastOf g = z := by
  obtain ⟨l, rfl⟩ : ∃ l, g = l ++ [z] := by
    obtain ⟨hlt, e⟩ := List.getElem?_eq_some_iff.mp h
    refine ⟨g.take j, ?_⟩
    have := List.take_add_one (l := g) (i := j)
    rw [h, List.take_of_length_le (by omega)] at this
    exact this
  exact last_app l z
theorem path_chain {N : Net} {x : Nat} : ∀ n j z y, (itr (step N) n [x])[j]? = some z → (itr (step N) n [x])[j + 1]? = some y → nxt N z = some y
  | 0, j, z, y, h1, h2 => by
    have : j + 1 < 1 := (List.getElem?_eq_some_iff.mp h2).1
    omega
  | n + 1, j, z, y, h1, h2 => by
    have es : itr (step N) (n + 1) [x] = step N (itr (step N) n [x]) := rfl
    rw [es] at h1 h2
    obtain ⟨g, eg⟩ : ∃ g, g = itr (step N) n [x] := ⟨_, rfl⟩
    have ih := path_chain (N := N) (x := x) n
    rw [← eg] at h1 h2 ih
    unfold step at h1 h2
    cases hz : nxt N (lastOf g) with
    | none => rw [hz] at h1 h2; exact ih j z y h1 h2
    | some u =>
      rw [hz] at h1 h2
      by_cases hu : u ∈ g
      · simp only [hu, if_true] at h1 h2
        exact ih j z y h1 h2
      · simp only [hu, if_false] at h1 h2
        by_cases hj : j + 1 < g.length
        · rw [List.getElem?_append_left (by omega)] at h1
          rw [List.getElem?_append_left hj] at h2
          exact ih j z y h1 h2
        · have h3 := (List.getElem?_eq_some_iff.mp h2).1
          rw [List.length_append] at h3
          have h4 : j + 1 = g.length := by simp at h3; omega
          rw [List.getElem?_append_left (by omega)] at h1
          rw [h4, List.getElem?_append_right (Nat.le_refl _), Nat.sub_self] at h2
          cases h2
          rw [← last_eq h1 h4]
          exact hz
/-- the next one's place on the way -/
theorem next_at {N : Net} (o : NetOk N) {x j z : Nat} (hx : x < N.length) (h : (path N x)[j]? = some z) :
    (nxt N z = none ∧ j + 1 = (path N x).length ∧ cutN N x = (path N x).length) ∨
    (∃ y, nxt N z = some y ∧ (path N x)[j + 1]? = some y) ∨
    (∃ y, nxt N z = some y ∧ j + 1 = (path N x).length ∧ (path N x)[cutN N x]? = some y) := by
  have hj := (List.getElem?_eq_some_iff.mp h).1
  by_cases hl : j + 1 < (path N x).length
  · refine .inr (.inl ⟨(path N x)[j + 1], ?_, List.getElem?_eq_getElem hl⟩)
    exact path_chain (N := N) (x := x) N.length j z _ h (List.getElem?_eq_getElem hl)
  · have hl2 : j + 1 = (path N x).length := by omega
    have hz := last_eq h hl2
    have hs := (path_been o hx).done.2
    cases hn : nxt N z with
    | none =>
      refine .inl ⟨rfl, hl2, ?_⟩
      unfold cutN cutAt
      rw [hz, hn]
    | some y =>
      have hm : y ∈ path N x := step_mem (by rw [hz]; exact hn) hs
      refine .inr (.inr ⟨y, rfl, hl2, ?_⟩)
      have hc : cutN N x = (path N x).idxOf y := by
        unfold cutN cutAt
        rw [hz, hn]
      have hix := List.idxOf_lt_length_iff.mpr hm
      rw [hc, List.getElem?_eq_getElem hix, List.getElem_idxOf hix]
/-- so many laps on, at a lamp of the way -/
def OnWay (N : Net) (b : Int) (x : Nat) (t : Int) (z : Nat) : Prop := ∃ (j : Nat) (laps : Int), (path N x)[j]? = some z ∧ t = frst N b x j + laps * lapOf N x ∧ 0 ≤ laps ∧ (laps = 0 ∨ cutN N x ≤ j)
theorem onWay_start {N : Net} (b : Int) (x : Nat) : OnWay N b x b x := by
  obtain ⟨t, e⟩ := path_head N x
  refine ⟨0, 0, by rw [e]; rfl, ?_, by decide, .inl rfl⟩
  show b = b + 0 + 0 * lapOf N x
  rw [Int.zero_mul]; omega
theorem onWay_next {N : Net} (o : NetOk N) {b t : Int} {x z : Nat} (hx : x < N.length) (h : OnWay N b x t z) :
    (nxt N z = none ∧ wayR N x = [] ∧ t + burnOf N z = frst N b x (path N x).length) ∨ ∃ y, nxt N z = some y ∧ OnWay N b x (t + burnOf N z) y := by
  obtain ⟨j, laps, hj, rfl, h0, hc⟩ := h
  have hf : frst N b x (j + 1) = frst N b x j + burnOf N z := by
    unfold frst
    rw [take_succ_sum N hj]; omega
  have hjl := (List.getElem?_eq_some_iff.mp hj).1
  rcases next_at o hx hj with ⟨h1, h2, h3⟩ | ⟨y, h1, h2⟩ | ⟨y, h1, h2, h3⟩
  · refine .inl ⟨h1, ?_, ?_⟩
    · unfold wayR
      rw [show cutAt N (path N x) = (path N x).length from h3]
      exact List.drop_length
    · have : laps = 0 := by rcases hc with z | z <;> omega
      subst this
      rw [Int.zero_mul, Int.add_zero, ← hf, h2]
  · refine .inr ⟨y, h1, j + 1, laps, h2, by rw [hf]; omega, h0, ?_⟩
    rcases hc with z | z
    · exact .inl z
    · exact .inr (by omega)
  · refine .inr ⟨y, h1, cutN N x, laps + 1, h3, ?_, by omega, .inr (Nat.le_refl _)⟩
    have lp := lap_frst o hx b
    rw [← h2] at lp
    rw [Int.add_mul, Int.one_mul]
    omega
/-- rows of a flame that goes on alone -/
structure FreeOk (N : Net) (b : Int) (x : Nat) (rows : List (Int × Nat)) (t : Int) : Prop where
  on : ∀ r ∈ rows, OnWay N b x r.1 r.2
  all : ∀ a, b ≤ a → a < t → ∃ r ∈ rows, r.1 ≤ a ∧ a < r.1 + burnOf N r.2
  len : (rows.length : Int) ≤ t - b
theorem FreeOk.start {N : Net} {b : Int} {x : Nat} : FreeOk N b x [] b := ⟨fun r h => (by cases h), fun a h1 h2 => (by omega), (by simp)⟩
theorem FreeOk.more {N : Net} (o : NetOk N) {b t : Int} {x z : Nat} {rows : List (Int × Nat)} (hx : x < N.length) (f : FreeOk N b x rows t) (h : OnWay N b x t z) : FreeOk N b x (rows ++ [(t, z)]) (t + burnOf N z) := by
  have hz : 1 ≤ burnOf N z := by
    obtain ⟨j, _, hj, _⟩ := h
    exact burn_pos o ((path_been o hx).lt z (List.mem_of_getElem? hj))
  refine ⟨fun r hr => ?_, fun a h1 h2 => ?_, ?_⟩
  · rcases List.mem_append.mp hr with hr | hr
    · exact f.on r hr
    · rw [List.mem_singleton.mp hr]; exact h
  · by_cases ht : a < t
    · obtain ⟨r, hr, q⟩ := f.all a h1 ht
      exact ⟨r, List.mem_append_left _ hr, q⟩
    · exact ⟨(t, z), by simp, by show t ≤ a; omega, h2⟩
  · rw [List.length_append]
    have := f.len
    simp
    omega
def foundL (N : Net) (a : Int) : List (Int × Nat) → Option (Nat × Int) → Option (Nat × Int)
  | [], o => o
  | r :: l, o => foundL N a l (if r.1 ≤ a ∧ a < r.1 + burnOf N r.2 then some (r.2, a - r.1) else o)
theorem found_app (N : Net) (a : Int) (r : Int × Nat) : ∀ (l : List (Int × Nat)) (o : Option (Nat × Int)), foundL N a (l ++ [r]) o = if r.1 ≤ a ∧ a < r.1 + burnOf N r.2 then some (r.2, a - r.1) else foundL N a l o
  | [], o => rfl
  | s :: l, o => found_app N a r l _
theorem on_place {N : Net} (o : NetOk N) {b a : Int} {x : Nat} (hx : x < N.length) {r : Int × Nat} (h : OnWay N b x r.1 r.2) (h1 : r.1 ≤ a) (h2 : a < r.1 + burnOf N r.2) : placeL N a (lightsL N b x) = some (r.2, a - r.1) := by
  obtain ⟨j, laps, hj, e, h0, hc⟩ := h
  have := place_on o hx b hj (g := a - r.1) (laps := laps) (by omega) (by omega) h0 hc
  rw [← e, show r.1 + (a - r.1) = a by omega] at this
  exact this
theorem found_place {N : Net} (o : NetOk N) {b a : Int} {x : Nat} (hx : x < N.length) : ∀ (l : List (Int × Nat)) (q : Option (Nat × Int)), (∀ r ∈ l, OnWay N b x r.1 r.2) → ((∃ r ∈ l, r.1 ≤ a ∧ a < r.1 + burnOf N r.2) ∨ q = placeL N a (lightsL N b x)) → foundL N a l q = placeL N a (lightsL N b x)
  | [], q, _, h => by
    rcases h with ⟨r, hr, _⟩ | h
    · cases hr
    · exact h
  | s :: l, q, ho, h => by
    unfold foundL
    refine found_place o hx l _ (fun r hr => ho r (List.mem_cons_of_mem _ hr)) ?_
    by_cases hs : s.1 ≤ a ∧ a < s.1 + burnOf N s.2
    · rw [if_pos hs]
      exact .inr (on_place o hx (ho s List.mem_cons_self) hs.1 hs.2).symm
    · rw [if_neg hs]
      rcases h with ⟨r, hr, hr2⟩ | h
      · rcases List.mem_cons.mp hr with e | hr
        · rw [e] at hr2; exact absurd hr2 hs
        · exact .inl ⟨r, hr, hr2⟩
      · exact .inr h
/-- what the rows tell of a beat -/
def FreeEnd (N : Net) (b : Int) (x : Nat) (upto : Int) (rows : List (Int × Nat)) : Prop := ∃ t, FreeOk N b x rows t ∧ (upto ≤ t ∨ (wayR N x = [] ∧ t = frst N b x (path N x).length))
theorem free_tells {N : Net} (o : NetOk N) {b a upto : Int} {x : Nat} (hx : x < N.length) {rows : List (Int × Nat)} (h : FreeEnd N b x upto rows) (ha : a < upto) : foundL N a rows none = placeL N a (lightsL N b x) := by
  obtain ⟨t, f, he⟩ := h
  refine found_place o hx rows none f.on ?_
  by_cases hb : a < b
  · exact .inr (place_before o hx hb).symm
  by_cases ht : a < t
  · exact .inl (f.all a (by omega) ht)
  · rcases he with he | ⟨h1, h2⟩
    · omega
    · exact .inr (place_after o hx h1 (by omega)).symm
def freeD (rows : List (Int × Nat)) : List PyData := rows.map fun r => .tuple [.int r.1, .int r.2]
end Em

namespace Em
open PySem PySem.Spec PyProof.Rows L2 Qt

/-! ### a beat, lamp by lamp -/
theorem getD_set {α : Type} {l : List α} {k j : Nat} {v d : α} (hk : k < l.length) : (l.set k v).getD j d = if j = k then v else l.getD j d := by
  rw [List.getD_eq_getElem?_getD, List.getElem?_set, List.getD_eq_getElem?_getD]
  by_cases e : k = j
  · subst e
    rw [if_pos rfl, if_pos hk, if_pos rfl]; rfl
  · rw [if_neg e, if_neg (fun z => e z.symm)]
/-- the flame that leaves a lamp at a beat -/
def outB (N : Net) (b : Nat) (L : List Lt) (k : Nat) : Option Nat := match L.getD k none with
  | none => none
  | some (f, t) => if (b : Int) < (t : Int) + burnOf N k then none else some f
/-- a lamp when those that are over have gone dark -/
def leftB (N : Net) (b : Nat) (L : List Lt) (k : Nat) : Lt := match outB N b L k with
  | none => L.getD k none
  | some _ => none
def cameB (N : Net) (b : Nat) (L : List Lt) (y j : Nat) : Option Nat := (outB N b L j).bind fun f => if nxt N j = some y then some f else none
def overB (N : Net) (b : Nat) (L : List Lt) (j : Nat) : Option Row := (outB N b L j).bind fun f => if nxt N j = none then some (.ended b j f) else none
/-- the flames that come to a lamp from lamps -/
def cameL (N : Net) (b : Nat) (L : List Lt) (k y : Nat) : List Nat := (List.range k).filterMap (cameB N b L y)
def overL (N : Net) (b : Nat) (L : List Lt) (k : Nat) : List Row := (List.range k).filterMap (overB N b L)
theorem range_fm {α : Type} (g : Nat → Option α) (k : Nat) : (List.range (k + 1)).filterMap g = (List.range k).filterMap g ++ (g k).toList := by
  rw [List.range_succ, List.filterMap_append]
  cases h : g k with
  | none => simp [h]
  | some a => simp [h]
structure DkAt (N : Net) (b : Nat) (L : List Lt) (k : Nat) (s : Dk) : Prop where
  len : s.L.length = N.length
  cln : s.css.length = N.length
  lit : ∀ j, s.L.getD j none = if j < k then leftB N b L j else L.getD j none
  css : ∀ y, y < N.length → s.css.getD y [] = cameL N b L k y
  rows : s.rows = overL N b L k
theorem dark_at {N : Net} (o : NetOk N) {b : Nat} {L : List Lt} (hL : L.length = N.length) : ∀ k, k ≤ N.length → DkAt N b L k (darkN N b k ⟨L, List.replicate N.length [], []⟩)
  | 0, _ => ⟨hL, List.length_replicate, fun j => by rw [if_neg (Nat.not_lt_zero j)]; rfl, fun y hy => by
      show (List.replicate N.length []).getD y [] = []
      rw [List.getD_eq_getElem?_getD, List.getElem?_replicate]
      split <;> rfl, rfl⟩
  | k + 1, hk => by
    have ih := dark_at o (b := b) hL k (by omega)
    obtain ⟨s, es⟩ : ∃ s, s = darkN N b k ⟨L, List.replicate N.length [], []⟩ := ⟨_, rfl⟩
    show DkAt N b L (k + 1) (darkK N b k (darkN N b k ⟨L, List.replicate N.length [], []⟩))
    rw [← es] at ih ⊢
    have hlk : s.L.getD k none = L.getD k none := by rw [ih.lit k, if_neg (Nat.lt_irrefl k)]
    -- nothing leaves
    have stay : outB N b L k = none → DkAt N b L (k + 1) s := fun hout => by
      refine ⟨ih.len, ih.cln, fun j => ?_, fun y hy => ?_, ?_⟩
      · rw [ih.lit j]
        by_cases h1 : j < k
        · rw [if_pos h1, if_pos (by omega)]
        · rw [if_neg h1]
          by_cases h2 : j < k + 1
          · have : j = k := by omega
            subst this
            rw [if_pos h2]
            unfold leftB
            rw [hout]
          · rw [if_neg h2]
      · rw [ih.css y hy]
        unfold cameL
        rw [range_fm]
        unfold cameB
        rw [hout]
        exact (List.append_nil _).symm
      · rw [ih.rows]
        unfold overL
        rw [range_fm]
        unfold overB
        rw [hout]
        exact (List.append_nil _).symm
    unfold darkK
    rw [hlk]
    cases hl : L.getD k none with
    | none => exact stay (by unfold outB; rw [hl])
    | some p =>
      obtain ⟨f, t⟩ := p
      show DkAt N b L (k + 1) (if (b : Int) < (t : Int) + burnOf N k then s else _)
      by_cases hb : (b : Int) < (t : Int) + burnOf N k
      · rw [if_pos hb]
        exact stay (by unfold outB; rw [hl]; show (if _ then _ else _) = _; rw [if_pos hb])
      · rw [if_neg hb]
        have hout : outB N b L k = some f := by unfold outB; rw [hl]; show (if _ then _ else _) = _; rw [if_neg hb]
        have lit' : ∀ j, (s.L.set k none).getD j none = if j < k + 1 then leftB N b L j else L.getD j none := fun j => by
          rw [getD_set (by rw [ih.len]; omega)]
          by_cases h1 : j = k
          · subst h1
            rw [if_pos rfl, if_pos (by omega)]
            unfold leftB
            rw [hout]
          · rw [if_neg h1, ih.lit j]
            by_cases h2 : j < k
            · rw [if_pos h2, if_pos (by omega)]
            · rw [if_neg h2, if_neg (by omega)]
        cases hn : nxt N k with
        | none =>
          refine ⟨by rw [List.length_set]; exact ih.len, ih.cln, lit', fun y hy => ?_, ?_⟩
          · show s.css.getD y [] = _
            rw [ih.css y hy]
            unfold cameL
            rw [range_fm]
            unfold cameB
            rw [hout]
            show _ = _ ++ (if nxt N k = some y then some f else none).toList
            rw [hn, if_neg (fun z => by cases z)]
            exact (List.append_nil _).symm
          · show s.rows ++ [.ended b k f] = _
            rw [ih.rows]
            unfold overL
            rw [range_fm]
            unfold overB
            rw [hout]
            show _ = _ ++ (if nxt N k = none then some (Row.ended b k f) else none).toList
            rw [if_pos hn]
            rfl
        | some u =>
          have hu := nxt_lt o hn
          refine ⟨by rw [List.length_set]; exact ih.len, by rw [List.length_set]; exact ih.cln, lit', fun y hy => ?_, ?_⟩
          · show (s.css.set u (s.css.getD u [] ++ [f])).getD y [] = _
            rw [getD_set (by rw [ih.cln]; exact hu)]
            unfold cameL
            rw [range_fm]
            unfold cameB
            rw [hout]
            show _ = _ ++ (if nxt N k = some y then some f else none).toList
            rw [hn]
            by_cases e : y = u
            · subst e
              rw [if_pos rfl, if_pos rfl, ih.css y hy]
              rfl
            · rw [if_neg e, if_neg (fun z => e (Option.some.inj z).symm), ih.css y hy]
              exact (List.append_nil _).symm
          · show s.rows = _
            rw [ih.rows]
            unfold overL
            rw [range_fm]
            unfold overB
            rw [hout]
            show _ = _ ++ (if nxt N k = none then some (Row.ended b k f) else none).toList
            rw [if_neg (by rw [hn]; exact fun z => by cases z)]
            exact (List.append_nil _).symm
/-- those that are kindled at a lamp now -/
def newL (W : List (Nat × Nat)) (y : Nat) : List Nat := (W.filter fun p => decide (p.2 = y)).map (·.1)
theorem addW_at : ∀ (W : List (Nat × Nat)) (css : List (List Nat)) (y : Nat), (∀ p ∈ W, p.2 < css.length) → (addW css W).getD y [] = css.getD y [] ++ newL W y
  | [], css, y, _ => (List.append_nil _).symm
  | p :: r, css, y, h => by
    have hp := h p List.mem_cons_self
    show (addW (addK css p) r).getD y [] = _
    have hl : (addK css p).length = css.length := List.length_set
    rw [addW_at r (addK css p) y fun q hq => by rw [hl]; exact h q (List.mem_cons_of_mem _ hq)]
    unfold addK newL
    rw [getD_set hp]
    by_cases e : y = p.2
    · subst e
      rw [if_pos rfl, List.filter_cons_of_pos (by simp), List.map_cons, List.append_assoc]
      rfl
    · rw [if_neg e, List.filter_cons_of_neg (by simpa using fun z => e z.symm)]
/-- all that come to a lamp at a beat -/
def comeL (N : Net) (b : Nat) (L : List Lt) (W : List (Nat × Nat)) (y : Nat) : List Nat := cameL N b L N.length y ++ newL W y
def metB (N : Net) (b : Nat) (L : List Lt) (W : List (Nat × Nat)) (k : Nat) : Lt × List Row := meet b k (leftB N b L k) (srt (comeL N b L W k))
theorem metN_at {b n : Nat} {css : List (List Nat)} {s : Ms} (hs : s.L.length = n) : ∀ k, k ≤ n →
    (∀ j, (meetN b css k s).L.getD j none = if j < k then (meet b j (s.L.getD j none) (srt (css.getD j []))).1 else s.L.getD j none) ∧ (meetN b css k s).rows = s.rows ++ ((List.range k).map fun j => (meet b j (s.L.getD j none) (srt (css.getD j []))).2).flatten
  | 0, _ => ⟨fun j => by rw [if_neg (Nat.not_lt_zero j)]; rfl, (List.append_nil _).symm⟩
  | k + 1, hk => by
    obtain ⟨h1, h2⟩ := metN_at (b := b) (css := css) hs k (by omega)
    have hl := (meetN_len b css s k).1
    have hlk : (meetN b css k s).L.getD k none = s.L.getD k none := by rw [h1 k, if_neg (Nat.lt_irrefl k)]
    refine ⟨fun j => ?_, ?_⟩
    · show ((meetN b css k s).L.set k _).getD j none = _
      rw [getD_set (by rw [hl, hs]; omega), hlk]
      by_cases e : j = k
      · subst e
        rw [if_pos rfl, if_pos (by omega)]
      · rw [if_neg e, h1 j]
        by_cases h3 : j < k
        · rw [if_pos h3, if_pos (by omega)]
        · rw [if_neg h3, if_neg (by omega)]
    · show (meetN b css k s).rows ++ (meet b k ((meetN b css k s).L.getD k none) (srt (css.getD k []))).2 = _
      rw [hlk, h2, List.range_succ, List.map_append, List.flatten_append, List.append_assoc]
      show _ ++ (_ ++ _) = _ ++ (_ ++ (_ ++ []))
      rw [List.append_nil]
/-- a beat: what burns behind it, and what it tells -/
theorem beat_at {N : Net} (o : NetOk N) {b : Nat} {L : List Lt} {W : List (Nat × Nat)} (hL : L.length = N.length) (hW : ∀ p ∈ W, p.2 < N.length) :
    (beatA N b L W).L.length = N.length ∧ (∀ k, k < N.length → (beatA N b L W).L.getD k none = (metB N b L W k).1) ∧
    (beatA N b L W).rows = overL N b L N.length ++ ((List.range N.length).map fun k => (metB N b L W k).2).flatten := by
  have hd := dark_at o (b := b) hL N.length (Nat.le_refl _)
  have hdA : DkAt N b L N.length (darkA N b L) := hd
  have hcss : ∀ k, k < N.length → (addW (darkA N b L).css W).getD k [] = comeL N b L W k := fun k hk => by
    rw [addW_at W _ k (by rw [hdA.cln]; exact hW), hdA.css k hk]
    rfl
  have hleft : ∀ k, k < N.length → (darkA N b L).L.getD k none = leftB N b L k := fun k hk => by rw [hdA.lit k, if_pos hk]
  obtain ⟨h1, h2⟩   := metN_at (b := b) (css := addW (darkA N b L).css W) (s := ⟨(darkA N b L).L, (darkA N b L).rows⟩) hdA.len N.length (Nat.le_refl _)
  refine ⟨?_, fun k hk => ?_, ?_⟩
  · show (meetN b _ N.length _).L.length = _
    rw [(meetN_len b _ _ _).1]
    exact hdA.len
  · show (meetN b _ N.length _).L.getD k none = _
    rw [h1 k, if_pos hk]
    show (meet b k ((darkA N b L).L.getD k none) (srt ((addW (darkA N b L).css W).getD k []))).1 = _
    rw [hleft k hk, hcss k hk]
    rfl
  · show (meetN b _ N.length _).rows = _
    rw [h2]
    show (darkA N b L).rows ++ _ = _
    rw [hdA.rows]
    congr 2
    refine List.map_congr_left fun k hk => ?_
    have hk2 := List.mem_range.mp hk
    show (meet b k ((darkA N b L).L.getD k none) (srt ((addW (darkA N b L).css W).getD k []))).2 = _
    rw [hleft k hk2, hcss k hk2]
    rfl
end Em

namespace Em
open PySem PySem.Spec PyProof.Rows L2 Qt

/-! ### one flame alone in an Embers -/
def darkS (n : Nat) : List Lt := List.replicate n none
def oneS (n z t : Nat) : List Lt := (List.replicate n none).set z (some (0, t))
theorem dark_get (n j : Nat) : (darkS n).getD j none = none := by
  unfold darkS
  rw [List.getD_eq_getElem?_getD, List.getElem?_replicate]
  split <;> rfl
theorem one_get {n z t : Nat} (hz : z < n) (j : Nat) : (oneS n z t).getD j none = if j = z then some (0, t) else none := by
  unfold oneS
  rw [getD_set (by rw [List.length_replicate]; exact hz)]
  by_cases e : j = z
  · rw [if_pos e, if_pos e]
  · rw [if_neg e, if_neg e]
    exact dark_get n j
theorem lts_ext {n : Nat} {L M : List Lt} (h1 : L.length = n) (h2 : M.length = n) (h : ∀ k, k < n → L.getD k none = M.getD k none) : L = M := by
  refine List.ext_getElem? fun k => ?_
  by_cases hk : k < n
  · have := h k hk
    rw [List.getD_eq_getElem?_getD, List.getD_eq_getElem?_getD, List.getElem?_eq_getElem (by omega), List.getElem?_eq_getElem (by omega)] at this
    rw [List.getElem?_eq_getElem (by omega), List.getElem?_eq_getElem (by omega)]
    exact congrArg some this
  · rw [List.getElem?_eq_none (by omega), List.getElem?_eq_none (by omega)]
theorem fm_one {α : Type} (g : Nat → Option α) (z : Nat) : ∀ n, (∀ j, j ≠ z → g j = none) → (List.range n).filterMap g = if z < n then (g z).toList else []
  | 0, _ => by rw [if_neg (Nat.not_lt_zero z)]; rfl
  | n + 1, h => by
    rw [range_fm, fm_one g z n h]
    by_cases e : z = n
    · subst e
      rw [if_neg (Nat.lt_irrefl z), if_pos (Nat.lt_succ_self z)]; rfl
    · rw [h n (fun q => e q.symm)]
      by_cases h2 : z < n
      · rw [if_pos h2, if_pos (by omega)]; exact List.append_nil _
      · rw [if_neg h2, if_neg (by omega)]; rfl
theorem flat_one {α : Type} (g : Nat → List α) (z : Nat) : ∀ n, (∀ j, j ≠ z → g j = []) → ((List.range n).map g).flatten = if z < n then g z else []
  | 0, _ => by rw [if_neg (Nat.not_lt_zero z)]; rfl
  | n + 1, h => by
    rw [List.range_succ, List.map_append, List.flatten_append, flat_one g z n h]
    show _ ++ (g n ++ []) = _
    rw [List.append_nil]
    by_cases e : z = n
    · subst e
      rw [if_neg (Nat.lt_irrefl z), if_pos (Nat.lt_succ_self z)]; rfl
    · rw [h n (fun q => e q.symm), List.append_nil]
      by_cases h2 : z < n
      · rw [if_pos h2, if_pos (by omega)]
      · rw [if_neg h2, if_neg (by omega)]
theorem srt_nil : srt [] = [] := List.Perm.eq_nil (srt_perm [])
theorem srt_one (f : Nat) : srt [f] = [f] := List.perm_singleton.mp (srt_perm [f])
theorem newL_nil (y : Nat) : newL [] y = [] := rfl
theorem newL_one (f x y : Nat) : newL [(f, x)] y = if y = x then [f] else [] := by
  unfold newL
  by_cases e : y = x
  · subst e
    rw [if_pos rfl, List.filter_cons_of_pos (by simp)]; rfl
  · rw [if_neg e, List.filter_cons_of_neg (by simpa using fun z => e z.symm)]; rfl
section
variable {N : Net} {b z t : Nat}
theorem out_dark (j : Nat) : outB N b (darkS N.length) j = none := by unfold outB; rw [dark_get]
theorem out_one (hz : z < N.length) (j : Nat) : outB N b (oneS N.length z t) j = if j = z then (if (b : Int) < (t : Int) + burnOf N z then none else some 0) else none := by
  unfold outB
  rw [one_get hz]
  by_cases e : j = z
  · subst e
    rw [if_pos rfl, if_pos rfl]
  · rw [if_neg e, if_neg e]
/-- a beat in which the flame that comes, if any, comes to one lamp -/
theorem beat_gen (o : NetOk N) {L : List Lt} {W : List (Nat × Nat)} (hL : L.length = N.length) (hW : ∀ p ∈ W, p.2 < N.length) {y : Nat} {c : List Nat} {rs : List Row} {M : List Lt}
    (hc : ∀ k, k < N.length → comeL N b L W k = if k = y then c else []) (hM : M.length = N.length)
    (hm : ∀ k, k < N.length → (meet b k (leftB N b L k) (srt (if k = y then c else []))).1 = M.getD k none)
    (hr : ∀ k, k ≠ y → (meet b k (leftB N b L k) (srt [])).2 = []) (ho : overL N b L N.length = rs) :
    (beatA N b L W).L = M ∧ (beatA N b L W).rows = rs ++ (if y < N.length then (meet b y (leftB N b L y) (srt c)).2 else []) := by
  obtain ⟨h1, h2, h3⟩ := beat_at o (b := b) hL hW
  refine ⟨lts_ext h1 hM fun k hk => ?_, ?_⟩
  · rw [h2 k hk]
    unfold metB
    rw [hc k hk]
    exact hm k hk
  · rw [h3, ho]
    congr 1
    have e : (List.range N.length).map (fun k => (metB N b L W k).2) = (List.range N.length).map fun k => (meet b k (leftB N b L k) (srt (if k = y then c else []))).2 := by
      refine List.map_congr_left fun k hk => ?_
      unfold metB
      rw [hc k (List.mem_range.mp hk)]
    rw [e, flat_one (fun k => (meet b k (leftB N b L k) (srt (if k = y then c else []))).2) y N.length fun j hj => by
      show (meet b j _ (srt (if j = y then c else []))).2 = []
      rw [if_neg hj]; exact hr j hj]
    by_cases hy : y < N.length
    · rw [if_pos hy, if_pos hy, if_pos rfl]
    · rw [if_neg hy, if_neg hy]
theorem meet_nil_row (k : Nat) (l : Lt) : (meet b k l (srt [])).2 = [] := by rw [srt_nil]; cases l <;> rfl
theorem meet_nil_lt (k : Nat) (l : Lt) : (meet b k l (srt [])).1 = l := by rw [srt_nil]; cases l <;> rfl
theorem came_none {L : List Lt} {k y : Nat} (h : ∀ j, outB N b L j = none) : cameL N b L k y = [] := by
  unfold cameL
  rw [fm_one _ 0 k fun j _ => by unfold cameB; rw [h j]; rfl]
  split
  · unfold cameB; rw [h 0]; rfl
  · rfl
theorem over_none {L : List Lt} {k : Nat} (h : ∀ j, outB N b L j = none) : overL N b L k = [] := by
  unfold overL
  rw [fm_one _ 0 k fun j _ => by unfold overB; rw [h j]; rfl]
  split
  · unfold overB; rw [h 0]; rfl
  · rfl
theorem left_none {L : List Lt} {k : Nat} (h : ∀ j, outB N b L j = none) : leftB N b L k = L.getD k none := by unfold leftB; rw [h k]
/-- nothing burns, nothing comes -/
theorem solo_dark (o : NetOk N) : (beatA N b (darkS N.length) []).L = darkS N.length ∧ (beatA N b (darkS N.length) []).rows = [] := by
  obtain ⟨h1, h2⟩ := beat_gen (b := b) o (L := darkS N.length) (W := []) List.length_replicate (fun p h => by cases h) (y := N.length) (c := []) (rs := []) (M := darkS N.length)
    (fun k _ => by unfold comeL; rw [came_none out_dark, newL_nil]; split <;> rfl) List.length_replicate
    (fun k _ => by rw [show (if k = N.length then ([] : List Nat) else []) = [] by split <;> rfl, meet_nil_lt, left_none out_dark]) (fun k _ => meet_nil_row k _) (over_none out_dark)
  refine ⟨h1, ?_⟩
  rw [h2, if_neg (Nat.lt_irrefl _)]; rfl
/-- it is kindled -/
theorem solo_kindle (o : NetOk N) {x : Nat} (hx : x < N.length) : (beatA N b (darkS N.length) [(0, x)]).L = oneS N.length x b ∧ (beatA N b (darkS N.length) [(0, x)]).rows = [.lit b x 0] := by
  obtain ⟨h1, h2⟩ := beat_gen (b := b) o (L := darkS N.length) (W := [(0, x)]) List.length_replicate (fun p h => by rw [List.mem_singleton.mp h]; exact hx) (y := x) (c := [0]) (rs := []) (M := oneS N.length x b)
    (fun k _ => by unfold comeL; rw [came_none out_dark, newL_one]; rfl) (by unfold oneS; rw [List.length_set, List.length_replicate])
    (fun k _ => by
      rw [left_none out_dark, dark_get, one_get hx]
      by_cases e : k = x
      · rw [if_pos e, if_pos e, srt_one]; rfl
      · rw [if_neg e, if_neg e, srt_nil]; rfl) (fun k _ => meet_nil_row k _) (over_none out_dark)
  refine ⟨h1, ?_⟩
  rw [h2, if_pos hx, left_none out_dark, dark_get, srt_one]; rfl
/-- it burns on -/
theorem solo_stay (o : NetOk N) (hz : z < N.length) (hb : (b : Int) < (t : Int) + burnOf N z) : (beatA N b (oneS N.length z t) []).L = oneS N.length z t ∧ (beatA N b (oneS N.length z t) []).rows = [] := by
  have hl : (oneS N.length z t).length = N.length := by unfold oneS; rw [List.length_set, List.length_replicate]
  have hout : ∀ j, outB N b (oneS N.length z t) j = none := fun j => by
    rw [out_one hz]
    by_cases e : j = z
    · rw [if_pos e, if_pos hb]
    · rw [if_neg e]
  obtain ⟨h1, h2⟩ := beat_gen (b := b) o (L := oneS N.length z t) (W := []) hl (fun p h => by cases h) (y := N.length) (c := []) (rs := []) (M := oneS N.length z t)
    (fun k _ => by unfold comeL; rw [came_none hout, newL_nil]; split <;> rfl) hl
    (fun k _ => by rw [show (if k = N.length then ([] : List Nat) else []) = [] by split <;> rfl, meet_nil_lt, left_none hout]) (fun k _ => meet_nil_row k _) (over_none hout)
  refine ⟨h1, ?_⟩
  rw [h2, if_neg (Nat.lt_irrefl _)]; rfl
theorem left_over (hz : z < N.length) (hb : ¬ (b : Int) < (t : Int) + burnOf N z) (k : Nat) : leftB N b (oneS N.length z t) k = none := by
  unfold leftB
  rw [out_one hz]
  by_cases e : k = z
  · subst e
    rw [if_pos rfl, if_neg hb]
  · rw [if_neg e]
    show (oneS N.length z t).getD k none = none
    rw [one_get hz, if_neg e]
/-- it goes on to the next -/
theorem solo_go (o : NetOk N) (hz : z < N.length) (hb : ¬ (b : Int) < (t : Int) + burnOf N z) {y : Nat} (hy : nxt N z = some y) : (beatA N b (oneS N.length z t) []).L = oneS N.length y b ∧ (beatA N b (oneS N.length z t) []).rows = [.lit b y 0] := by
  have hl : (oneS N.length z t).length = N.length := by unfold oneS; rw [List.length_set, List.length_replicate]
  have hyl := nxt_lt o hy
  have hout : ∀ j, j ≠ z → outB N b (oneS N.length z t) j = none := fun j hj => by rw [out_one hz, if_neg hj]
  have hoz : outB N b (oneS N.length z t) z = some 0 := by rw [out_one hz, if_pos rfl, if_neg hb]
  obtain ⟨h1, h2⟩ := beat_gen (b := b) o (L := oneS N.length z t) (W := []) hl (fun p h => by cases h) (y := y) (c := [0]) (rs := []) (M := oneS N.length y b)
    (fun k _ => by
      unfold comeL cameL
      rw [newL_nil, List.append_nil, fm_one _ z N.length fun j hj => by unfold cameB; rw [hout j hj]; rfl, if_pos hz]
      unfold cameB
      rw [hoz]
      show (if nxt N z = some k then some 0 else none).toList = _
      rw [hy]
      by_cases e : k = y
      · rw [if_pos (by rw [e]), if_pos e]; rfl
      · rw [if_neg (fun q => e (Option.some.inj q).symm), if_neg e]; rfl) (by unfold oneS; rw [List.length_set, List.length_replicate])
    (fun k _ => by
      rw [left_over hz hb, one_get hyl]
      by_cases e : k = y
      · rw [if_pos e, if_pos e, srt_one]; rfl
      · rw [if_neg e, if_neg e, srt_nil]; rfl) (fun k _ => meet_nil_row k _) (by
      unfold overL
      rw [fm_one _ z N.length fun j hj => by unfold overB; rw [hout j hj]; rfl, if_pos hz]
      unfold overB
      rw [hoz]
      show (if nxt N z = none then _ else none).toList = _
      rw [if_neg (by rw [hy]; exact fun q => by cases q)]; rfl)
  refine ⟨h1, ?_⟩
  rw [h2, if_pos hyl, left_over hz hb, srt_one]; rfl
/-- it ends -/
theorem solo_end (o : NetOk N) (hz : z < N.length) (hb : ¬ (b : Int) < (t : Int) + burnOf N z) (hy : nxt N z = none) : (beatA N b (oneS N.length z t) []).L = darkS N.length ∧ (beatA N b (oneS N.length z t) []).rows = [.ended b z 0] := by
  have hl : (oneS N.length z t).length = N.length := by unfold oneS; rw [List.length_set, List.length_replicate]
  have hout : ∀ j, j ≠ z → outB N b (oneS N.length z t) j = none := fun j hj => by rw [out_one hz, if_neg hj]
  have hoz : outB N b (oneS N.length z t) z = some 0 := by rw [out_one hz, if_pos rfl, if_neg hb]
  obtain ⟨h1, h2⟩ := beat_gen (b := b) o (L := oneS N.length z t) (W := []) hl (fun p h => by cases h) (y := N.length) (c := []) (rs := [.ended b z 0]) (M := darkS N.length)
    (fun k _ => by
      unfold comeL cameL
      rw [newL_nil, List.append_nil, fm_one _ z N.length fun j hj => by unfold cameB; rw [hout j hj]; rfl, if_pos hz]
      unfold cameB
      rw [hoz]
      show (if nxt N z = some k then some 0 else none).toList = _
      rw [hy, if_neg (fun q => by cases q)]
      split <;> rfl) List.length_replicate
    (fun k _ => by rw [show (if k = N.length then ([] : List Nat) else []) = [] by split <;> rfl, meet_nil_lt, left_over hz hb, dark_get]) (fun k _ => meet_nil_row k _) (by
      unfold overL
      rw [fm_one _ z N.length fun j hj => by unfold overB; rw [hout j hj]; rfl, if_pos hz]
      unfold overB
      rw [hoz]
      show (if nxt N z = none then some (Row.ended b z 0) else none).toList = _
      rw [if_pos hy]; rfl)
  refine ⟨h1, ?_⟩
  rw [h2, if_neg (Nat.lt_irrefl _), List.append_nil]
end
end Em

namespace Em
open PySem PySem.Spec PyProof.Rows L2 Qt

/-! ### list(range(a, b, c)) -/
def stepV (a c : Int) (n : Nat) : List V := (List.range n).map fun i => V.int (a + (i : Nat) * c)
theorem vals_step {a c : Int} {n : Nat} {acc : Array Value} (h : ItemsOf (fun i v => ∃ t, v = .int (a + i * c) t) acc n) : Vals (stepV a c n) acc.toList := by
  have e : acc.toList.length = n := by rw [Array.length_toList]; exact h.1
  unfold stepV
  rw [← e]
  refine vals_of_get acc.toList _ fun j u hj => ?_
  obtain ⟨t, rfl⟩ := h.2 j u (by rw [← hj, Array.getElem?_toList])
  exact ⟨t, rfl⟩
def tLstRg3 (ta : TA) : TE := fun σ H Q => ta σ H fun vs H1 => ∃ (i j c : Int) (n : Nat), vs = [.int i, .int j, .int c] ∧ RgC i j c n ∧ n ≤ 2 ^ 24 ∧ ∀ q, H1 q = none → Q (.ref q) (upd H1 q (.lst (stepV i c n)))
section
variable {X : Cx}
theorem prg3 {a b c : Expr} {ta : TA} {p pos : Pos} {pins : List (Addr × Obj)} {s : Shared} {σ : L2.St} {H : Hp} {R : Int → Int → Int → Nat → Hp → Prop} (hg : Gl X "range") (hm : X.mg "range" = none) (ha : PA X [a, b, c] ta) (I : Inv X pins σ H s)
    (h : ta σ H fun vs H1 => ∃ (i j c : Int) (n : Nat), vs = [.int i, .int j, .int c] ∧ RgC i j c n ∧ R i j c n H1)
    (hs : starEach [a, b, c] X.env = (false, eval a X.env) :: starEach [b, c] X.env) (hpl : (backTo pos (starEach [b, c] X.env)).any (·.1) = false) :
    wpAny (model X.prog X.w) X.A (eval (.Call (.Name "range" p) [a, b, c] [] pos) X.env) (fun x s' => ∃ r i j c n t u v H', x = .ref r ∧ IsRange s'.heap r i j c t u v ∧ Inv X pins σ H' s' ∧ RgC i j c n ∧ R i j c n H') X.xe s := by
  refine Call_ (ld_blt I hg hm boot_range (PyProof.Rows.callWith_type1 (thn (ha.run pos pins s σ H _ I h) fun us s1 ⟨vs, H1, I1, r1, q1⟩ => ?_) hs hpl))
  obtain ⟨i, j, k, n, e, ⟨c0, c1, c2, c3⟩, q⟩ := q1
  subst e
  cases r1 with
  | cons r rr =>
    cases rr with
    | cons r' rr =>
      cases rr with
      | cons r'' rr =>
        cases rr
        obtain ⟨t, rfl⟩ := r
        obtain ⟨t', rfl⟩ := r'
        obtain ⟨t'', rfl⟩ := r''
        refine call_range_3 c0 ?_ (.inl (PyProof.noPylong_small c1))
        have I2 : Inv X pins σ H1 { s1 with heap := s1.heap.push { cls := .type "range", data := .fields #[.int i t, .int j t', .int k t''] } } := I1.kept (t' := s1.toks) fun b o e => Heap.get?_push_of_some _ e
        exact ⟨_, i, j, k, n, _, _, _, H1, rfl, IsRange.new .., I2, ⟨c0, c1, c2, c3⟩, q⟩
theorem pe_listRg3 {a b c : Expr} {ta : TA} {p p2 pos pos2 : Pos} (hc : X.calm = true) (hgl : Gl X "list") (hml : X.mg "list" = none) (hg : Gl X "range") (hm : X.mg "range" = none) (ha : PA X [a, b, c] ta)
    (hs : starEach [a, b, c] X.env = (false, eval a X.env) :: starEach [b, c] X.env := by rfl) (hpl : (backTo pos2 (starEach [b, c] X.env)).any (·.1) = false := by rfl)
    (na : starEach [.Call (.Name "range" p2) [a, b, c] [] pos2] X.env = (false, eval (.Call (.Name "range" p2) [a, b, c] [] pos2) X.env) :: starEach [] X.env := by rfl) :
    PE X (.Call (.Name "list" p) [.Call (.Name "range" p2) [a, b, c] [] pos2] [] pos) (tLstRg3 ta) := by
  refine ⟨fun pins s σ H Q I h => ?_⟩
  refine Call_ (ld_blt I hgl hml boot_list (PyProof.Rows.callWith_type1 (args_cons (thn (prg3 (R := fun i j c n H1 => n ≤ 2 ^ 24 ∧ ∀ q, H1 q = none → Q (.ref q) (upd H1 q (.lst (stepV i c n)))) hg hm ha I h hs hpl) fun x s1 ⟨r, i, j, k, n, t, u, v, H1, ex, hr, I1, ⟨c0, c1, c2, c3⟩, hn, q⟩ => args_nil ?_) na) na))
  subst ex
  refine call_list_range (n := n) (I1.ok.hd hc) hr c2 c3 hn fun h' tk acc c' hk e' hi => ?_
  refine ⟨.ref s1.heap.objs.size, upd H1 s1.heap.objs.size (.lst (stepV i k n)), I1.laid hk (Nat.le_refl _) (show ObjOk X.prog X.w _ _ _ (.lst (stepV i k n)) from ⟨?_, acc.toList, c', vals_step hi, ?_⟩), rfl, q _ (I1.hok.fresh (Nat.le_refl _))⟩
  · unfold stepV
    rw [List.length_map, List.length_range, sizeLine_eq]; omega
  · rw [Array.toArray_toList]; exact e'
end
/-! ### the beats at which a lamp is lit -/
theorem idx_get' {g : List Nat} {y : Nat} (h : y ∈ g) : g[g.idxOf y]? = some y := by
  have hix := List.idxOf_lt_length_iff.mpr h
  rw [List.getElem?_eq_getElem hix, List.getElem_idxOf hix]
theorem up_eq : ∀ {a b : List Int}, a.Pairwise (· < ·) → b.Pairwise (· < ·) → (∀ x, x ∈ a ↔ x ∈ b) → a = b
  | [], [], _, _, _ => rfl
  | [], y :: _, _, _, h => by
    have := (h y).mpr List.mem_cons_self
    cases this
  | x :: _, [], _, _, h => by
    have := (h x).mp List.mem_cons_self
    cases this
  | x :: r, y :: s, ha, hb, h => by
    obtain ⟨a1, a2⟩ := List.pairwise_cons.mp ha
    obtain ⟨b1, b2⟩ := List.pairwise_cons.mp hb
    have exy : x = y := by
      have h1 := (h x).mp List.mem_cons_self
      have h2 := (h y).mpr List.mem_cons_self
      rcases List.mem_cons.mp h1 with e | h1
      · exact e
      · rcases List.mem_cons.mp h2 with e | h2
        · exact e.symm
        · have := b1 x h1
          have := a1 y h2
          omega
    subst exy
    rw [up_eq a2 b2 fun z => ⟨fun hz => by
      have := (h z).mp (List.mem_cons_of_mem _ hz)
      rcases List.mem_cons.mp this with e | q
      · have := a1 z hz; omega
      · exact q, fun hz => by
      have := (h z).mpr (List.mem_cons_of_mem _ hz)
      rcases List.mem_cons.mp this with e | q
      · have := b1 z hz; omega
      · exact q⟩]
def litOf (rows : List (Int × Nat)) (k : Nat) : List Int := (rows.filter fun r => decide (r.2 = k)).map (·.1)
structure LitOk (N : Net) (b : Int) (x : Nat) (rows : List (Int × Nat)) (T long : Int) : Prop where
  free : FreeOk N b x rows T
  up : (rows.map (·.1)).Pairwise (· < ·)
  lt : ∀ r ∈ rows, r.1 < long
  fin : long ≤ T ∨ (wayR N x = [] ∧ T = frst N b x (path N x).length)
theorem lit_mem {N : Net} (o : NetOk N) {b T long : Int} {x k : Nat} {rows : List (Int × Nat)} (hx : x < N.length) (h : LitOk N b x rows T long) (t : Int) : t ∈ litOf rows k ↔ OnWay N b x t k ∧ t < long := by
  unfold litOf
  constructor
  · intro ht
    obtain ⟨r, hr, rfl⟩ := List.mem_map.mp ht
    obtain ⟨h1, h2⟩ := List.mem_filter.mp hr
    have e : r.2 = k := of_decide_eq_true h2
    have := h.free.on r h1
    rw [e] at this
    exact ⟨this, h.lt r h1⟩
  · rintro ⟨hon, hlt⟩
    obtain ⟨j, laps, hj, ht, h0, hc⟩ := id hon
    have hkl := (path_been o hx).lt k (List.mem_of_getElem? hj)
    have hjl := (List.getElem?_eq_some_iff.mp hj).1
    have hb : b ≤ t := by
      have h1 := sum_mono o (path_been o hx).lt (Nat.zero_le j)
      have h2 : 0 ≤ sumB N ((path N x).take j) := h1
      have h3 : 0 ≤ laps * lapOf N x := Int.mul_nonneg h0 (sumB_nonneg o (way_sub o hx))
      unfold frst at ht
      omega
    have hT : t < T := by
      rcases h.fin with hf | ⟨h1, h2⟩
      · omega
      · have hcl : cutN N x = (path N x).length := by
          have e := way_cat N x
          rw [h1, List.append_nil] at e
          have := wayA_len o hx
          rw [e] at this
          exact this.symm
        have hl0 : laps = 0 := by rcases hc with z | z <;> omega
        have g := frst_gap o hx b hj hjl
        have bp := burn_pos o hkl
        rw [hl0, Int.zero_mul, Int.add_zero] at ht
        omega
    obtain ⟨r, hr, r1, r2⟩ := h.free.all t hb hT
    have p1 := on_place o hx (h.free.on r hr) r1 r2
    have p2 := on_place o hx (r := (t, k)) (a := t) hon (Int.le_refl _) (by have := burn_pos o hkl; show t < t + burnOf N k; omega)
    rw [p1] at p2
    obtain ⟨e1, e2⟩ := Prod.mk.inj (Option.some.inj p2)
    refine List.mem_map.mpr ⟨r, List.mem_filter.mpr ⟨hr, decide_eq_true e1⟩, ?_⟩
    have : t - r.1 = t - t := e2
    omega
theorem lit_up {b : Int} {rows : List (Int × Nat)} (h : (rows.map (·.1)).Pairwise (· < ·)) (k : Nat) : (litOf rows k).Pairwise (· < ·) := by
  unfold litOf
  exact h.sublist ((List.filter_sublist).map _)
/-- how many steps of a lap there are below a beat -/
def cntS (f long lap : Int) : Nat := ((long - f + lap - 1) / lap).toNat
theorem cnt_iff {f long lap : Int} (hl : 0 < lap) (hf : f < long) (n : Nat) : n < cntS f long lap ↔ f + n * lap < long := by
  unfold cntS
  have h1 : 0 ≤ (long - f + lap - 1) / lap := Int.ediv_nonneg (by omega) (by omega)
  have h2 := Int.le_ediv_iff_mul_le (a := (n : Int) + 1) (b := long - f + lap - 1) hl
  rw [Int.add_mul, Int.one_mul] at h2
  constructor
  · intro h
    have := h2.mp (by omega)
    omega
  · intro h
    have := h2.mpr (by omega)
    omega
/-- the beats at which a lamp is lit, by when it is lit -/
theorem lit_due {N : Net} (o : NetOk N) {b T long : Int} {x k : Nat} {rows : List (Int × Nat)} (hx : x < N.length) (h : LitOk N b x rows T long) :
    litOf rows k = match lookL k (lightsL N b x) with
      | none => []
      | some (f, lp) => if long ≤ f then [] else match lp with
        | none => [f]
        | some lap => (List.range (cntS f long lap)).map fun n => f + (n : Nat) * lap := by
  have hu := lit_up (b := b) h.up k
  have hmem := lit_mem o hx (k := k) h
  by_cases hk : k ∈ path N x
  · have hix := idx_get' hk
    have hlk := look_some (lights_nd o hx b) (lights_get o hx b hix)
    rw [hlk]
    obtain ⟨j, ej⟩ : ∃ j, j = (path N x).idxOf k := ⟨_, rfl⟩
    rw [← ej] at hix ⊢
    show litOf rows k = if long ≤ frst N b x j then [] else _
    have hjl := (List.getElem?_eq_some_iff.mp hix).1
    have hon : ∀ t, OnWay N b x t k ↔ ∃ laps : Int, t = frst N b x j + laps * lapOf N x ∧ 0 ≤ laps ∧ (laps = 0 ∨ cutN N x ≤ j) := fun t => by
      constructor
      · rintro ⟨j', laps, hj', e, h0, hc⟩
        have : j' = j := by
          obtain ⟨a1, a2⟩ := List.getElem?_eq_some_iff.mp hj'
          obtain ⟨b1, b2⟩ := List.getElem?_eq_some_iff.mp hix
          exact (List.getElem_inj (h₀ := a1) (h₁ := b1) (path_been o hx).nd).mp (a2.trans b2.symm)
        subst this
        exact ⟨laps, e, h0, hc⟩
      · rintro ⟨laps, e, h0, hc⟩
        exact ⟨j, laps, hix, e, h0, hc⟩
    have lpn := sumB_nonneg o (way_sub o hx)
    have lpn' : 0 ≤ lapOf N x := lpn
    by_cases hlong : long ≤ frst N b x j
    · rw [if_pos hlong]
      refine up_eq hu List.Pairwise.nil fun t => ⟨fun ht => ?_, fun ht => by cases ht⟩
      obtain ⟨h1, h2⟩ := (hmem t).mp ht
      obtain ⟨laps, e, h0, _⟩ := (hon t).mp h1
      have := Int.mul_nonneg h0 lpn'
      omega
    · rw [if_neg hlong]
      by_cases hjc : j < cutN N x
      · rw [if_pos hjc]
        refine up_eq hu (List.pairwise_singleton _ _) fun t => ⟨fun ht => ?_, fun ht => ?_⟩
        · obtain ⟨h1, h2⟩ := (hmem t).mp ht
          obtain ⟨laps, e, h0, hc⟩ := (hon t).mp h1
          have : laps = 0 := by rcases hc with z | z <;> omega
          rw [this, Int.zero_mul, Int.add_zero] at e
          exact List.mem_singleton.mpr e
        · rw [List.mem_singleton.mp ht]
          exact (hmem _).mpr ⟨(hon _).mpr ⟨0, by rw [Int.zero_mul, Int.add_zero], by decide, .inl rfl⟩, by omega⟩
      · rw [if_neg hjc]
        have lpos : 0 < lapOf N x := by
          have lp := lap_frst o hx b
          have g := frst_gap o hx b hix hjl
          have hm := sum_mono o (path_been o hx).lt (show cutN N x ≤ j by omega)
          have bp := burn_pos o ((path_been o hx).lt k (List.mem_of_getElem? hix))
          unfold frst at lp g
          omega
        refine up_eq hu ?_ fun t => ⟨fun ht => ?_, fun ht => ?_⟩
        · refine List.pairwise_map.mpr ((List.pairwise_lt_range).imp fun {p q} hpq => ?_)
          have : (p : Int) * lapOf N x < (q : Int) * lapOf N x := Int.mul_lt_mul_of_pos_right (by omega) lpos
          omega
        · obtain ⟨h1, h2⟩ := (hmem t).mp ht
          obtain ⟨laps, e, h0, hc⟩ := (hon t).mp h1
          obtain ⟨n, rfl⟩ := Int.eq_ofNat_of_zero_le h0
          refine List.mem_map.mpr ⟨n, List.mem_range.mpr ((cnt_iff lpos (by omega) n).mpr (by rw [← e]; exact h2)), e.symm⟩
        · obtain ⟨n, hn, rfl⟩ := List.mem_map.mp ht
          have := (cnt_iff lpos (by omega) n).mp (List.mem_range.mp hn)
          exact (hmem _).mpr ⟨(hon _).mpr ⟨n, rfl, by omega, .inr (by omega)⟩, this⟩
  · rw [look_none (by rw [lights_fst]; exact hk)]
    refine up_eq hu List.Pairwise.nil fun t => ⟨fun ht => ?_, fun ht => by cases ht⟩
    obtain ⟨⟨j, _, hj, _⟩, _⟩ := (hmem t).mp ht
    exact absurd (List.mem_of_getElem? hj) hk
end Em

namespace Em
open PySem PySem.Spec PyProof.Rows L2 Qt

/-! ### one flame alone, beat by beat -/
def castG (g : List (Nat × Nat)) : List (Int × Nat) := g.map fun r => ((r.1 : Int), r.2)
def litR (r : Nat × Nat) : Row := .lit r.1 r.2 0
def standD (n : Nat) : Option (Nat × Int) → List PyData
  | none => List.replicate n .none
  | some (z, g) => (List.replicate n PyData.none).set z (.tuple [.int 0, .int g])
theorem dark_stand (n : Nat) (c : Int) : (darkS n).map (burnD c) = standD n none := by
  unfold darkS standD
  rw [List.map_replicate]; rfl
theorem one_stand (n z t : Nat) (c : Int) : (oneS n z t).map (burnD c) = standD n (some (z, c - t)) := by
  unfold oneS standD
  rw [List.map_set, List.map_replicate]; rfl
def SoloB (N : Net) (b x at_ : Nat) (L : List Lt) (R : List Row) (g : List (Nat × Nat)) (z t : Nat) : Prop :=
  b < at_ ∧ L = oneS N.length z t ∧ R = g.map litR ∧ z < N.length ∧ OnWay N b x t z ∧ t < at_ ∧ (at_ : Int) ≤ t + burnOf N z ∧ FreeOk N b x (castG g) (t + burnOf N z) ∧ ((castG g).map (·.1)).Pairwise (· < ·) ∧ ∀ r ∈ g, r.1 ≤ t
def SoloC (N : Net) (b x at_ : Nat) (L : List Lt) (R : List Row) (g : List (Nat × Nat)) (z T : Nat) : Prop :=
  b < at_ ∧ L = darkS N.length ∧ R = g.map litR ++ [.ended T z 0] ∧ wayR N x = [] ∧ (T : Int) = frst N b x (path N x).length ∧ T < at_ ∧ FreeOk N b x (castG g) T ∧ ((castG g).map (·.1)).Pairwise (· < ·) ∧ ∀ r ∈ g, r.1 < T
def SoloAt (N : Net) (b x at_ : Nat) (L : List Lt) (R : List Row) (ended : Bool) : Prop :=
  (at_ ≤ b ∧ L = darkS N.length ∧ R = [] ∧ ended = false) ∨ (∃ g z t, SoloB N b x at_ L R g z t ∧ ended = false) ∨ (∃ g z T, SoloC N b x at_ L R g z T ∧ ended = true)
def endedB : Row → Bool
  | .ended _ _ _ => true
  | _ => false
/-- the rows of one flame alone -/
def SoloRows : List Row → Prop
  | [] => True
  | [.lit _ _ 0] => True
  | [.ended _ _ 0] => True
  | _ => False
theorem castG_app (g : List (Nat × Nat)) (t z : Nat) : castG (g ++ [(t, z)]) = castG g ++ [((t : Int), z)] := by unfold castG; rw [List.map_append]; rfl
theorem up_app {l : List Int} {t : Int} (h : l.Pairwise (· < ·)) (hl : ∀ s ∈ l, s < t) : (l ++ [t]).Pairwise (· < ·) :=
  List.pairwise_append.mpr ⟨h, List.pairwise_singleton _ _, fun a ha b hb => by rw [List.mem_singleton.mp hb]; exact hl a ha⟩
theorem castG_lt {g : List (Nat × Nat)} {t : Int} (h : ∀ r ∈ g, (r.1 : Int) < t) : ∀ s ∈ (castG g).map (·.1), s < t := fun s hs => by
  obtain ⟨r, hr, rfl⟩ := List.mem_map.mp hs
  obtain ⟨q, hq, rfl⟩ := List.mem_map.mp hr
  exact h q hq
theorem solo_step {N : Net} (o : NetOk N) {b x at_ : Nat} (hx : x < N.length) {L : List Lt} {R : List Row} {e : Bool} (h : SoloAt N b x at_ L R e) :
    ∃ B : Ms, B = beatA N at_ L (if at_ = b then [(0, x)] else []) ∧ SoloRows B.rows ∧ SoloAt N b x (at_ + 1) B.L (R ++ B.rows) (e || B.rows.any endedB) ∧
      B.L.map (burnD (at_ : Nat)) = standD N.length (placeL N at_ (lightsL N b x)) ∧ ((e || B.rows.any endedB) = true → placeL N at_ (lightsL N b x) = none) := by
  refine ⟨_, rfl, ?_⟩
  rcases h with ⟨h1, rfl, rfl, rfl⟩ | ⟨g, z, t, hB, rfl⟩ | ⟨g, z, T, hC, rfl⟩
  · by_cases hb : at_ = b
    · -- it is kindled
      subst hb
      rw [if_pos rfl]
      obtain ⟨s1, s2⟩ := solo_kindle (b := at_) o hx
      rw [s1, s2]
      have hon : OnWay N at_ x (at_ : Nat) x := onWay_start _ _
      have bp := burn_pos o hx
      have hpl : placeL N (at_ : Int) (lightsL N at_ x) = some (x, (at_ : Int) - (at_ : Int)) := on_place o hx (r := ((at_ : Int), x)) hon (Int.le_refl _) (by show (at_ : Int) < (at_ : Int) + burnOf N x; omega)
      refine ⟨trivial, .inr (.inl ⟨[(at_, x)], x, at_, ⟨by omega, rfl, rfl, hx, hon, by omega, by omega, ?_, ?_, fun r hr => by rw [List.mem_singleton.mp hr]; exact Nat.le_refl _⟩, rfl⟩), ?_, fun q => by cases q⟩
      · exact (FreeOk.start (N := N) (b := at_) (x := x)).more o hx hon
      · exact List.pairwise_singleton _ _
      · rw [hpl, one_stand]
    · -- not yet
      rw [if_neg hb]
      obtain ⟨s1, s2⟩ := solo_dark (b := at_) o
      rw [s1, s2]
      refine ⟨trivial, .inl ⟨by omega, rfl, rfl, rfl⟩, ?_, fun q => by cases q⟩
      rw [place_before o hx (by omega), dark_stand]
  · obtain ⟨h1, rfl, rfl, hz, hon, h5, h6, hfo, hup, hle⟩ := hB
    rw [if_neg (show ¬ at_ = b by omega)]
    by_cases hb : (at_ : Int) < (t : Int) + burnOf N z
    · obtain ⟨s1, s2⟩ := solo_stay (b := at_) o hz hb
      rw [s1, s2]
      have hpl : placeL N (at_ : Int) (lightsL N b x) = some (z, (at_ : Int) - (t : Int)) := on_place o hx (r := ((t : Int), z)) hon (by show (t : Int) ≤ at_; omega) hb
      refine ⟨trivial, .inr (.inl ⟨g, z, t, ⟨by omega, rfl, by rw [List.append_nil], hz, hon, by omega, by omega, hfo, hup, hle⟩, rfl⟩), ?_, fun q => by cases q⟩
      rw [hpl, one_stand]
    · have he : (at_ : Int) = (t : Int) + burnOf N z := by omega
      rcases onWay_next o hx hon with ⟨n1, n2, n3⟩ | ⟨y, n1, n2⟩
      · obtain ⟨s1, s2⟩ := solo_end (b := at_) o hz hb n1
        rw [s1, s2]
        have hpl : placeL N (at_ : Int) (lightsL N b x) = none := place_after o hx n2 (by omega)
        refine ⟨trivial, .inr (.inr ⟨g, z, at_, ⟨by omega, rfl, rfl, n2, by omega, by omega, by rw [he]; exact hfo, hup, fun r hr => by
          have h1 := hle r hr
          have h2 := burn_pos o hz
          omega⟩, rfl⟩), ?_, fun _ => hpl⟩
        rw [hpl, dark_stand]
      · obtain ⟨s1, s2⟩ := solo_go (b := at_) o hz hb n1
        rw [s1, s2]
        have hyl := nxt_lt o n1
        have bp := burn_pos o hyl
        rw [← he] at n2 hfo
        have hpl : placeL N (at_ : Int) (lightsL N b x) = some (y, (at_ : Int) - (at_ : Int)) := on_place o hx (r := ((at_ : Int), y)) n2 (Int.le_refl _) (by show (at_ : Int) < (at_ : Int) + burnOf N y; omega)
        refine ⟨trivial, .inr (.inl ⟨g ++ [(at_, y)], y, at_, ⟨by omega, rfl, by rw [List.map_append]; rfl, hyl, n2, by omega, by omega, ?_, ?_, fun r hr => ?_⟩, rfl⟩), ?_, fun q => by cases q⟩
        · rw [castG_app]
          exact hfo.more o hx n2
        · rw [castG_app, List.map_append]
          exact up_app hup (castG_lt fun r hr => by
            have h1 := hle r hr
            have h2 := burn_pos o hz
            show (r.1 : Int) < at_
            omega)
        · rcases List.mem_append.mp hr with hr | hr
          · have := hle r hr; omega
          · rw [List.mem_singleton.mp hr]; exact Nat.le_refl _
        · rw [hpl, one_stand]
  · obtain ⟨h1, rfl, rfl, hw, hT, h5, hfo, hup, hle⟩ := hC
    rw [if_neg (show ¬ at_ = b by omega)]
    obtain ⟨s1, s2⟩ := solo_dark (b := at_) o
    rw [s1, s2]
    have hpl : placeL N (at_ : Int) (lightsL N b x) = none := place_after o hx hw (by omega)
    refine ⟨trivial, .inr (.inr ⟨g, z, T, ⟨by omega, rfl, by rw [List.append_nil], hw, hT, by omega, hfo, hup, hle⟩, rfl⟩), ?_, fun _ => hpl⟩
    rw [hpl, dark_stand]
/-- at the end: all lit rows -/
theorem solo_fin {N : Net} {b x at_ : Nat} {L : List Lt} {R : List Row} {e : Bool} (hb : b < at_) (h : SoloAt N b x at_ L R e) : ∃ (g : List (Nat × Nat)) (tl : List Row) (T : Int), R = g.map litR ++ tl ∧ (∀ r ∈ tl, ∃ T z, r = .ended T z 0) ∧ LitOk N b x (castG g) T at_ := by
  rcases h with ⟨h1, _⟩ | ⟨g, z, t, hB, _⟩ | ⟨g, z, T, hC, _⟩
  · omega
  · obtain ⟨h1, _, rfl, hz, hon, h5, h6, hfo, hup, hle⟩ := hB
    refine ⟨g, [], _, (List.append_nil _).symm, fun r hr => (by cases hr), hfo, hup, fun r hr => ?_, .inl h6⟩
    obtain ⟨q, hq, rfl⟩ := List.mem_map.mp hr
    have := hle q hq
    show (q.1 : Int) < at_
    omega
  · obtain ⟨h1, _, rfl, hw, hT, h5, hfo, hup, hle⟩ := hC
    refine ⟨g, [.ended T z 0], T, rfl, fun r hr => ⟨T, z, List.mem_singleton.mp hr⟩, hfo, hup, fun r hr => ?_, .inr ⟨hw, hT⟩⟩
    obtain ⟨q, hq, rfl⟩ := List.mem_map.mp hr
    have := hle q hq
    show (q.1 : Int) < at_
    omega
end Em

namespace K24
open PySem PySem.Spec PyProof.Rows L2 Qt Em
/-! ### the text by places -/
def topS (i : Nat) : Stmt := PySem.Challenge.pw_emberlane_k24_whole_alone_in_an_embers.main.body.getD i (.Pass ⟨0, 0, 0, 0⟩)
abbrev s_is_whole : Stmt := topS 8
abbrev s_is_whole_N : List Str := ["thing"]
theorem sc_is_whole : FnScope s_is_whole_N ["thing"] (defScope s_is_whole) := ⟨rfl, rfl, rfl, by decide +kernel, rfl, by decide +kernel, by decide +kernel⟩
abbrev s_is_pair : Stmt := topS 9
abbrev s_is_pair_N : List Str := ["thing"]
theorem sc_is_pair : FnScope s_is_pair_N ["thing"] (defScope s_is_pair) := ⟨rfl, rfl, rfl, by decide +kernel, rfl, by decide +kernel, by decide +kernel⟩
abbrev s_is_number_of_many : Stmt := topS 10
abbrev s_is_number_of_many_N : List Str := ["thing", "many"]
theorem sc_is_number_of_many : FnScope s_is_number_of_many_N ["thing", "many"] (defScope s_is_number_of_many) := ⟨rfl, rfl, rfl, by decide +kernel, rfl, by decide +kernel, by decide +kernel⟩
abbrev s_is_lamp_of_many : Stmt := topS 11
abbrev s_is_lamp_of_many_N : List Str := ["thing", "many", "length", "onward"]
theorem sc_is_lamp_of_many : FnScope s_is_lamp_of_many_N ["thing", "many"] (defScope s_is_lamp_of_many) := ⟨rfl, rfl, rfl, by decide +kernel, rfl, by decide +kernel, by decide +kernel⟩
abbrev s_is_net : Stmt := topS 12
abbrev s_is_net_N : List Str := ["thing", "many"]
theorem sc_is_net : FnScope s_is_net_N ["thing"] (defScope s_is_net) := ⟨rfl, rfl, rfl, by decide +kernel, rfl, by decide +kernel, by decide +kernel⟩
abbrev s_need_net : Stmt := topS 13
abbrev s_need_net_N : List Str := ["net"]
theorem sc_need_net : FnScope s_need_net_N ["net"] (defScope s_need_net) := ⟨rfl, rfl, rfl, by decide +kernel, rfl, by decide +kernel, by decide +kernel⟩
abbrev s_need_lamp : Stmt := topS 14
abbrev s_need_lamp_N : List Str := ["net", "lamp"]
theorem sc_need_lamp : FnScope s_need_lamp_N ["net", "lamp"] (defScope s_need_lamp) := ⟨rfl, rfl, rfl, by decide +kernel, rfl, by decide +kernel, by decide +kernel⟩
abbrev s_is_kindling_of_many : Stmt := topS 15
abbrev s_is_kindling_of_many_N : List Str := ["thing", "many", "beat", "lamp"]
theorem sc_is_kindling_of_many : FnScope s_is_kindling_of_many_N ["thing", "many"] (defScope s_is_kindling_of_many) := ⟨rfl, rfl, rfl, by decide +kernel, rfl, by decide +kernel, by decide +kernel⟩
abbrev s_way_of : Stmt := topS 16
abbrev s_way_of_N : List Str := ["net", "lamp", "gone", "at", "first"]
theorem sc_way_of : FnScope s_way_of_N ["net", "lamp"] (defScope s_way_of) := ⟨rfl, rfl, rfl, by decide +kernel, rfl, by decide +kernel, by decide +kernel⟩
abbrev s_need_kindling : Stmt := topS 18
abbrev s_need_kindling_N : List Str := ["net", "kindling"]
theorem sc_need_kindling : FnScope s_need_kindling_N ["net", "kindling"] (defScope s_need_kindling) := ⟨rfl, rfl, rfl, by decide +kernel, rfl, by decide +kernel, by decide +kernel⟩
abbrev s_need_beat : Stmt := topS 19
abbrev s_need_beat_N : List Str := ["beat"]
theorem sc_need_beat : FnScope s_need_beat_N ["beat"] (defScope s_need_beat) := ⟨rfl, rfl, rfl, by decide +kernel, rfl, by decide +kernel, by decide +kernel⟩
abbrev s_lights_of : Stmt := topS 21
abbrev s_lights_of_N : List Str := ["net", "kindling", "beat", "lamp", "ahead", "ring", "lap", "lights", "at"]
theorem sc_lights_of : FnScope s_lights_of_N ["net", "kindling"] (defScope s_lights_of) := ⟨rfl, rfl, rfl, by decide +kernel, rfl, by decide +kernel, by decide +kernel⟩
abbrev s_place_by_lights : Stmt := topS 22
abbrev s_place_by_lights_N : List Str := ["net", "lights", "beat", "lamp", "first", "lap", "burnt"]
theorem sc_place_by_lights : FnScope s_place_by_lights_N ["net", "lights", "beat"] (defScope s_place_by_lights) := ⟨rfl, rfl, rfl, by decide +kernel, rfl, by decide +kernel, by decide +kernel⟩
abbrev s_place_alone : Stmt := topS 23
abbrev s_place_alone_N : List Str := ["net", "kindling", "beat"]
theorem sc_place_alone : FnScope s_place_alone_N ["net", "kindling", "beat"] (defScope s_place_alone) := ⟨rfl, rfl, rfl, by decide +kernel, rfl, by decide +kernel, by decide +kernel⟩
abbrev s_lights_alone : Stmt := topS 24
abbrev s_lights_alone_N : List Str := ["net", "kindling", "lamp"]
theorem sc_lights_alone : FnScope s_lights_alone_N ["net", "kindling", "lamp"] (defScope s_lights_alone) := ⟨rfl, rfl, rfl, by decide +kernel, rfl, by decide +kernel, by decide +kernel⟩
abbrev s_Embers___init__ : Stmt := inClass (topS 27) 0
abbrev s_Embers___init___N : List Str := ["self", "net", "_"]
theorem sc_Embers___init__ : FnScope s_Embers___init___N ["self", "net"] (defScope s_Embers___init__) := ⟨rfl, rfl, rfl, by decide +kernel, rfl, by decide +kernel, by decide +kernel⟩
abbrev s_Embers_kindle : Stmt := inClass (topS 27) 1
abbrev s_Embers_kindle_N : List Str := ["self", "lamp", "flame"]
theorem sc_Embers_kindle : FnScope s_Embers_kindle_N ["self", "lamp"] (defScope s_Embers_kindle) := ⟨rfl, rfl, rfl, by decide +kernel, rfl, by decide +kernel, by decide +kernel⟩
abbrev s_Embers_go : Stmt := inClass (topS 27) 2
abbrev s_Embers_go_N : List Str := ["self", "beats", "told", "_"]
theorem sc_Embers_go : FnScope s_Embers_go_N ["self", "beats"] (defScope s_Embers_go) := ⟨rfl, rfl, rfl, by decide +kernel, rfl, by decide +kernel, by decide +kernel⟩
abbrev s_Embers_coming : Stmt := inClass (topS 27) 3
abbrev s_Embers_coming_N : List Str := ["self"]
theorem sc_Embers_coming : FnScope s_Embers_coming_N ["self"] (defScope s_Embers_coming) := ⟨rfl, rfl, rfl, by decide +kernel, rfl, by decide +kernel, by decide +kernel⟩
abbrev s_Embers_burning : Stmt := inClass (topS 27) 4
abbrev s_Embers_burning_N : List Str := ["self", "gone_last", "told", "light", "flame", "lit_at"]
theorem sc_Embers_burning : FnScope s_Embers_burning_N ["self"] (defScope s_Embers_burning) := ⟨rfl, rfl, rfl, by decide +kernel, rfl, by decide +kernel, by decide +kernel⟩
abbrev s_Embers_happened : Stmt := inClass (topS 27) 5
abbrev s_Embers_happened_N : List Str := ["self"]
theorem sc_Embers_happened : FnScope s_Embers_happened_N ["self"] (defScope s_Embers_happened) := ⟨rfl, rfl, rfl, by decide +kernel, rfl, by decide +kernel, by decide +kernel⟩
abbrev s_Embers__go_on : Stmt := inClass (topS 27) 6
abbrev s_Embers__go_on_N : List Str := ["self", "comers", "_", "rows", "flame", "lamp", "flames"]
theorem sc_Embers__go_on : FnScope s_Embers__go_on_N ["self"] (defScope s_Embers__go_on) := ⟨rfl, rfl, rfl, by decide +kernel, rfl, by decide +kernel, by decide +kernel⟩
abbrev s_Embers__darken : Stmt := inClass (topS 27) 7
abbrev s_Embers__darken_N : List Str := ["self", "comers", "ended", "lamp", "length", "onward", "light"]
theorem sc_Embers__darken : FnScope s_Embers__darken_N ["self", "comers"] (defScope s_Embers__darken) := ⟨rfl, rfl, rfl, by decide +kernel, rfl, by decide +kernel, by decide +kernel⟩
abbrev s_Embers__meet : Stmt := inClass (topS 27) 8
abbrev s_Embers__meet_N : List Str := ["self", "lamp", "flames", "rows", "lost", "flame"]
theorem sc_Embers__meet : FnScope s_Embers__meet_N ["self", "lamp", "flames"] (defScope s_Embers__meet) := ⟨rfl, rfl, rfl, by decide +kernel, rfl, by decide +kernel, by decide +kernel⟩
abbrev s_law_jar : Stmt := topS 29
abbrev s_law_jar_N : List Str := ["cell", "k"]
theorem sc_law_jar : FnScope s_law_jar_N ["cell", "k"] (defScope s_law_jar) := ⟨rfl, rfl, rfl, by decide +kernel, rfl, by decide +kernel, by decide +kernel⟩
abbrev s_law_pull : Stmt := topS 30
abbrev s_law_pull_N : List Str := ["jar", "many", "found"]
theorem sc_law_pull : FnScope s_law_pull_N ["jar", "many"] (defScope s_law_pull) := ⟨rfl, rfl, rfl, by decide +kernel, rfl, by decide +kernel, by decide +kernel⟩
abbrev s_law_cells : Stmt := topS 31
abbrev s_law_cells_N : List Str := ["script", "most"]
theorem sc_law_cells : FnScope s_law_cells_N ["script", "most"] (defScope s_law_cells) := ⟨rfl, rfl, rfl, by decide +kernel, rfl, by decide +kernel, by decide +kernel⟩
abbrev s_law_next : Stmt := topS 32
abbrev s_law_next_N : List Str := ["jar", "many", "k", "kind", "some", "there"]
theorem sc_law_next : FnScope s_law_next_N ["jar", "many", "k", "kind"] (defScope s_law_next) := ⟨rfl, rfl, rfl, by decide +kernel, rfl, by decide +kernel, by decide +kernel⟩
abbrev s_law_net : Stmt := topS 33
abbrev s_law_net_N : List Str := ["jar", "wide", "many", "kind", "size", "found", "k"]
theorem sc_law_net : FnScope s_law_net_N ["jar", "wide"] (defScope s_law_net) := ⟨rfl, rfl, rfl, by decide +kernel, rfl, by decide +kernel, by decide +kernel⟩
abbrev s_law_lit_beats : Stmt := topS 34
abbrev s_law_lit_beats_N : List Str := ["land", "start", "k", "long", "told"]
theorem sc_law_lit_beats : FnScope s_law_lit_beats_N ["land", "start", "k", "long"] (defScope s_law_lit_beats) := ⟨rfl, rfl, rfl, by decide +kernel, rfl, by decide +kernel, by decide +kernel⟩
abbrev s_law_stand : Stmt := topS 35
abbrev s_law_stand_N : List Str := ["land", "start", "at", "found", "place"]
theorem sc_law_stand : FnScope s_law_stand_N ["land", "start", "at"] (defScope s_law_stand) := ⟨rfl, rfl, rfl, by decide +kernel, rfl, by decide +kernel, by decide +kernel⟩
abbrev s_law_right : Stmt := topS 36
abbrev s_law_right_N : List Str := ["jar", "land", "start", "ember", "ended", "at", "row", "k", "lit"]
theorem sc_law_right : FnScope s_law_right_N ["jar"] (defScope s_law_right) := ⟨rfl, rfl, rfl, by decide +kernel, rfl, by decide +kernel, by decide +kernel⟩
abbrev s_law : Stmt := topS 37
abbrev s_law_N : List Str := ["script", "cells", "k"]
theorem sc_law : FnScope s_law_N ["script"] (defScope s_law) := ⟨rfl, rfl, rfl, by decide +kernel, rfl, by decide +kernel, by decide +kernel⟩

structure Ad where
  a_is_whole : Addr
  f_is_whole : FuncData
  a_is_pair : Addr
  f_is_pair : FuncData
  a_is_number_of_many : Addr
  f_is_number_of_many : FuncData
  a_is_lamp_of_many : Addr
  f_is_lamp_of_many : FuncData
  a_is_net : Addr
  f_is_net : FuncData
  a_need_net : Addr
  f_need_net : FuncData
  a_need_lamp : Addr
  f_need_lamp : FuncData
  a_is_kindling_of_many : Addr
  f_is_kindling_of_many : FuncData
  a_way_of : Addr
  f_way_of : FuncData
  a_need_kindling : Addr
  f_need_kindling : FuncData
  a_need_beat : Addr
  f_need_beat : FuncData
  a_lights_of : Addr
  f_lights_of : FuncData
  a_place_by_lights : Addr
  f_place_by_lights : FuncData
  a_place_alone : Addr
  f_place_alone : FuncData
  a_lights_alone : Addr
  f_lights_alone : FuncData
  a_Embers___init__ : Addr
  f_Embers___init__ : FuncData
  a_Embers_kindle : Addr
  f_Embers_kindle : FuncData
  a_Embers_go : Addr
  f_Embers_go : FuncData
  a_Embers_coming : Addr
  f_Embers_coming : FuncData
  a_Embers_burning : Addr
  f_Embers_burning : FuncData
  a_Embers_happened : Addr
  f_Embers_happened : FuncData
  a_Embers__go_on : Addr
  f_Embers__go_on : FuncData
  a_Embers__darken : Addr
  f_Embers__darken : FuncData
  a_Embers__meet : Addr
  f_Embers__meet : FuncData
  a_law_jar : Addr
  f_law_jar : FuncData
  a_law_pull : Addr
  f_law_pull : FuncData
  a_law_cells : Addr
  f_law_cells : FuncData
  a_law_next : Addr
  f_law_next : FuncData
  a_law_net : Addr
  f_law_net : FuncData
  a_law_lit_beats : Addr
  f_law_lit_beats : FuncData
  a_law_stand : Addr
  f_law_stand : FuncData
  a_law_right : Addr
  f_law_right : FuncData
  a_law : Addr
  f_law : FuncData
  c_EmberError : Addr
  c_NoNet : Addr
  c_NoKindlings : Addr
  c_NoLamp : Addr
  c_NoBeat : Addr
  c_Embers : Addr
  cd_is_net : Addr
  tb_is_net : Addr
  cd_lights_of : Addr
  tb_lights_of : Addr
structure Tx (K : PySem.W.Frag) (mg : Str → Option Value) (a : Ad) : Prop where
  is_whole : Df K mg "is_whole" s_is_whole ["thing"] a.a_is_whole a.f_is_whole
  is_pair : Df K mg "is_pair" s_is_pair ["thing"] a.a_is_pair a.f_is_pair
  is_number_of_many : Df K mg "is_number_of_many" s_is_number_of_many ["thing", "many"] a.a_is_number_of_many a.f_is_number_of_many
  is_lamp_of_many : Df K mg "is_lamp_of_many" s_is_lamp_of_many ["thing", "many"] a.a_is_lamp_of_many a.f_is_lamp_of_many
  is_net : Df K mg "is_net" s_is_net ["thing"] a.a_is_net a.f_is_net
  need_net : Df K mg "need_net" s_need_net ["net"] a.a_need_net a.f_need_net
  need_lamp : Df K mg "need_lamp" s_need_lamp ["net", "lamp"] a.a_need_lamp a.f_need_lamp
  is_kindling_of_many : Df K mg "is_kindling_of_many" s_is_kindling_of_many ["thing", "many"] a.a_is_kindling_of_many a.f_is_kindling_of_many
  way_of : Df K mg "way_of" s_way_of ["net", "lamp"] a.a_way_of a.f_way_of
  need_kindling : Df K mg "need_kindling" s_need_kindling ["net", "kindling"] a.a_need_kindling a.f_need_kindling
  need_beat : Df K mg "need_beat" s_need_beat ["beat"] a.a_need_beat a.f_need_beat
  lights_of : Df K mg "lights_of" s_lights_of ["net", "kindling"] a.a_lights_of a.f_lights_of
  place_by_lights : Df K mg "place_by_lights" s_place_by_lights ["net", "lights", "beat"] a.a_place_by_lights a.f_place_by_lights
  place_alone : Df K mg "place_alone" s_place_alone ["net", "kindling", "beat"] a.a_place_alone a.f_place_alone
  lights_alone : Df K mg "lights_alone" s_lights_alone ["net", "kindling", "lamp"] a.a_lights_alone a.f_lights_alone
  law_jar : Df K mg "_law_jar" s_law_jar ["cell", "k"] a.a_law_jar a.f_law_jar
  law_pull : Df K mg "_law_pull" s_law_pull ["jar", "many"] a.a_law_pull a.f_law_pull
  law_cells : Df K mg "_law_cells" s_law_cells ["script", "most"] a.a_law_cells a.f_law_cells
  law_next : Df K mg "_law_next" s_law_next ["jar", "many", "k", "kind"] a.a_law_next a.f_law_next
  law_net : Df K mg "_law_net" s_law_net ["jar", "wide"] a.a_law_net a.f_law_net
  law_lit_beats : Df K mg "_law_lit_beats" s_law_lit_beats ["land", "start", "k", "long"] a.a_law_lit_beats a.f_law_lit_beats
  law_stand : Df K mg "_law_stand" s_law_stand ["land", "start", "at"] a.a_law_stand a.f_law_stand
  law_right : Df K mg "_law_right" s_law_right ["jar"] a.a_law_right a.f_law_right
  law : Df K mg "law" s_law ["script"] a.a_law a.f_law
  n_all : mg "all" = none
  n_bool : mg "bool" = none
  n_enumerate : mg "enumerate" = none
  n_int : mg "int" = none
  n_isinstance : mg "isinstance" = none
  n_len : mg "len" = none
  n_list : mg "list" = none
  n_max : mg "max" = none
  n_range : mg "range" = none
  n_sorted : mg "sorted" = none
  n_sum : mg "sum" = none
  n_tuple : mg "tuple" = none
  c_MOST_LAMPS : ∃ t, mg "MOST_LAMPS" = some (.int 12 t)
  c_MOST_BEATS : ∃ t, mg "MOST_BEATS" = some (.int 400 t)
  code_is_net : CodeIs K a.a_is_net a.cd_is_net
  code_lights_of : CodeIs K a.a_lights_of a.cd_lights_of
  cl_Embers : Cls K a.c_Embers
  mk_Embers : Mk K a.c_Embers a.a_Embers___init__
  na_Embers__net : NoAttr K a.c_Embers "_net"
  na_Embers__beat : NoAttr K a.c_Embers "_beat"
  na_Embers__flames : NoAttr K a.c_Embers "_flames"
  na_Embers__waiting : NoAttr K a.c_Embers "_waiting"
  na_Embers__lights : NoAttr K a.c_Embers "_lights"
  na_Embers__rows : NoAttr K a.c_Embers "_rows"
  g_EmberError : mg "EmberError" = some (.ref a.c_EmberError)
  g_NoNet : mg "NoNet" = some (.ref a.c_NoNet)
  g_NoKindlings : mg "NoKindlings" = some (.ref a.c_NoKindlings)
  g_NoLamp : mg "NoLamp" = some (.ref a.c_NoLamp)
  g_NoBeat : mg "NoBeat" = some (.ref a.c_NoBeat)
  g_Embers : mg "Embers" = some (.ref a.c_Embers)
  F_Embers___init__ : Fun K "__init__" "Embers.__init__" s_Embers___init__ a.a_Embers___init__ a.f_Embers___init__
  b_Embers___init__ : Binds K a.f_Embers___init__ ["self", "net"] []
  m_Embers___init__ : Meth K a.c_Embers "__init__" a.a_Embers___init__
  F_Embers_kindle : Fun K "kindle" "Embers.kindle" s_Embers_kindle a.a_Embers_kindle a.f_Embers_kindle
  b_Embers_kindle : Binds K a.f_Embers_kindle ["self", "lamp"] []
  m_Embers_kindle : Meth K a.c_Embers "kindle" a.a_Embers_kindle
  F_Embers_go : FunD K "go" "Embers.go" (defArgs s_Embers_go) (defBody s_Embers_go) (defScope s_Embers_go) [] [("beats", V.int 1)] a.a_Embers_go a.f_Embers_go
  m_Embers_go : Meth K a.c_Embers "go" a.a_Embers_go
  F_Embers_coming : Fun K "coming" "Embers.coming" s_Embers_coming a.a_Embers_coming a.f_Embers_coming
  b_Embers_coming : Binds K a.f_Embers_coming ["self"] []
  m_Embers_coming : Meth K a.c_Embers "coming" a.a_Embers_coming
  F_Embers_burning : Fun K "burning" "Embers.burning" s_Embers_burning a.a_Embers_burning a.f_Embers_burning
  b_Embers_burning : Binds K a.f_Embers_burning ["self"] []
  m_Embers_burning : Meth K a.c_Embers "burning" a.a_Embers_burning
  F_Embers_happened : Fun K "happened" "Embers.happened" s_Embers_happened a.a_Embers_happened a.f_Embers_happened
  b_Embers_happened : Binds K a.f_Embers_happened ["self"] []
  m_Embers_happened : Meth K a.c_Embers "happened" a.a_Embers_happened
  F_Embers__go_on : Fun K "_go_on" "Embers._go_on" s_Embers__go_on a.a_Embers__go_on a.f_Embers__go_on
  b_Embers__go_on : Binds K a.f_Embers__go_on ["self"] []
  m_Embers__go_on : Meth K a.c_Embers "_go_on" a.a_Embers__go_on
  F_Embers__darken : Fun K "_darken" "Embers._darken" s_Embers__darken a.a_Embers__darken a.f_Embers__darken
  b_Embers__darken : Binds K a.f_Embers__darken ["self", "comers"] []
  m_Embers__darken : Meth K a.c_Embers "_darken" a.a_Embers__darken
  F_Embers__meet : Fun K "_meet" "Embers._meet" s_Embers__meet a.a_Embers__meet a.f_Embers__meet
  b_Embers__meet : Binds K a.f_Embers__meet ["self", "lamp", "flames"] []
  m_Embers__meet : Meth K a.c_Embers "_meet" a.a_Embers__meet
def lv_is_whole : Nat := 1
def lv_is_pair : Nat := 1
def lv_is_number_of_many : Nat := 2
def lv_is_lamp_of_many : Nat := 3
def lv_is_net : Nat := 6
def lv_need_net : Nat := 7
def lv_need_lamp : Nat := 3
def lv_is_kindling_of_many : Nat := 3
def lv_way_of : Nat := 8
def lv_need_kindling : Nat := 8
def lv_need_beat : Nat := 2
def lv_lights_of : Nat := 11
def lv_place_by_lights : Nat := 1
def lv_place_alone : Nat := 12
def lv_lights_alone : Nat := 12
def lv_law_jar : Nat := 1
def lv_law_pull : Nat := 1
def lv_law_cells : Nat := 1
def lv_law_next : Nat := 2
def lv_law_net : Nat := 3
def lv_law_lit_beats : Nat := 13
def lv_law_stand : Nat := 13
def lv_law_right : Nat := 14
def lv_law : Nat := 15
def lv_Embers___init__ : Nat := 8
def lv_Embers_kindle : Nat := 4
def lv_Embers_go : Nat := 3
def lv_Embers_coming : Nat := 1
def lv_Embers_burning : Nat := 1
def lv_Embers_happened : Nat := 1
def lv_Embers__go_on : Nat := 2
def lv_Embers__darken : Nat := 1
def lv_Embers__meet : Nat := 1
/-! ### is_whole, is_pair, is_number_of_many, is_lamp_of_many: quiet -/
section
variable {c : Qc} {a : Ad} {S : List Addr} {v u : V} {d e : PyData}
theorem qf_is_whole (O : c.Ok) (T : Tx c.K c.mg a) (h : Dx S c.H v d) : QF c 1 a.a_is_whole a.f_is_whole ["thing"] [v] (.bl (isW d)) := by
  refine q_fun O T.is_whole.F sc_is_whole (by decide +kernel) rfl fun L cdv => ?_
  have e1 : isW d = (kindB d "int" && !kindB d "bool") := by cases d <;> rfl
  rw [e1]
  exact qb_ret (q_and2 (qe_isi (C := "int") O h (q_name rfl) rfl T.n_isinstance rfl T.n_int (by decide +kernel) (by decide)) fun _ => q_not (qe_isi (C := "bool") O h (q_name rfl) rfl T.n_isinstance rfl T.n_bool (by decide +kernel) (by decide)))
def pairB : PyData → Bool
  | .tuple ds => (ds.length : Int) == 2
  | _ => false
theorem qf_is_pair (O : c.Ok) (T : Tx c.K c.mg a) (h : Dx S c.H v d) : QF c 1 a.a_is_pair a.f_is_pair ["thing"] [v] (.bl (pairB d)) := by
  refine q_fun O T.is_pair.F sc_is_pair (by decide +kernel) rfl fun L cdv => ?_
  have h1 : ∀ {k p1 p2 p3 pos}, QE c k (envOfC "is_pair" (defScope s_is_pair) L a.a_is_pair cdv) [("thing", v)] (.Call (.Name "isinstance" p1) [.Name "thing" p2, .Name (Str.ofString "tuple") p3] [] pos) (.bl (kindB d "tuple")) :=
    qe_isi (C := "tuple") O h (q_name rfl) rfl T.n_isinstance rfl T.n_tuple (by decide +kernel) (by decide)
  have e1 : pairB d = (kindB d "tuple" && pairB d) := by cases d <;> rfl
  rw [e1]
  refine qb_ret (q_and2 h1 fun z => ?_)
  cases h with
  | tup n h r =>
    have := r.len
    show QE _ _ _ _ _ (.bl ((_ : Int) == 2))
    rw [← this]
    exact q_cmp qo_eq (q_callB O (qc_lenT (tupQ_of O h)) rfl T.n_len (by decide +kernel) (qa_cons (q_name rfl) qa_nil)) q_int rfl
  | non => cases z
  | bl b => cases z
  | int i => cases z
  | str y => cases z
  | lst n h r => cases z
  | dic n h => cases z
theorem qf_is_number_of_many {m : Nat} (O : c.Ok) (T : Tx c.K c.mg a) (h : Dx S c.H v d) : QF c 2 a.a_is_number_of_many a.f_is_number_of_many ["thing", "many"] [v, .int m] (.bl (numB m d)) := by
  refine q_fun O T.is_number_of_many.F sc_is_number_of_many (by decide +kernel) rfl fun L cdv => ?_
  have e1 : numB m d = (isW d && numB m d) := by cases d <;> rfl
  rw [e1]
  refine qb_ret (q_and2 (q_call O (qf_is_whole O T h) T.is_whole.b rfl rfl T.is_whole.g T.is_whole.F.kp (qa_cons (q_name rfl) qa_nil)) fun z => ?_)
  cases h with
  | int i => exact q_chain qo_le qo_lt q_int (q_name rfl) (q_name rfl)
  | non => cases z
  | bl b => cases z
  | tup n h r => cases z
  | str y => cases z
  | lst n h r => cases z
  | dic n h => cases z
theorem lampB_pair {m : Nat} (h : pairB d = false) : lampB m d = false := by
  cases d with
  | tuple ds =>
    match ds, h with
    | [], _ => rfl
    | [_], _ => rfl
    | [_, _], h => cases h
    | _ :: _ :: _ :: _, _ => rfl
  | _ => rfl
theorem qf_is_lamp_of_many {m : Nat} (O : c.Ok) (T : Tx c.K c.mg a) (h : Dx S c.H v d) : QF c 3 a.a_is_lamp_of_many a.f_is_lamp_of_many ["thing", "many"] [v, .int m] (.bl (lampB m d)) := by
  refine q_fun O T.is_lamp_of_many.F sc_is_lamp_of_many (by decide +kernel) rfl fun L cdv => ?_
  have hp : ∀ {N : Nm} {p1 p2 pos}, N.lookup ("thing" : Str) = some v → QE c 2 (envOfC "is_lamp_of_many" (defScope s_is_lamp_of_many) L a.a_is_lamp_of_many cdv) N (.Call (.Name "is_pair" p1) [.Name "thing" p2] [] pos) (.bl (pairB d)) := fun hN =>
    q_call O (fun A R args us s r => qf_is_pair O T h A R args us s (r.mono (by decide))) T.is_pair.b rfl rfl T.is_pair.g T.is_pair.F.kp (qa_cons (q_name hN) qa_nil)
  cases z : pairB d with
  | false =>
    rw [lampB_pair z]
    refine qb_ifT (qt_not (t := false) (qt_val ?_)) (qb_ret q_bool)
    rw [← z]
    exact hp rfl
  | true =>
    refine qb_ifF (qt_not (t := true) (qt_val ?_)) ?_
    · rw [← z]
      exact hp rfl
    cases h with
    | @tup ad xs ds n h r =>
      have hl : (ds.length : Int) = 2 := by simpa [pairB] using z
      match ds, r with
      | [d1, d2], .cons (v := v1) r1 (.cons (v := v2) r2 .nil) =>
        refine qb_two (q_name rfl) (tupQ_of O h) rfl rfl (fun y hy => ?_) ?_
        · by_cases e1 : y = "thing"
          · rw [e1]; rfl
          · by_cases e2 : y = "many"
            · rw [e2]; rfl
            · have q1 : (y == ("thing" : Str)) = false := by simpa using e1
              have q2 : (y == ("many" : Str)) = false := by simpa using e2
              simp [List.zip, List.zipWith, List.lookup, q1, q2] at hy
        · have hw : ∀ {N : Nm} {p1 p2 pos}, N.lookup ("length" : Str) = some v1 → QE c 2 (envOfC "is_lamp_of_many" (defScope s_is_lamp_of_many) L a.a_is_lamp_of_many cdv) N (.Call (.Name "is_whole" p1) [.Name "length" p2] [] pos) (.bl (isW d1)) := fun hN =>
            q_call O (fun A R args us s r => qf_is_whole O T r1 A R args us s (r.mono (by decide))) T.is_whole.b rfl rfl T.is_whole.g T.is_whole.F.kp (qa_cons (q_name hN) qa_nil)
          cases y1 : isW d1 with
          | false =>
            have e3 : lampB m (.tuple [d1, d2]) = false := by
              have : lenB d1 = false := by cases d1 <;> first | rfl | cases y1
              show (lenB d1 && _) = false
              rw [this]; rfl
            rw [e3]
            refine qb_ifT (qt_orT (qt_not (t := false) (qt_val ?_))) (qb_ret q_bool)
            rw [← y1]
            exact hw rfl
          | true =>
            cases r1 with
            | int i =>
              have h0 : ∀ {p1 p2 p3 p4}, QT c 2 (envOfC "is_lamp_of_many" (defScope s_is_lamp_of_many) L a.a_is_lamp_of_many cdv) (("onward", v2) :: ("length", .int i) :: [("thing", .ref ad), ("many", .int m)])
                  (.UnaryOp .Not (.Call (.Name "is_whole" p1) [.Name "length" p2] [] p3) p4) false := by
                refine qt_not (t := true) (qt_val ?_)
                exact hw rfl
              have e4 : lampB m (.tuple [.int i, d2]) = (!decide (i < 1) && nxB m d2) := rfl
              cases y2 : decide (i < 1) with
              | true =>
                rw [e4, y2]
                exact qb_ifT (qt_or2 h0 (y2 ▸ qt_cmp qo_lt (q_name rfl) q_int rfl)) (qb_ret q_bool)
              | false =>
                rw [e4, y2]
                refine qb_ifF (qt_or2 h0 (y2 ▸ qt_cmp qo_lt (q_name rfl) q_int rfl)) ?_
                have e5 : (!false && nxB m d2) = (decide (v2 = .non) || numB m d2) := by
                  cases r2 <;> first | rfl | (simp [nxB])
                rw [e5]
                refine qb_ret (q_or2 (q_isN (q_name rfl)) fun _ => ?_)
                exact q_call O (fun A R args us s r => qf_is_number_of_many O T r2 A R args us s (r.mono (by decide))) T.is_number_of_many.b rfl rfl T.is_number_of_many.g T.is_number_of_many.F.kp (qa_cons (q_name rfl) (qa_cons (q_name rfl) qa_nil))
            | non => cases y1
            | bl b => cases y1
            | tup n h r => cases y1
            | str y => cases y1
            | lst n h r => cases y1
            | dic n h => cases y1
    | non => cases z
    | bl b => cases z
    | int i => cases z
    | str y => cases z
    | lst n h r => cases z
    | dic n h => cases z
end
/-! ### is_net -/
section
variable {P : Program} {w : World} {K : PySem.W.Frag} {mg : Str → Option Value} {base : Heap} {a : Ad}
/-- is_net(thing), thing any data -/
def spIsNet (TB : Addr) : Sp := fun vs H Q _ => ∃ (S : List Addr) (v : V) (d : PyData), vs = [v] ∧ Dx S H v d ∧ GxR.TabG H TB ∧ ∀ H', Kp [] H H' → Q (.bl (netB d)) H'
theorem ok_is_net (T : Tx K mg a) (TB : GxR.TabB base mg a.cd_is_net a.tb_is_net) : FnOk P w K mg base CX0 6 a.a_is_net a.f_is_net ["thing"] (spIsNet a.tb_is_net) := by
  refine okC T.is_net.F T.code_is_net sc_is_net (fun vs H Q E h => ?_) (fun A outer s H vs Q E hr h => ?_)
  · obtain ⟨S, v, d, rfl, _⟩ := h
    rfl
  obtain ⟨S, v, d, rfl, hd, ht, q⟩ := h
  refine ⟨_, (pss_cons (ps_if (pt_not (pt_val (pe_callB call_isi (by rfl) T.n_isinstance (by decide +kernel) (pa_cons (pv 0) (pa_cons (pe_bltn (v := .ty "tuple") (by rfl) T.n_tuple (by decide +kernel) rfl) pa_nil))))) (pss_one (ps_ret pe_bl)) pss_nil)
      (pss_cons (ps_set (i := 1) sc_is_net.nd rfl (by first | exact .inl rfl | exact .inr rfl) (pe_callB call_len_seq (by rfl) T.n_len (by decide +kernel) (pa_cons (pv 0) pa_nil)))
      (pss_cons (ps_if (PW.pt (pw_or (pt_cmpR op_lt (pv 1) pe_int (nomark _)) (pw_or1 (pt_cmpR op_gt (pv 1) (pe_glob (v := .int 12) rfl T.c_MOST_LAMPS.choose_spec ⟨_, rfl⟩) (nomark _))))) (pss_one (ps_ret pe_bl)) pss_nil)
      (pss_one (ps_ret (pe_allQ (k := 1) (hr.mono (by decide)) (by rfl) T.n_all TB rfl ⟨rfl, rfl, by decide +kernel, by decide +kernel, by decide +kernel, free_by (by decide +kernel)⟩ (pv 0) (fun _ => rfl))))))), ?_⟩
  have hk : PySem.W.kitOne K (.type (kname d)) (.type "tuple") = some (kindB d "tuple") := kit_data (by decide)
  refine ⟨v, rfl, v, .ty "tuple", _, _, _, rfl, .ty _, tyx_of hd, hk, _, rfl, ?_⟩
  cases z : kindB d "tuple" with
  | false =>
    refine iteT ?_
    have e : netB d = false := by cases d <;> first | rfl | cases z
    have := q H Kp.rfl'
    rw [e] at this
    exact this
  | true =>
    refine iteF ?_
    cases hd with
    | @tup ad xs ds n h r =>
      have hl : (xs.length : Int) = (ds.length : Int) := by rw [r.len]
      -- many = len(thing)
      refine ⟨.ref ad, rfl, ad, xs, rfl, .inr (SqT.of h), ?_⟩
      rw [hl]
      -- if many < 1 or many > MOST_LAMPS
      refine ⟨.int ds.length, rfl, _, _, rfl, rfl, _, rfl, ?_⟩
      have e0 : netB (.tuple ds) = (!decide ((ds.length : Int) < 1) && !decide ((12 : Int) < (ds.length : Int)) && (ds.map (lampB ds.length)).all id) := rfl
      cases z1 : decide ((ds.length : Int) < 1) with
      | true =>
        refine iteT (iteT ?_)
        have := q H Kp.rfl'
        rw [e0, z1] at this
        exact this
      | false =>
        refine iteF ⟨.int ds.length, rfl, _, _, rfl, rfl, _, rfl, ?_⟩
        cases z2 : decide ((12 : Int) < (ds.length : Int)) with
        | true =>
          refine iteT ?_
          have := q H Kp.rfl'
          rw [e0, z1, z2] at this
          exact this
        | false =>
          refine iteF ?_
          -- return all(..)
          refine ⟨.ref ad, rfl, ad, xs, ds.map (lampB ds.length), [("many", .int ds.length)], rfl, .inl (SqT.of h), ht, fun y vy hy => ?_, ⟨by rw [List.length_map, r.len], fun hd env OK hsc j xv b hx hb => ?_⟩, fun H2 hT => ?_⟩
          · by_cases ey : y = "many"
            · subst ey
              have e2 : V.int ds.length = vy := by simpa [List.lookup] using hy
              subst e2
              exact ⟨by decide, by decide +kernel, by decide +kernel, 1, rfl, rfl, (by decide +kernel : (defScope s_is_net).names.lookup _ = some .cell)⟩
            · have ey' : (y == ("many" : Str)) = false := by simpa using ey
              simp [List.lookup, ey'] at hy
          · obtain ⟨dj, hdj, hxv⟩ := r.get hx
            rw [List.getElem?_map, hdj] at hb
            cases hb
            have OT : Tx (Qc.mk P w K mg (wipe H a.tb_is_net) hd).K (Qc.mk P w K mg (wipe H a.tb_is_net) hd).mg a := T
            have hw : Dx S (wipe H a.tb_is_net) xv dj := hxv.wiped ht
            refine q_call OK (qf_is_lamp_of_many OK OT hw) T.is_lamp_of_many.b rfl ?_ T.is_lamp_of_many.g T.is_lamp_of_many.F.kp (qa_cons (q_name rfl) (qa_cons (q_name rfl) qa_nil))
            show env.scope.names.lookup _ = _
            rw [hsc]
            decide +kernel
          · have := q H2 (Kp.tabbed ht hT)
            rw [e0, z1, z2] at this
            exact this
    | non => cases z
    | bl b => cases z
    | int i => cases z
    | str y => cases z
    | lst n h r => cases z
    | dic n h => cases z
end

/-! ### need_net, need_lamp of what is right -/
section
variable {P : Program} {w : World} {K : PySem.W.Frag} {mg : Str → Option Value} {base : Heap} {a : Ad}
def spNeedNet (TB : Addr) : Sp := fun vs H Q _ => ∃ (S : List Addr) (v : V) (N : Net), vs = [v] ∧ Dx S H v (netD N) ∧ NetOk N ∧ GxR.TabG H TB ∧ ∀ H', Kp [] H H' → Q .non H'
theorem ok_need_net (T : Tx K mg a) (TB : GxR.TabB base mg a.cd_is_net a.tb_is_net) : FnOk P w K mg base CX0 7 a.a_need_net a.f_need_net ["net"] (spNeedNet a.tb_is_net) := by
  have G_is_net := ok_is_net (P := P) (w := w) (base := base) T TB
  refine T.need_net.F.ok sc_need_net (fun vs H Q E h => ?_) (fun cdv A outer s H vs Q E hr h => ?_)
  · obtain ⟨S, v, N, rfl, _⟩ := h
    rfl
  obtain ⟨S, v, N, rfl, hd, ok, ht, q⟩ := h
  refine ⟨_, (pss_one (ps_if (pt_not (pt_val (pe_call G_is_net (hr.mono (by decide)) (by rfl) T.is_net.g T.is_net.F.kp T.is_net.b .nil pass0 (pa_cons (pv 0) pa_nil)))) (pss_one ps_never) pss_nil)), ?_⟩
  refine ⟨v, rfl, S, v, netD N, rfl, hd, ht, fun H' k => ⟨true, by rw [netB_of ok], ?_⟩⟩
  exact iteF (q H' k)
def spNeedLamp : Sp := fun vs H Q _ => ∃ (S : List Addr) (v : V) (N : Net) (x : Nat), vs = [v, .int x] ∧ Dx S H v (netD N) ∧ x < N.length ∧ Q .non H
theorem ok_need_lamp (T : Tx K mg a) : FnOk P w K mg base CX0 3 a.a_need_lamp a.f_need_lamp ["net", "lamp"] spNeedLamp := by
  have G_is_number_of_many : FnOk P w K mg base CX0 2 a.a_is_number_of_many a.f_is_number_of_many ["thing", "many"] (fun vs H Q _ => ∃ (x m : Nat), vs = [.int x, .int m] ∧ x < m ∧ Q (.bl true) H) := by
    refine fn_ofQ (fun vs H Q E h => ?_) fun vs H Q E h => ?_
    · obtain ⟨x, m, rfl, _⟩ := h
      rfl
    · obtain ⟨x, m, rfl, hx, q⟩ := h
      refine ⟨.bl true, q, fun hd OK => ?_⟩
      have OT : Tx (Qc.mk P w K mg H hd).K (Qc.mk P w K mg H hd).mg a := T
      have := qf_is_number_of_many (S := []) (m := m) OK OT (.int (x : Int))
      have e : numB m (.int (x : Int)) = true := by
        show (decide ((0 : Int) ≤ (x : Int)) && decide ((x : Int) < (m : Int))) = true
        rw [decide_eq_true (by omega), decide_eq_true (by omega)]
        rfl
      rw [e] at this
      exact fun A R args us s r => this A R args us s (r.mono (by decide))
  refine T.need_lamp.F.ok sc_need_lamp (fun vs H Q E h => ?_) (fun cdv A outer s H vs Q E hr h => ?_)
  · obtain ⟨S, v, N, x, rfl, _⟩ := h
    rfl
  obtain ⟨S, v, N, x, rfl, hd, hx, q⟩ := h
  refine ⟨_, (pss_one (ps_if (pt_not (pt_val (pe_call G_is_number_of_many (hr.mono (by decide)) (by rfl) T.is_number_of_many.g T.is_number_of_many.F.kp T.is_number_of_many.b .nil pass0 (pa_cons (pv 1) (pa_cons (pe_callB call_len_seq (by rfl) T.n_len (by decide +kernel) (pa_cons (pv 0) pa_nil)) pa_nil))))) (pss_one ps_never) pss_nil)), ?_⟩
  cases hd with
  | @tup ad xs ds n h r =>
    have e := r.len
    rw [List.length_map] at e
    refine ⟨.int x, rfl, .ref ad, rfl, ad, xs, rfl, .inr (SqT.of h), x, N.length, by rw [e]; rfl, hx, true, rfl, ?_⟩
    exact iteF q
end

/-! ### way_of -/
section
variable {P : Program} {w : World} {K : PySem.W.Frag} {mg : Str → Option Value} {base : Heap} {a : Ad}
def spWayOf (TB : Addr) : Sp := fun vs H Q _ => ∃ (S : List Addr) (v : V) (N : Net) (x : Nat), vs = [v, .int x] ∧ Dx S H v (netD N) ∧ NetOk N ∧ x < N.length ∧ GxR.TabG H TB ∧ ∀ v' H', Kp [] H H' → Nw H H' v' (wayD N x) → Q v' H'
theorem ok_way_of (T : Tx K mg a) (TB : GxR.TabB base mg a.cd_is_net a.tb_is_net) : FnOk P w K mg base CX0 8 a.a_way_of a.f_way_of ["net", "lamp"] (spWayOf a.tb_is_net) := by
  have G_need_net := ok_need_net (P := P) (w := w) (base := base) T TB
  have G_need_lamp := ok_need_lamp (P := P) (w := w) (base := base) T
  refine T.way_of.F.ok sc_way_of (fun vs H Q E h => ?_) (fun cdv A outer s H vs Q E hr h => ?_)
  · obtain ⟨S, v, N, x, rfl, _⟩ := h
    rfl
  obtain ⟨S, v, N, x, rfl, hd, ok, hx, ht, q⟩ := h
  refine ⟨_, (pss_cons (ps_expr (pe_call G_need_net (hr.mono (by decide)) (by rfl) T.need_net.g T.need_net.F.kp T.need_net.b .nil pass0 (pa_cons (pv 0) pa_nil)))
      (pss_cons (ps_expr (pe_call G_need_lamp (hr.mono (by decide)) (by rfl) T.need_lamp.g T.need_lamp.F.kp T.need_lamp.b .nil pass0 (pa_cons (pv 0) (pa_cons (pv 1) pa_nil))))
      (pss_cons (ps_set (i := 2) sc_way_of.nd rfl (by first | exact .inl rfl | exact .inr rfl) (pe_lst pa_nil))
      (pss_cons (ps_set (i := 3) sc_way_of.nd rfl (by first | exact .inl rfl | exact .inr rfl) (pv 1))
      (pss_cons (ps_while PassesOwn.never (PW.pt (pw_and (pt_cmpR op_notN (pv 3) pe_non (nomark _)) (pw_and1 (pt_cmpR op_notIn_seq (pv 3) (pv 2) (by rfl))))) (pss_cons (ps_expr (pe_bm PySem.F.plainAttrs_list PySem.F.slot_list_append PySem.F.type_list_append mt_append (pv 2) (pa_cons (pv 3) pa_nil)))
      (pss_one (ps_set (i := 3) sc_way_of.nd rfl (by first | exact .inl rfl | exact .inr rfl) (pe_ix ix_tup (pe_ix ix_tup (pv 0) (pv 3) (fun _ _ => rfl)) pe_int (fun _ _ => rfl))))))
      (pss_cons (ps_if (pt_cmpR op_isN (pv 3) pe_non (nomark _)) (pss_one (ps_ret (pe_tup (pa_cons (pe_callTy call_tuple_of (by rfl) T.n_tuple (by decide +kernel) (pa_cons (pv 2) pa_nil)) (pa_cons (pe_tup pa_nil) pa_nil))))) pss_nil)
      (pss_cons (ps_set (i := 4) sc_way_of.nd rfl (by first | exact .inl rfl | exact .inr rfl) (pe_bm PySem.F.plainAttrs_list PySem.F.slot_list_index PySem.F.type_list_index mt_index (pv 2) (pa_cons (pv 3) pa_nil)))
      (pss_one (ps_ret (pe_tup (pa_cons (pe_callTy call_tuple_of (by rfl) T.n_tuple (by decide +kernel) (pa_cons (pe_slice sl_list (pv 2) po_none (po_some (pv 4))) pa_nil)) (pa_cons (pe_callTy call_tuple_of (by rfl) T.n_tuple (by decide +kernel) (pa_cons (pe_slice sl_list (pv 2) (po_some (pv 4)) po_none) pa_nil)) pa_nil)))))))))))), ?_⟩
  -- need_net(net), need_lamp(net, lamp)
  refine ⟨v, rfl, S, v, N, rfl, hd, ok, ht, fun Ha ka => ?_⟩
  have hda : Dx S Ha v (netD N) := hd.kp ka fun _ z => by cases z
  refine ⟨v, rfl, .int x, rfl, S, v, N, x, rfl, hda, hx, ?_⟩
  -- gone = [], at = lamp
  refine ⟨Nat.zero_le _, fun gp ng => ⟨.int x, rfl, ?_⟩⟩
  have hdl : ∀ l, Dx S (upd Ha gp (.lst l)) v (netD N) := fun l => hda.kp (Kp.new (S := []) ng) fun _ z => by cases z
  obtain ⟨I, hI⟩ : ∃ I : Nat → L2.St → Hp → Prop, I = fun m σ H3 => ∃ (g : List Nat) (at_ : V), σ = [some v, some (.int x), some (.ref gp), some at_, none] ∧ H3 = upd Ha gp (.lst (natV g)) ∧ ((g = [] ∧ at_ = .int x) ∨ ∃ i, Gone N x i g ∧ at_ = nxV (nxt N (lastOf g))) ∧ m + g.length = N.length + 1 := ⟨_, rfl⟩
  refine ⟨I, ⟨N.length + 1, by rw [hI]; exact ⟨[], _, rfl, rfl, .inl ⟨rfl, rfl⟩, rfl⟩⟩, fun m σ H3 hW => ?_⟩
  rw [hI] at hW
  obtain ⟨g, at_, rfl, rfl, hg, hm⟩ := hW
  have hdg := hdl (natV g)
  have hgp : (upd Ha gp (.lst (natV g))) gp = some (.lst (natV g)) := upd_same
  have kg : Kp [] H (upd Ha gp (.lst (natV g))) := ka.tr (Kp.new ng)
  have trg : ∀ b, H b ≠ none → (upd Ha gp (.lst (natV g))) b ≠ none := kg.tr_
  have hlen : g.length ≤ N.length := by
    rcases hg with ⟨e, _⟩ | ⟨i, gi, _⟩
    · rw [e]; exact Nat.zero_le _
    · exact gi.le
  have h12 := ok.hi
  have zl : (natV g).length < sizeLine := by rw [natV_len]; exact Nat.lt_of_le_of_lt (Nat.le_trans hlen h12) (by decide)
  have two : (∃ y : Nat, at_ = .int y ∧ y < N.length ∧ ((g = [] ∧ y = x) ∨ ∃ i, Gone N x i g ∧ nxt N (lastOf g) = some y)) ∨ (at_ = .non ∧ ∃ i, Gone N x i g ∧ nxt N (lastOf g) = none) := by
    rcases hg with ⟨e, e2⟩ | ⟨i, gi, e2⟩
    · exact .inl ⟨x, e2, hx, .inl ⟨e, rfl⟩⟩
    · cases z : nxt N (lastOf g) with
      | none => rw [z] at e2; exact .inr ⟨e2, i, gi, rfl⟩
      | some y => rw [z] at e2; exact .inl ⟨y, e2, nxt_lt ok z, .inr ⟨i, gi, rfl⟩⟩
  rcases two with ⟨y, rfl, hy, hst⟩ | ⟨rfl, i, gi, hnx⟩
  · -- a lamp is come to
    refine ⟨.int y, rfl, rfl, _, rfl, iteT ?_⟩
    refine ⟨.int y, rfl, .ref gp, rfl, gp, natV g, rfl, .inl (SqL.of hgp), rfl, natV_flat g, _, rfl, ?_⟩
    show if (!inV (.int (y : Int)) (natV g)) = true then _ else _
    rw [inV_natV]
    by_cases hn : y ∈ g
    · -- it was come by: the loop is over
      rw [decide_eq_true hn]
      refine iteF ?_
      rcases hst with ⟨e, _⟩ | ⟨i, gi, hnx⟩
      · rw [e] at hn; cases hn
      have hpa : path N x = g := gi.done (step_in hnx hn)
      have hcut : cutAt N (path N x) = g.idxOf y := by rw [hpa]; unfold cutAt; rw [hnx]
      have hix : g.idxOf y < g.length := List.idxOf_lt_length_iff.mpr hn
      have hge : g[g.idxOf y]? = some y := by rw [List.getElem?_eq_getElem hix, List.getElem_idxOf hix]
      -- if at is None
      refine ⟨.int y, rfl, rfl, _, rfl, iteF ?_⟩
      -- first = gone.index(at)
      refine ⟨.ref gp, rfl, .inl ⟨rfl, _, SqL.of hgp⟩, .int y, rfl, gp, natV g, .int y, g.idxOf y, .int y, rfl, rfl, SqL.of hgp, rfl, natV_flat g, natV_get hge, by show ((y : Int) == (y : Int)) = true; simp, fun j z hj hz => ?_, ?_⟩
      · obtain ⟨u, hu, rfl⟩ : ∃ u, g[j]? = some u ∧ z = .int (u : Int) := by
          unfold natV at hz
          rw [List.getElem?_map] at hz
          cases q1 : g[j]? with
          | none => rw [q1] at hz; cases hz
          | some u => rw [q1] at hz; exact ⟨u, rfl, (Option.some.inj hz).symm⟩
        show ((u : Int) == (y : Int)) = false
        have hne : u ≠ y := idx_ne hj hu
        simp only [beq_eq_false_iff_ne]
        omega
      -- return (tuple(gone[:first]), tuple(gone[first:]))
      refine ⟨.ref gp, rfl, .int (g.idxOf y : Nat), rfl, _, rfl, gp, natV g, rfl, SqL.of hgp, fun p1 n1 => ?_⟩
      obtain ⟨H1, e1⟩ : ∃ H1, H1 = upd (upd Ha gp (.lst (natV g))) p1 (.lst (cutV (natV g) none (some (g.idxOf y : Nat)))) := ⟨_, rfl⟩
      rw [← e1]
      have k1 : Kp [] (upd Ha gp (.lst (natV g))) H1 := e1 ▸ Kp.new n1
      refine ⟨p1, _, rfl, .inl ⟨SqL.of (by rw [e1]; exact upd_same), fun t1 nt1 => ?_⟩⟩
      rw [natV_cut0 (Nat.le_of_lt hix)]
      obtain ⟨H2, e2⟩ : ∃ H2, H2 = upd H1 t1 (.tup (natV (g.take (g.idxOf y)))) := ⟨_, rfl⟩
      rw [← e2]
      have k2 : Kp [] H1 H2 := e2 ▸ Kp.new nt1
      have w1 : Nw H H2 (.ref t1) (natsD (g.take (g.idxOf y))) := by
        rw [e2]
        exact Nw.tup (kg.tr k1).tr_ nt1 (nwA_natV _)
      have hgp2 : H2 gp = some (.lst (natV g)) := (k1.tr k2).lst (by simp) hgp
      refine ⟨.ref gp, rfl, .int (g.idxOf y : Nat), rfl, _, rfl, gp, natV g, rfl, SqL.of hgp2, fun p2 n2 => ?_⟩
      obtain ⟨H3, e3⟩ : ∃ H3, H3 = upd H2 p2 (.lst (cutV (natV g) (some (g.idxOf y : Nat)) none)) := ⟨_, rfl⟩
      rw [← e3]
      have k3 : Kp [] H2 H3 := e3 ▸ Kp.new n2
      refine ⟨p2, _, rfl, .inl ⟨SqL.of (by rw [e3]; exact upd_same), fun t2 nt2 => ?_⟩⟩
      rw [natV_cut1 (Nat.le_of_lt hix)]
      obtain ⟨H4, e4⟩ : ∃ H4, H4 = upd H3 t2 (.tup (natV (g.drop (g.idxOf y)))) := ⟨_, rfl⟩
      rw [← e4]
      have k4 : Kp [] H3 H4 := e4 ▸ Kp.new nt2
      have kh4 : Kp [] H H4 := kg.tr (k1.tr (k2.tr (k3.tr k4)))
      have w2 : Nw H H4 (.ref t2) (natsD (g.drop (g.idxOf y))) := by
        rw [e4]
        exact Nw.tup (kg.tr (k1.tr (k2.tr k3))).tr_ nt2 (nwA_natV _)
      refine ⟨by show 2 ≤ sizeLine; decide, fun t3 n3 => q _ _ (kh4.tr (Kp.new n3)) ?_⟩
      have e5 : wayD N x = .tuple [natsD (g.take (g.idxOf y)), natsD (g.drop (g.idxOf y))] := by
        unfold wayD wayA wayR
        rw [hcut, hpa]
      rw [e5]
      exact Nw.tup kh4.tr_ n3 (.cons (w1.kp (k3.tr k4)) (.cons w2 .nil))
    · rw [decide_eq_false hn]
      refine iteT ⟨fun σ' H' => ∃ m', m' < m ∧ I m' σ' H', fun _ _ h => h, ?_⟩
      obtain ⟨p, hp⟩ : ∃ p, N[y]? = some p := ⟨N[y], List.getElem?_eq_getElem hy⟩
      -- gone.append(at)
      refine ⟨.ref gp, rfl, .inl ⟨rfl, _, SqL.of hgp⟩, .int y, rfl, gp, natV g, .int y, rfl, rfl, hgp, zl, ?_⟩
      rw [upd_upd]
      -- at = net[at][1]
      obtain ⟨ad, xs, rfl, _, h1, hl1, hat⟩ := net_at (hdl (natV g ++ [.int (y : Int)]))
      obtain ⟨la, hxl, _, h2⟩ := hat y p hp
      refine ⟨.ref ad, rfl, .int y, rfl, ad, xs, y, .ref la, rfl, rfl, SqT.of h1, atI_nat hxl, la, _, 1, nxV p.2, rfl, rfl, SqT.of h2, atI_nat (j := 1) rfl, ?_⟩
      rw [hI]
      have hyg : Gone N x (g.length) (g ++ [y]) := by
        rcases hst with ⟨e, e2⟩ | ⟨i, gi, hnx⟩
        · subst e; subst e2; exact Gone.start hx
        · have := gi.more ok hnx hn
          rwa [← gi.len] at this
      have hgl := hyg.le
      rw [List.length_append] at hgl
      refine ⟨m - 1, by simp at hgl; omega, g ++ [y], nxV p.2, rfl, by rw [natV_app], .inr ⟨_, hyg, by rw [last_app, nxt_get hp]⟩, ?_⟩
      rw [List.length_append]
      simp at hgl ⊢
      omega
  · -- the way is over
    refine ⟨.non, rfl, rfl, _, rfl, iteF ?_⟩
    refine ⟨.non, rfl, rfl, _, rfl, iteT ?_⟩
    have hpa : path N x = g := gi.done (step_none hnx)
    have hcut : cutAt N (path N x) = g.length := by rw [hpa]; unfold cutAt; rw [hnx]
    refine ⟨.ref gp, rfl, gp, natV g, rfl, .inl ⟨SqL.of hgp, fun t1 nt1 => ?_⟩⟩
    obtain ⟨H2, e2⟩ : ∃ H2, H2 = upd (upd Ha gp (.lst (natV g))) t1 (.tup (natV g)) := ⟨_, rfl⟩
    rw [← e2]
    have k2 : Kp [] (upd Ha gp (.lst (natV g))) H2 := e2 ▸ Kp.new nt1
    have w1 : Nw H H2 (.ref t1) (natsD g) := by
      rw [e2]
      exact Nw.tup kg.tr_ nt1 (nwA_natV _)
    refine ⟨Nat.zero_le _, fun t2 nt2 => ?_⟩
    obtain ⟨H4, e4⟩ : ∃ H4, H4 = upd H2 t2 (.tup []) := ⟨_, rfl⟩
    rw [← e4]
    have k4 : Kp [] H2 H4 := e4 ▸ Kp.new nt2
    have kh4 : Kp [] H H4 := kg.tr (k2.tr k4)
    have w2 : Nw H H4 (.ref t2) (natsD []) := by
      rw [e4]
      exact Nw.tup (kg.tr k2).tr_ nt2 .nil
    refine ⟨by show 2 ≤ sizeLine; decide, fun t3 n3 => q _ _ (kh4.tr (Kp.new n3)) ?_⟩
    have e5 : wayD N x = .tuple [natsD g, natsD []] := by
      unfold wayD wayA wayR
      rw [hcut, hpa, List.take_length, List.drop_length]
    rw [e5]
    exact Nw.tup kh4.tr_ n3 (.cons (w1.kp k4) (.cons w2 .nil))
end

/-! ### is_kindling_of_many: quiet; are_kindlings -/
section
variable {c : Qc} {a : Ad} {S : List Addr} {v u : V} {d e : PyData}
theorem sparkB_pair {m : Nat} (h : pairB d = false) : sparkB m d = false := by
  cases d with
  | tuple ds =>
    match ds, h with
    | [], _ => rfl
    | [_], _ => rfl
    | [_, _], h => cases h
    | _ :: _ :: _ :: _, _ => rfl
  | _ => rfl
theorem qf_is_kindling_of_many {m : Nat} (O : c.Ok) (T : Tx c.K c.mg a) (h : Dx S c.H v d) : QF c 3 a.a_is_kindling_of_many a.f_is_kindling_of_many ["thing", "many"] [v, .int m] (.bl (sparkB m d)) := by
  refine q_fun O T.is_kindling_of_many.F sc_is_kindling_of_many (by decide +kernel) rfl fun L cdv => ?_
  have hp : ∀ {N : Nm} {p1 p2 pos}, N.lookup ("thing" : Str) = some v → QE c 2 (envOfC "is_kindling_of_many" (defScope s_is_kindling_of_many) L a.a_is_kindling_of_many cdv) N (.Call (.Name "is_pair" p1) [.Name "thing" p2] [] pos) (.bl (pairB d)) := fun hN =>
    q_call O (fun A R args us s r => qf_is_pair O T h A R args us s (r.mono (by decide))) T.is_pair.b rfl rfl T.is_pair.g T.is_pair.F.kp (qa_cons (q_name hN) qa_nil)
  cases z : pairB d with
  | false =>
    rw [sparkB_pair z]
    refine qb_ifT (qt_not (t := false) (qt_val ?_)) (qb_ret q_bool)
    rw [← z]
    exact hp rfl
  | true =>
    refine qb_ifF (qt_not (t := true) (qt_val ?_)) ?_
    · rw [← z]
      exact hp rfl
    cases h with
    | @tup ad xs ds n h r =>
      have hl : (ds.length : Int) = 2 := by simpa [pairB] using z
      match ds, r with
      | [d1, d2], .cons (v := v1) r1 (.cons (v := v2) r2 .nil) =>
        refine qb_two (q_name rfl) (tupQ_of O h) rfl rfl (fun y hy => ?_) ?_
        · by_cases e1 : y = "thing"
          · rw [e1]; rfl
          · by_cases e2 : y = "many"
            · rw [e2]; rfl
            · have q1 : (y == ("thing" : Str)) = false := by simpa using e1
              have q2 : (y == ("many" : Str)) = false := by simpa using e2
              simp [List.zip, List.zipWith, List.lookup, q1, q2] at hy
        · have hw : ∀ {N : Nm} {p1 p2 pos}, N.lookup ("beat" : Str) = some v1 → QE c 2 (envOfC "is_kindling_of_many" (defScope s_is_kindling_of_many) L a.a_is_kindling_of_many cdv) N (.Call (.Name "is_whole" p1) [.Name "beat" p2] [] pos) (.bl (isW d1)) := fun hN =>
            q_call O (fun A R args us s r => qf_is_whole O T r1 A R args us s (r.mono (by decide))) T.is_whole.b rfl rfl T.is_whole.g T.is_whole.F.kp (qa_cons (q_name hN) qa_nil)
          cases y1 : isW d1 with
          | false =>
            have e3 : sparkB m (.tuple [d1, d2]) = false := by
              have : beatB d1 = false := by cases d1 <;> first | rfl | cases y1
              show (beatB d1 && _) = false
              rw [this]; rfl
            rw [e3]
            refine qb_ifT (qt_orT (qt_not (t := false) (qt_val ?_))) (qb_ret q_bool)
            rw [← y1]
            exact hw rfl
          | true =>
            cases r1 with
            | int i =>
              have h0 : ∀ {p1 p2 p3 p4}, QT c 2 (envOfC "is_kindling_of_many" (defScope s_is_kindling_of_many) L a.a_is_kindling_of_many cdv) (("lamp", v2) :: ("beat", .int i) :: [("thing", .ref ad), ("many", .int m)])
                  (.UnaryOp .Not (.Call (.Name "is_whole" p1) [.Name "beat" p2] [] p3) p4) false := by
                refine qt_not (t := true) (qt_val ?_)
                exact hw rfl
              have e4 : sparkB m (.tuple [.int i, d2]) = (!decide (i < 0) && numB m d2) := rfl
              cases y2 : decide (i < 0) with
              | true =>
                rw [e4, y2]
                exact qb_ifT (qt_or2 h0 (y2 ▸ qt_cmp qo_lt (q_name rfl) q_int rfl)) (qb_ret q_bool)
              | false =>
                rw [e4, y2]
                refine qb_ifF (qt_or2 h0 (y2 ▸ qt_cmp qo_lt (q_name rfl) q_int rfl)) ?_
                have e5 : (!false && numB m d2) = numB m d2 := rfl
                rw [e5]
                exact qb_ret (q_call O (fun A R args us s r => qf_is_number_of_many O T r2 A R args us s (r.mono (by decide))) T.is_number_of_many.b rfl rfl T.is_number_of_many.g T.is_number_of_many.F.kp (qa_cons (q_name rfl) (qa_cons (q_name rfl) qa_nil)))
            | non => cases y1
            | bl b => cases y1
            | tup n h r => cases y1
            | str y => cases y1
            | lst n h r => cases y1
            | dic n h => cases y1
    | non => cases z
    | bl b => cases z
    | int i => cases z
    | str y => cases z
    | lst n h r => cases z
    | dic n h => cases z
end

/-! ### of a kindling that is the only one -/
section
variable {P : Program} {w : World} {K : PySem.W.Frag} {mg : Str → Option Value} {base : Heap} {a : Ad}
def sparkD (b : Int) (x : Nat) : PyData := .tuple [.int b, .int x]
theorem spark_at {H : Hp} {v : V} {b : Int} {x : Nat} (h : Tu H v (sparkD b x)) : ∃ q : Addr, v = .ref q ∧ H q = some (.tup [.int b, .int x]) := by
  cases h with
  | @tup q xs ds h t =>
    cases t with
    | cons t1 t =>
      cases t1
      cases t with
      | cons t2 t =>
        cases t
        cases t2
        exact ⟨q, rfl, h⟩
theorem spark_ok {m x : Nat} {b : Int} (h0 : 0 ≤ b) (hx : x < m) : sparkB m (sparkD b x) = true := by
  show (!decide (b < 0) && (decide ((0 : Int) ≤ (x : Int)) && decide ((x : Int) < (m : Int)))) = true
  rw [decide_eq_false (by omega), decide_eq_true (by omega), decide_eq_true (by omega)]
  rfl
def spNeedK (TB : Addr) : Sp := fun vs H Q _ => ∃ (v u : V) (N : Net) (b : Int) (x : Nat), vs = [v, u] ∧ Tu H v (netD N) ∧ NetOk N ∧ Tu H u (sparkD b x) ∧ 0 ≤ b ∧ x < N.length ∧ GxR.TabG H TB ∧ ∀ H', Kp [] H H' → Q .non H'
theorem ok_need_kindling (T : Tx K mg a) (TB : GxR.TabB base mg a.cd_is_net a.tb_is_net) : FnOk P w K mg base CX0 8 a.a_need_kindling a.f_need_kindling ["net", "kindling"] (spNeedK a.tb_is_net) := by
  have G_need_net := ok_need_net (P := P) (w := w) (base := base) T TB
  have G_is_kindling_of_many : FnOk P w K mg base CX0 3 a.a_is_kindling_of_many a.f_is_kindling_of_many ["thing", "many"] (fun vs H Q _ => ∃ (v : V) (b : Int) (x m : Nat), vs = [v, .int m] ∧ Tu H v (sparkD b x) ∧ 0 ≤ b ∧ x < m ∧ Q (.bl true) H) := by
    refine fn_ofQ (fun vs H Q E h => ?_) fun vs H Q E h => ?_
    · obtain ⟨v, b, x, m, rfl, _⟩ := h
      rfl
    · obtain ⟨v, b, x, m, rfl, ht, h0, hx, q⟩ := h
      refine ⟨.bl true, q, fun hd OK => ?_⟩
      have OT : Tx (Qc.mk P w K mg H hd).K (Qc.mk P w K mg H hd).mg a := T
      have := qf_is_kindling_of_many (S := []) (m := m) OK OT ht.dx0
      rw [spark_ok h0 hx] at this
      exact fun A R args us s r => this A R args us s (r.mono (by decide))
  refine T.need_kindling.F.ok sc_need_kindling (fun vs H Q E h => ?_) (fun cdv A outer s H vs Q E hr h => ?_)
  · obtain ⟨v, u, N, b, x, rfl, _⟩ := h
    rfl
  obtain ⟨v, u, N, b, x, rfl, hd, ok, hu, h0, hx, ht, q⟩ := h
  refine ⟨_, (pss_cons (ps_expr (pe_call G_need_net (hr.mono (by decide)) (by rfl) T.need_net.g T.need_net.F.kp T.need_net.b .nil pass0 (pa_cons (pv 0) pa_nil)))
      (pss_one (ps_if (pt_not (pt_val (pe_call G_is_kindling_of_many (hr.mono (by decide)) (by rfl) T.is_kindling_of_many.g T.is_kindling_of_many.F.kp T.is_kindling_of_many.b .nil pass0 (pa_cons (pv 1) (pa_cons (pe_callB call_len_seq (by rfl) T.n_len (by decide +kernel) (pa_cons (pv 0) pa_nil)) pa_nil))))) (pss_one ps_never) pss_nil))), ?_⟩
  refine ⟨v, rfl, [], v, N, rfl, hd.dx0, ok, ht, fun H1 k1 => ?_⟩
  obtain ⟨ad, xs, rfl, hx1, hl1, _⟩ := tnet_at (hd.kt k1.kt0)
  refine ⟨u, rfl, .ref ad, rfl, ad, xs, rfl, .inr (SqT.of hx1), u, b, x, N.length, by rw [hl1]; rfl, hu.kt k1.kt0, h0, hx, true, rfl, ?_⟩
  exact iteF (q H1 k1)
/-- the lights told -/
def spLights (TB TB2 : Addr) : Sp := fun vs H Q _ => ∃ (v u : V) (N : Net) (b : Int) (x : Nat), vs = [v, u] ∧ Tu H v (netD N) ∧ NetOk N ∧ Tu H u (sparkD b x) ∧ x < N.length ∧ GxR.TabG H TB ∧ GxR.TabG H TB2 ∧
  ∀ d r H', H d = none → H' d = some (.dK r) → LtA H' r (lightsL N b x) → Kp [] H H' → Q (.ref d) H'
theorem ok_lights_of (T : Tx K mg a) (TB : GxR.TabB base mg a.cd_is_net a.tb_is_net) (TB2 : GxR.TabB base mg a.cd_lights_of a.tb_lights_of) : FnOk P w K mg base CX0 11 a.a_lights_of a.f_lights_of ["net", "kindling"] (spLights a.tb_is_net a.tb_lights_of) := by
  have G_way_of := ok_way_of (P := P) (w := w) (base := base) T TB
  refine okC T.lights_of.F T.code_lights_of sc_lights_of (fun vs H Q E h => ?_) (fun A outer s H vs Q E hr h => ?_)
  · obtain ⟨v, u, N, b, x, rfl, _⟩ := h
    rfl
  obtain ⟨v, u, N, b, x, rfl, hn, ok, hu0, hx, ht, ht2, q⟩ := h
  have hu := hu_of hr
  obtain ⟨kq, rfl, hkq⟩ := spark_at hu0
  refine ⟨_, (pss_cons (ps_asg (pv 1) (pg_tup (by rfl) (pgs_cons (pg_name (i := 2) sc_lights_of.nd rfl (by first | exact .inl rfl | exact .inr rfl)) (pgs_cons (pg_name (i := 3) sc_lights_of.nd rfl (by first | exact .inl rfl | exact .inr rfl)) pgs_nil))))
      (pss_cons (ps_asg (pe_call G_way_of (hr.mono (by decide)) (by rfl) T.way_of.g T.way_of.F.kp T.way_of.b .nil pass0 (pa_cons (pv 0) (pa_cons (pv 3) pa_nil))) (pg_tup (by rfl) (pgs_cons (pg_name (i := 4) sc_lights_of.nd rfl (by first | exact .inl rfl | exact .inr rfl)) (pgs_cons (pg_name (i := 5) sc_lights_of.nd rfl (by first | exact .inl rfl | exact .inr rfl)) pgs_nil))))
      (pss_cons (ps_set (i := 6) sc_lights_of.nd rfl (by first | exact .inl rfl | exact .inr rfl) (pe_sumQ (k := 1) (hr.mono (by decide)) (by rfl) T.n_sum TB2 rfl ⟨rfl, rfl, by decide +kernel, by decide +kernel, by decide +kernel, free_by (by decide +kernel)⟩ (pv 5) (fun _ => rfl)))
      (pss_cons (ps_set (i := 7) sc_lights_of.nd rfl (by first | exact .inl rfl | exact .inr rfl) pe_dnewK)
      (pss_cons (ps_for PassesOwn.never rfl (pi_tup (pv 4)) (pg_name (i := 8) sc_lights_of.nd rfl (by first | exact .inl rfl | exact .inr rfl)) (pss_cons (ps_dput hu (pv 7) (pv 8) (pe_tup (pa_cons (pv 2) (pa_cons pe_non pa_nil))) rfl)
      (pss_one (ps_aug (i := 2) sc_lights_of.nd rfl (by first | exact .inl rfl | exact .inr rfl) (pe_ix ix_tup (pe_ix ix_tup (pv 0) (pv 8) (fun _ _ => rfl)) pe_int (fun _ _ => rfl)) ip_add))))
      (pss_cons (ps_for PassesOwn.never rfl (pi_tup (pv 5)) (pg_name (i := 8) sc_lights_of.nd rfl (by first | exact .inl rfl | exact .inr rfl)) (pss_cons (ps_dput hu (pv 7) (pv 8) (pe_tup (pa_cons (pv 2) (pa_cons (pv 6) pa_nil))) rfl)
      (pss_one (ps_aug (i := 2) sc_lights_of.nd rfl (by first | exact .inl rfl | exact .inr rfl) (pe_ix ix_tup (pe_ix ix_tup (pv 0) (pv 8) (fun _ _ => rfl)) pe_int (fun _ _ => rfl)) ip_add))))
      (pss_one (ps_ret (pv 7))))))))), ?_⟩
  -- beat, lamp = kindling
  refine ⟨.ref kq, rfl, kq, _, rfl, SqT.of hkq, rfl, _, _, rfl, _, _, rfl, rfl, ?_⟩
  -- ahead, ring = way_of(net, lamp)
  refine ⟨v, rfl, .int x, rfl, [], v, N, x, rfl, hn.dx0, ok, hx, ht, fun v1 H1 k1 nw => ?_⟩
  obtain ⟨wa, pa, pr, rfl, _, hwa, hpa, hpr, _, _⟩ := way_at (nw [] fun s z => by cases z)
  refine ⟨wa, _, rfl, SqT.of hwa, rfl, _, _, rfl, _, _, rfl, rfl, ?_⟩
  have hn1 := hn.kt k1.kt0
  have ht1 := k1.tab _ ht
  have ht21 := k1.tab _ ht2
  obtain ⟨ad, xs, rfl, hx1, hl1, hat⟩ := tnet_at hn1
  -- lap = sum(..)
  refine ⟨.ref pr, rfl, pr, natV (wayR N x), ((wayR N x).map (burnOf N)).map V.int, [("net", .ref ad)], rfl, .inl (SqT.of hpr), ht21, fun y vy hy => ?_, ⟨by rw [List.length_map, List.length_map, natV_len], fun hd env OK hsc j xv bv hxj hbj => ?_⟩, (wayR N x).map (burnOf N), rfl, fun H2 hT => ?_⟩
  · by_cases ey : y = "net"
    · subst ey
      have e2 : V.ref ad = vy := by simpa [List.lookup] using hy
      subst e2
      exact ⟨by decide, by decide +kernel, by decide +kernel, 0, rfl, rfl, (by decide +kernel : (defScope s_lights_of).names.lookup _ = some .cell)⟩
    · have ey' : (y == ("net" : Str)) = false := by simpa using ey
      simp [List.lookup, ey'] at hy
  · obtain ⟨yy, hyy, rfl⟩ : ∃ f : Nat, (wayR N x)[j]? = some f ∧ xv = .int (f : Int) := by
      unfold natV at hxj
      rw [List.getElem?_map] at hxj
      cases q1 : (wayR N x)[j]? with
      | none => rw [q1] at hxj; cases hxj
      | some u => rw [q1] at hxj; exact ⟨u, rfl, (Option.some.inj hxj).symm⟩
    rw [List.getElem?_map, List.getElem?_map, hyy] at hbj
    obtain rfl : V.int (burnOf N yy) = bv := Option.some.inj hbj
    have hyl := way_sub ok hx yy (List.mem_of_getElem? hyy)
    obtain ⟨la, hxl, hla⟩ := hat yy _ (List.getElem?_eq_getElem hyl)
    have w1 : wipe H1 a.tb_lights_of ad = some (.tup xs) := wiped_tup ht21 hx1
    have w2 : wipe H1 a.tb_lights_of la = some (.tup [V.int (N[yy]'hyl).1, nxV (N[yy]'hyl).2]) := wiped_tup ht21 hla
    refine q_ixT (j := 0) (q_ixT (j := yy) (q_name rfl) (q_name rfl) (tupQ_of OK w1) hxl) q_int (tupQ_of OK w2) ?_
    rw [burnOf_get (List.getElem?_eq_getElem hyl)]
    rfl
  obtain ⟨lap, elap⟩ : ∃ lap, lap = lapOf N x := ⟨_, rfl⟩
  have es : ((wayR N x).map (burnOf N)).sum = lap := elap.symm
  rw [es]
  have k2 : Kp [] H1 H2 := Kp.tabbed ht21 hT
  have hx2 := k2.kt0 _ _ hx1
  have hpa2 := k2.kt0 _ _ hpa
  have hpr2 := k2.kt0 _ _ hpr
  have hat2 : ∀ (i : Nat) (p : Int × Option Nat), N[i]? = some p → ∃ l, xs[i]? = some (V.ref l) ∧ H2 l = some (.tup [V.int p.1, nxV p.2]) := fun i p hp => let ⟨l, h1, h2⟩ := hat i p hp; ⟨l, h1, k2.kt0 _ _ h2⟩
  clear hat hx1 hpa hpr hn1
  have hpl := path_been ok hx
  have hcat := way_cat N x
  have hnd : (wayA N x ++ wayR N x).Nodup := by rw [hcat]; exact hpl.nd
  have hltA : ∀ y ∈ wayA N x ++ wayR N x, y < N.length := fun y hy => hpl.lt y (by rw [← hcat]; exact hy)
  have hle : (wayA N x).length + (wayR N x).length ≤ 12 := by
    have h1 := hpl.le
    have h2 := ok.hi
    rw [← hcat, List.length_append] at h1
    omega
  -- lights = {}
  refine fun d nd => ?_
  have k3 : Kp [] H2 (upd H2 d (.dK [])) := Kp.new nd
  -- one row of the lights
  have step : ∀ (A R : List Nat) (lp : Option Int) (lv : V) (b0 : Int) (y : Nat) (H3 : Hp) (r : List (Key × V)) (L0 : List Lgt) (QQ : Int → Hp → Prop), H3 d = some (.dK r) → LtA H3 r (L0 ++ lts N lp b0 A) → (y ∉ (L0 ++ lts N lp b0 A).map (·.1)) → L0.length + A.length < 12 → Kp [] H2 H3 → Tu H3 lv (match lp with | none => .none | some l => .int l) → y < N.length →
      (∀ r' H4, H4 d = some (.dK r') → LtA H4 r' (L0 ++ lts N lp b0 (A ++ [y])) → Kp [] H2 H4 → QQ (b0 + sumB N (A ++ [y])) H4) →
      ∀ t, H3 t = none → ∃ (Hx : Hp), DPut (upd H3 t (.tup [.int (b0 + sumB N A), lv])) d (.int y) (.ref t) Hx ∧ ∃ (la : Addr), xs[y]? = some (V.ref la) ∧ Hx ad = some (.tup xs) ∧ (∃ ov, Hx la = some (.tup [V.int (burnOf N y), ov])) ∧ QQ (b0 + sumB N A + burnOf N y) Hx := by
    intro A R lp lv b0 y H3 r L0 QQ hd3 hl3 hny hlen k23 hlv hyl fin t nt
    have k34 : Kp [] H3 (upd H3 t (.tup [.int (b0 + sumB N A), lv])) := Kp.new nt
    have hd4 : upd H3 t (.tup [.int (b0 + sumB N A), lv]) d = some (.dK r) := by rw [upd_ne (ne_of_none hd3 nt)]; exact hd3
    have hl4 := hl3.kt k34.kt0
    have hrl : r.length < 12 := by
      rw [hl3.len, List.length_append, lts_len]; exact hlen
    have hv : valV r (Sum.inl (y : Int) : Key) = none := by
      rcases hl4.val (y := y) with ⟨_, e⟩ | ⟨w, v, e, _⟩
      · exact e
      · rw [look_none hny] at e; cases e
    have htv : Tu (upd H3 t (.tup [.int (b0 + sumB N A), lv])) (.ref t) (lgtD (b0 + sumB N A, lp)) := .tup upd_same (.cons (.int _) (.cons (hlv.kt k34.kt0) .nil))
    obtain ⟨H5, e5⟩ : ∃ H5, H5 = upd (upd H3 t (.tup [.int (b0 + sumB N A), lv])) d (.dK (r ++ [((Sum.inl (y : Int) : Key), .ref t)])) := ⟨_, rfl⟩
    have k45 : Kt (upd H3 t (.tup [.int (b0 + sumB N A), lv])) H5 := by
      rw [e5]; exact Kt.put hd4 fun _ z => by cases z
    have k25 : Kp [] H2 H5 := by
      refine Kp.drop nd ?_
      rw [e5]
      exact (k23.tr k34).of0.tr (Kp.put (by simp) hd4 fun _ z => by cases z)
    obtain ⟨la, hxl, hla⟩ := hat2 y _ (List.getElem?_eq_getElem hyl)
    refine ⟨H5, ?_, la, hxl, k25.kt0 _ _ hx2, ⟨nxV (N[y]'hyl).2, ?_⟩, ?_⟩
    · rw [e5, ← putK_new (V.ref t) hv]
      exact DPut.k (k := Sum.inl (y : Int)) hd4 (Nat.lt_of_lt_of_le hrl (by decide))
    · rw [burnOf_get (List.getElem?_eq_getElem hyl)]
      exact k25.kt0 _ _ hla
    · have e6 : b0 + sumB N A + burnOf N y = b0 + sumB N (A ++ [y]) := by rw [sumB_app, sumB_one]; omega
      rw [e6]
      refine fin _ H5 (by rw [e5]; exact upd_same) ?_ k25
      rw [lts_snoc, ← List.append_assoc]
      exact (hl4.kt k45).snoc (htv.kt k45)
  -- for at in ahead
  refine ⟨.ref pa, rfl, pa, rfl, ⟨_, SqT.of (k3.kt0 _ _ hpa2)⟩, for_tup (xs := natV (wayA N x)) (fun i σ H' => ∃ (o8 : Option V) (r : List (Key × V)), σ = [some (.ref ad), some (.ref kq), some (.int (b + sumB N ((wayA N x).take i))), some (.int x), some (.ref pa), some (.ref pr), some (.int lap), some (.ref d), o8] ∧
      H' d = some (.dK r) ∧ LtA H' r ([] ++ lts N none b ((wayA N x).take i)) ∧ Kp [] H2 H') ⟨none, [], by rw [List.take_zero, sumB_nil, Int.add_zero]; rfl, upd_same, .nil, k3⟩ (fun i σ H' _ hP => ?_) (fun i z σ H3 hz hP => ?_) (fun σ H3 hP => ?_)⟩
  · obtain ⟨_, _, _, _, _, k⟩ := hP
    exact SqT.of (k.kt0 _ _ hpa2)
  · obtain ⟨o8, r, rfl, hd3, hl3, k23⟩ := hP
    obtain ⟨y, hy, rfl⟩ : ∃ f : Nat, (wayA N x)[i]? = some f ∧ z = .int (f : Int) := by
      unfold natV at hz
      rw [List.getElem?_map] at hz
      cases q1 : (wayA N x)[i]? with
      | none => rw [q1] at hz; cases hz
      | some u => rw [q1] at hz; exact ⟨u, rfl, (Option.some.inj hz).symm⟩
    have hi := (List.getElem?_eq_some_iff.mp hy).1
    have etk : (wayA N x).take (i + 1) = (wayA N x).take i ++ [y] := by rw [List.take_add_one, hy]; rfl
    refine ⟨.int _, rfl, by show 2 ≤ sizeLine; decide, fun t nt => ?_⟩
    obtain ⟨H5, hput, la, hxl, hx5, ⟨ov, hla⟩, hfin⟩ := step ((wayA N x).take i) [] none .non b y H3 r [] (fun n H' => ∃ (r : List (Key × V)), n = b + sumB N ((wayA N x).take (i + 1)) ∧ H' d = some (.dK r) ∧ LtA H' r ([] ++ lts N none b ((wayA N x).take (i + 1))) ∧ Kp [] H2 H') hd3 hl3 (by
      rw [List.nil_append, lts_fst]
      intro hm
      have := (List.nodup_append.mp hnd).1
      exact nd_take this hy hm) (by rw [List.length_take]; simp; omega) k23 .non (hltA y (List.mem_append_left _ (List.mem_of_getElem? hy))) (fun r' H4 a1 a2 a3 => ⟨r', by rw [etk], a1, by rw [etk]; exact a2, a3⟩) t nt
    refine ⟨.ref d, rfl, .int y, rfl, d, H5, rfl, hput, ?_⟩
    refine ⟨_, rfl, .ref ad, rfl, .int y, rfl, ad, xs, y, .ref la, rfl, rfl, SqT.of hx5, atI_nat hxl, la, _, 0, .int (burnOf N y), rfl, rfl, SqT.of hla, atI_nat (j := 0) rfl, _, _, rfl, rfl, ?_⟩
    obtain ⟨r', en, a1, a2, a3⟩ := hfin
    refine ⟨some (.int y), r', ?_, a1, a2, a3⟩
    rw [← en]
    rfl
  obtain ⟨o8, r, rfl, hd3, hl3, k23⟩ := hP
  rw [natV_len, List.take_length] at hl3 ⊢
  -- for at in ring
  refine ⟨.ref pr, rfl, pr, rfl, ⟨_, SqT.of (k23.kt0 _ _ hpr2)⟩, for_tup (xs := natV (wayR N x)) (fun i σ H' => ∃ (o8 : Option V) (r : List (Key × V)), σ = [some (.ref ad), some (.ref kq), some (.int (b + sumB N (wayA N x) + sumB N ((wayR N x).take i))), some (.int x), some (.ref pa), some (.ref pr), some (.int lap), some (.ref d), o8] ∧
      H' d = some (.dK r) ∧ LtA H' r (lts N none b (wayA N x) ++ lts N (some lap) (b + sumB N (wayA N x)) ((wayR N x).take i)) ∧ Kp [] H2 H') ⟨o8, r, by rw [List.take_zero, sumB_nil, Int.add_zero], hd3, by rw [List.take_zero, lts, List.append_nil]; exact hl3, k23⟩ (fun i σ H' _ hP => ?_) (fun i z σ H3 hz hP => ?_) (fun σ H3 hP => ?_)⟩
  · obtain ⟨_, _, _, _, _, k⟩ := hP
    exact SqT.of (k.kt0 _ _ hpr2)
  · obtain ⟨o8, r, rfl, hd3, hl3, k23⟩ := hP
    obtain ⟨y, hy, rfl⟩ : ∃ f : Nat, (wayR N x)[i]? = some f ∧ z = .int (f : Int) := by
      unfold natV at hz
      rw [List.getElem?_map] at hz
      cases q1 : (wayR N x)[i]? with
      | none => rw [q1] at hz; cases hz
      | some u => rw [q1] at hz; exact ⟨u, rfl, (Option.some.inj hz).symm⟩
    have hi := (List.getElem?_eq_some_iff.mp hy).1
    have etk : (wayR N x).take (i + 1) = (wayR N x).take i ++ [y] := by rw [List.take_add_one, hy]; rfl
    refine ⟨.int _, rfl, .int lap, rfl, by show 2 ≤ sizeLine; decide, fun t nt => ?_⟩
    obtain ⟨H5, hput, la, hxl, hx5, ⟨ov, hla⟩, hfin⟩ := step ((wayR N x).take i) [] (some lap) (.int lap) (b + sumB N (wayA N x)) y H3 r (lts N none b (wayA N x)) (fun n H' => ∃ (r : List (Key × V)), n = b + sumB N (wayA N x) + sumB N ((wayR N x).take (i + 1)) ∧ H' d = some (.dK r) ∧ LtA H' r (lts N none b (wayA N x) ++ lts N (some lap) (b + sumB N (wayA N x)) ((wayR N x).take (i + 1))) ∧ Kp [] H2 H') hd3 hl3 (by
      rw [List.map_append, lts_fst, lts_fst]
      intro hm
      obtain ⟨_, n2, n3⟩ := List.nodup_append.mp hnd
      rcases List.mem_append.mp hm with hm | hm
      · exact n3 y hm y (List.mem_of_getElem? hy) rfl
      · exact nd_take n2 hy hm) (by rw [lts_len, List.length_take]; omega) k23 (.int _) (hltA y (List.mem_append_right _ (List.mem_of_getElem? hy))) (fun r' H4 a1 a2 a3 => ⟨r', by rw [etk], a1, by rw [etk]; exact a2, a3⟩) t nt
    refine ⟨.ref d, rfl, .int y, rfl, d, H5, rfl, hput, ?_⟩
    refine ⟨_, rfl, .ref ad, rfl, .int y, rfl, ad, xs, y, .ref la, rfl, rfl, SqT.of hx5, atI_nat hxl, la, _, 0, .int (burnOf N y), rfl, rfl, SqT.of hla, atI_nat (j := 0) rfl, _, _, rfl, rfl, ?_⟩
    obtain ⟨r', en, a1, a2, a3⟩ := hfin
    refine ⟨some (.int y), r', ?_, a1, a2, a3⟩
    rw [← en]
    rfl
  · obtain ⟨o8, r, rfl, hd3, hl3, k23⟩ := hP
    rw [natV_len, List.take_length, elap] at hl3
    have k02 : Kp [] H H3 := k1.tr (k2.tr k23)
    refine ⟨.ref d, rfl, q d r H3 ?_ hd3 hl3 k02⟩
    cases z : H d with
    | none => rfl
    | some o => exact absurd nd ((k1.tr k2).tr_ d (by rw [z]; exact fun y => by cases y))
end
section
def placeD : Option (Nat × Int) → PyData
  | none => .none
  | some z => .tuple [.int z.1, .int z.2]
def lgtOD : Option (Int × Option Int) → PyData
  | none => .none
  | some w => lgtD w
theorem lights_ok {N : Net} (o : NetOk N) {x : Nat} (hx : x < N.length) (b : Int) : ∀ z ∈ lightsL N b x, z.1 < N.length ∧ ∀ l, z.2.2 = some l → 0 < l := by
  intro z hz
  obtain ⟨j, hj, e⟩ := List.getElem_of_mem hz
  have hl : (lightsL N b x).length = (path N x).length := by rw [← lights_fst N b x, List.length_map]
  have hyj : (path N x)[j]? = some ((path N x)[j]'(by omega)) := List.getElem?_eq_getElem _
  have hz2 := lights_get o hx b hyj
  rw [List.getElem?_eq_getElem hj, e] at hz2
  have hz3 := Option.some.inj hz2
  rw [hz3]
  refine ⟨(path_been o hx).lt _ (List.getElem_mem _), fun l el => ?_⟩
  have el2 : (if j < cutN N x then none else some (lapOf N x)) = some l := el
  by_cases hjc : j < cutN N x
  · rw [if_pos hjc] at el2; cases el2
  · rw [if_neg hjc] at el2
    obtain rfl := Option.some.inj el2
    have lp := lap_frst o hx b
    have g := frst_gap o hx b hyj (show j < (path N x).length by omega)
    have hm := sum_mono o (path_been o hx).lt (show cutN N x ≤ j by omega)
    have bp := burn_pos o ((path_been o hx).lt _ (List.getElem_mem (l := path N x) (n := j) (by omega)))
    unfold frst at lp g
    omega
end

section
variable {P : Program} {w : World} {K : PySem.W.Frag} {mg : Str → Option Value} {base : Heap} {a : Ad}
def spNeedBeat : Sp := fun vs H Q _ => ∃ (b : Int), vs = [.int b] ∧ 0 ≤ b ∧ Q .non H
theorem ok_need_beat (T : Tx K mg a) : FnOk P w K mg base CX0 2 a.a_need_beat a.f_need_beat ["beat"] spNeedBeat := by
  have G_is_whole : FnOk P w K mg base CX0 1 a.a_is_whole a.f_is_whole ["thing"] (fun vs H Q _ => ∃ b : Int, vs = [.int b] ∧ Q (.bl true) H) := by
    refine fn_ofQ (fun vs H Q E h => ?_) fun vs H Q E h => ?_
    · obtain ⟨b, rfl, _⟩ := h
      rfl
    · obtain ⟨b, rfl, q⟩ := h
      refine ⟨.bl true, q, fun hd OK => ?_⟩
      have OT : Tx (Qc.mk P w K mg H hd).K (Qc.mk P w K mg H hd).mg a := T
      have := qf_is_whole (S := []) OK OT (.int b)
      exact fun A R args us s r => this A R args us s (r.mono (by decide))
  refine T.need_beat.F.ok sc_need_beat (fun vs H Q E h => ?_) (fun cdv A outer s H vs Q E hr h => ?_)
  · obtain ⟨b, rfl, _⟩ := h
    rfl
  obtain ⟨b, rfl, h0, q⟩ := h
  refine ⟨_, (pss_one (ps_if (PW.pt (pw_or (pt_not (pt_val (pe_call G_is_whole (hr.mono (by decide)) (by rfl) T.is_whole.g T.is_whole.F.kp T.is_whole.b .nil pass0 (pa_cons (pv 0) pa_nil)))) (pw_or1 (pt_cmpR op_lt (pv 0) pe_int (nomark _))))) (pss_one ps_never) pss_nil)), ?_⟩
  refine ⟨.int b, rfl, b, rfl, true, rfl, iteF ⟨.int b, rfl, _, _, rfl, rfl, _, rfl, ?_⟩⟩
  rw [decide_eq_false (show ¬ b < 0 by omega)]
  exact iteF q
def spByL : Sp := fun vs H Q _ => ∃ (v : V) (d : Addr) (t : Int) (N : Net) (r : List (Key × V)) (L : List Lgt), vs = [v, .ref d, .int t] ∧ Tu H v (netD N) ∧ H d = some (.dK r) ∧ LtA H r L ∧ (∀ z ∈ L, z.1 < N.length ∧ ∀ l, z.2.2 = some l → 0 < l) ∧
  ∀ v' H', Tu H' v' (placeD (placeL N t L)) → Kp [d] H H' → Q v' H'
theorem ok_place_by_lights (T : Tx K mg a) : FnOk P w K mg base CX0 1 a.a_place_by_lights a.f_place_by_lights ["net", "lights", "beat"] spByL := by
  refine T.place_by_lights.F.ok sc_place_by_lights (fun vs H Q E h => ?_) (fun cdv A outer s H vs Q E hr h => ?_)
  · obtain ⟨v, d, t, N, r, L, rfl, _⟩ := h
    rfl
  obtain ⟨v, d, t, N, r, L, rfl, hn, hd, hl, hL, q⟩ := h
  refine ⟨_, (pss_cons (ps_lock (ps_for PassesOwn.never rfl (pi_items (pv 1)) (pg_tup (by rfl) (pgs_cons (pg_name (i := 3) sc_place_by_lights.nd rfl (by first | exact .inl rfl | exact .inr rfl)) (pgs_cons (pg_tup (by rfl) (pgs_cons (pg_name (i := 4) sc_place_by_lights.nd rfl (by first | exact .inl rfl | exact .inr rfl)) (pgs_cons (pg_name (i := 5) sc_place_by_lights.nd rfl (by first | exact .inl rfl | exact .inr rfl)) pgs_nil))) pgs_nil))) (pss_cons (ps_set (i := 6) sc_place_by_lights.nd rfl (by first | exact .inl rfl | exact .inr rfl) (pe_op op_sub (pv 2) (pv 4)))
      (pss_cons (ps_if (PW.pt (pw_and (pt_cmpR op_notN (pv 5) pe_non (nomark _)) (pw_and1 (pt_cmpR op_ge (pv 6) pe_int (nomark _))))) (pss_one (ps_set (i := 6) sc_place_by_lights.nd rfl (by first | exact .inl rfl | exact .inr rfl) (pe_op op_mod (pv 6) (pv 5)))) pss_nil)
      (pss_one (ps_if (pt_chain op_le op_lt pe_int (pv 6) (pe_ix ix_tup (pe_ix ix_tup (pv 0) (pv 3) (fun _ _ => rfl)) pe_int (fun _ _ => rfl))) (pss_one (ps_ret (pe_tup (pa_cons (pv 3) (pa_cons (pv 6) pa_nil))))) pss_nil))))))
      (pss_one (ps_ret pe_non))), ?_⟩
  obtain ⟨ad, xs, rfl, hx, hln, hat⟩ := tnet_at hn
  refine ⟨d, .dK r, hd, trivial, fun od => ⟨.ref d, rfl, d, od, r, rfl, upd_same, ?_⟩⟩
  obtain ⟨Hf, ef⟩ : ∃ Hf, Hf = upd H d (.frz od (.dK r)) := ⟨_, rfl⟩
  rw [← ef]
  have kf : Kp [d] H Hf := ef ▸ Kp.put (by simp) hd fun ps z => by cases z
  have tf : Kt H Hf := kf.kt fun s z ys e => by
    rw [List.mem_singleton.mp z, hd] at e
    cases e
  have hfd : Hf d = some (.frz od (.dK r)) := by rw [ef]; exact upd_same
  -- back to the open dict
  have back : ∀ H', Kp [] Hf H' → H' d = some (.frz od (.dK r)) ∧ Kp [d] H (upd H' d (.dK r)) ∧ Kt H' (upd H' d (.dK r)) := fun H' k => by
    have e : H' d = some (.frz od (.dK r)) := k.at_ d _ (by simp) hfd fun ps z => by cases z
    exact ⟨e, kf.tr (k.of0.tr (Kp.put (by simp) e fun ps z => by cases z)), Kt.put e fun _ z => by cases z⟩
  refine for_it walk_items (fun i σ H' => ∃ (o3 o4 o5 o6 : Option V), σ = [some (.ref ad), some (.ref d), some (.int t), o3, o4, o5, o6] ∧ Kp [] Hf H' ∧ placeL N t L = placeL N t (L.drop i)) ⟨none, none, none, none, rfl, .rfl', rfl⟩ (fun i σ H' _ hP => ?_) (fun i z σ H1 H2 hi hP hY => ?_) (fun σ H' hP => ?_)
  · obtain ⟨_, _, _, _, _, k, _⟩ := hP
    exact (back H' k).1
  · obtain ⟨o3, o4, o5, o6, rfl, k1, hpl⟩ := hP
    obtain ⟨Tq, y1, y2, rfl, nT, rfl, h1, h2⟩ := hY
    have hiL : i < L.length := by rw [← hl.len]; exact hi
    obtain ⟨lg, hlg⟩ : ∃ lg, L[i]? = some lg := ⟨L[i], List.getElem?_eq_getElem hiL⟩
    obtain ⟨vz, hr1, hvz⟩ := hl.get hlg
    replace h1 : r[i]?.map (fun kv => kV kv.1) = some y1 := h1
    replace h2 : r[i]?.map Prod.snd = some y2 := h2
    rw [hr1] at h1 h2
    obtain rfl : V.int (lg.1 : Int) = y1 := Option.some.inj h1
    obtain rfl : vz = y2 := Option.some.inj h2
    obtain ⟨y, fb, lp⟩ := lg
    have hdrop : L.drop i = (y, fb, lp) :: L.drop (i + 1) := by
      rw [List.drop_eq_getElem_cons hiL]
      rw [List.getElem?_eq_getElem hiL] at hlg
      rw [Option.some.inj hlg]
    obtain ⟨hyl, hpos⟩ := hL _ (List.mem_of_getElem? hlg)
    have k2 : Kp [] Hf (upd H1 Tq (.tup [.int (y : Int), vz])) := k1.tr (Kp.new nT)
    obtain ⟨H2, e2⟩ : ∃ H2, H2 = upd H1 Tq (.tup [.int (y : Int), vz]) := ⟨_, rfl⟩
    rw [← e2] at k2 ⊢
    have hT2 : H2 Tq = some (.tup [.int (y : Int), vz]) := by rw [e2]; exact upd_same
    obtain ⟨ta, rfl, hta⟩ := lgt_at (hvz.kt (tf.tr k2.kt0))
    have hx2 := (tf.tr k2.kt0) _ _ hx
    obtain ⟨la, hxl, hla⟩ := hat y _ (List.getElem?_eq_getElem hyl)
    have hla2 : H2 la = some (.tup [V.int (burnOf N y), nxV (N[y]'hyl).2]) := by
      rw [burnOf_get (List.getElem?_eq_getElem hyl)]
      exact (tf.tr k2.kt0) _ _ hla
    -- lamp, (first, lap)
    refine ⟨Tq, _, rfl, SqT.of hT2, rfl, _, _, rfl, _, _, rfl, ta, _, rfl, SqT.of hta, rfl, _, _, rfl, _, _, rfl, rfl, rfl, ?_⟩
    -- burnt = beat - first
    refine ⟨.int t, rfl, .int fb, rfl, _, _, rfl, rfl, ?_⟩
    -- what is left to be shown, the beats burnt known
    have fin : ∀ g : Int, g = gone t (y, fb, lp) → ∀ σ' : L2.St, σ' = [some (.ref ad), some (.ref d), some (.int t), some (.int (y : Int)), some (.int fb), some (match lp with | none => .non | some l => .int l), some (.int g)] → ∀ (X : Prop),
        ((0 ≤ g → g < burnOf N y → ∀ tp Hx, H2 tp = none → Hx = upd H2 tp (.tup [.int (y : Int), .int g]) → Hx d = some (.frz od (.dK r)) ∧ Q (.ref tp) (upd Hx d (.dK r))) → ((¬ (0 ≤ g ∧ g < burnOf N y)) → placeL N t L = placeL N t (L.drop (i + 1))) → X) → X := fun g eg σ' _ X hX => by
      refine hX (fun h0 h1 tp Hx ntp ex => ?_) (fun hno => ?_)
      · have kx : Kp [] Hf Hx := k2.tr (ex ▸ Kp.new ntp)
        obtain ⟨b1, b2, b3⟩ := back Hx kx
        refine ⟨b1, q _ _ ?_ b2⟩
        have ep : placeL N t L = some (y, g) := by
          rw [hpl, hdrop]
          unfold placeL
          rw [if_pos (yes_hit (by rw [← eg]; exact h0) (by rw [← eg]; exact h1)), ← eg]
        rw [ep]
        exact .tup (b3 _ _ (by rw [ex]; exact upd_same)) (.cons (.int _) (.cons (.int _) .nil))
      · rw [hpl, hdrop]
        have eh : hit N t (y, fb, lp) = false := no_hit (by
          rw [← eg]
          show burnOf N y ≤ g ∨ g < 0
          omega)
        show (if hit N t (y, fb, lp) = true then _ else _) = _
        rw [if_neg (by rw [eh]; exact Bool.false_ne_true)]
    -- the test of the lamp
    have tail : ∀ g : Int, g = gone t (y, fb, lp) → _ := fun g eg => fin g eg _ rfl
    cases lp with
    | none =>
      refine ⟨.non, rfl, rfl, _, rfl, iteF (iteF ?_)⟩
      refine ⟨.int (t - fb), rfl, _, _, rfl, rfl, _, rfl, ?_⟩
      refine tail (t - fb) rfl _ fun ha hb => ?_
      by_cases h0 : 0 ≤ t - fb
      · rw [decide_eq_true h0]
        refine iteT ⟨.ref ad, rfl, .int (y : Int), rfl, ad, xs, y, .ref la, rfl, rfl, SqT.of hx2, atI_nat hxl, la, _, 0, .int (burnOf N y), rfl, rfl, SqT.of hla2, atI_nat (j := 0) rfl, _, _, rfl, rfl, _, rfl, ?_⟩
        by_cases h1 : t - fb < burnOf N y
        · rw [decide_eq_true h1]
          exact iteT ⟨.int (y : Int), rfl, .int (t - fb), rfl, by show 2 ≤ sizeLine; decide, fun tp ntp => ha h0 h1 tp _ ntp rfl⟩
        · rw [decide_eq_false h1]
          exact iteF ⟨_, _, _, _, rfl, k2, hb fun z => h1 z.2⟩
      · rw [decide_eq_false h0]
        exact iteF ⟨_, rfl, iteF ⟨_, _, _, _, rfl, k2, hb fun z => h0 z.1⟩⟩
    | some l =>
      have hl0 := hpos l rfl
      refine ⟨.int l, rfl, rfl, _, rfl, iteT ⟨.int (t - fb), rfl, _, _, rfl, rfl, _, rfl, ?_⟩⟩
      by_cases h00 : 0 ≤ t - fb
      · rw [decide_eq_true h00]
        refine iteT ⟨.int (t - fb), rfl, .int l, rfl, _, _, rfl, rfl, (by omega), ?_⟩
        have eg : (t - fb) % l = gone t (y, fb, some l) := by
          show _ = (if 0 ≤ t - fb then (t - fb) % l else t - fb)
          rw [if_pos h00]
        refine ⟨.int ((t - fb) % l), rfl, _, _, rfl, rfl, _, rfl, ?_⟩
        have h0 : 0 ≤ (t - fb) % l := Int.emod_nonneg _ (by omega)
        refine tail _ eg _ fun ha hb => ?_
        rw [decide_eq_true h0]
        refine iteT ⟨.ref ad, rfl, .int (y : Int), rfl, ad, xs, y, .ref la, rfl, rfl, SqT.of hx2, atI_nat hxl, la, _, 0, .int (burnOf N y), rfl, rfl, SqT.of hla2, atI_nat (j := 0) rfl, _, _, rfl, rfl, _, rfl, ?_⟩
        by_cases h1 : (t - fb) % l < burnOf N y
        · rw [decide_eq_true h1]
          exact iteT ⟨.int (y : Int), rfl, .int ((t - fb) % l), rfl, by show 2 ≤ sizeLine; decide, fun tp ntp => ha h0 h1 tp _ ntp rfl⟩
        · rw [decide_eq_false h1]
          exact iteF ⟨_, _, _, _, rfl, k2, hb fun z => h1 z.2⟩
      · rw [decide_eq_false h00]
        refine iteF ?_
        have eg : t - fb = gone t (y, fb, some l) := by
          show _ = (if 0 ≤ t - fb then (t - fb) % l else t - fb)
          rw [if_neg h00]
        refine ⟨.int (t - fb), rfl, _, _, rfl, rfl, _, rfl, ?_⟩
        refine tail _ eg _ fun ha hb => ?_
        rw [decide_eq_false h00]
        exact iteF ⟨_, rfl, iteF ⟨_, _, _, _, rfl, k2, hb fun z => h00 z.1⟩⟩
  · obtain ⟨o3, o4, o5, o6, rfl, k1, hpl⟩ := hP
    obtain ⟨b1, b2, b3⟩ := back H' k1
    refine ⟨b1, q _ _ ?_ b2⟩
    rw [hpl, hl.len, List.drop_length]
    exact .non
def spPlaceA (TB TB2 : Addr) : Sp := fun vs H Q _ => ∃ (v u : V) (t : Int) (N : Net) (b : Int) (x : Nat), vs = [v, u, .int t] ∧ Tu H v (netD N) ∧ NetOk N ∧ Tu H u (sparkD b x) ∧ 0 ≤ b ∧ x < N.length ∧ 0 ≤ t ∧ GxR.TabG H TB ∧ GxR.TabG H TB2 ∧
  ∀ v' H', Tu H' v' (placeD (placeL N t (lightsL N b x))) → Kp [] H H' → Q v' H'
theorem ok_place_alone (T : Tx K mg a) (TB : GxR.TabB base mg a.cd_is_net a.tb_is_net) (TB2 : GxR.TabB base mg a.cd_lights_of a.tb_lights_of) : FnOk P w K mg base CX0 12 a.a_place_alone a.f_place_alone ["net", "kindling", "beat"] (spPlaceA a.tb_is_net a.tb_lights_of) := by
  have G_need_kindling := ok_need_kindling (P := P) (w := w) (base := base) T TB
  have G_need_beat := ok_need_beat (P := P) (w := w) (base := base) T
  have G_lights_of := ok_lights_of (P := P) (w := w) (base := base) T TB TB2
  have G_place_by_lights := ok_place_by_lights (P := P) (w := w) (base := base) T
  refine T.place_alone.F.ok sc_place_alone (fun vs H Q E h => ?_) (fun cdv A outer s H vs Q E hr h => ?_)
  · obtain ⟨v, u, t, N, b, x, rfl, _⟩ := h
    rfl
  obtain ⟨v, u, t, N, b, x, rfl, hn, ok, hu, hb, hx, h0, ht, ht2, q⟩ := h
  refine ⟨_, (pss_cons (ps_expr (pe_call G_need_kindling (hr.mono (by decide)) (by rfl) T.need_kindling.g T.need_kindling.F.kp T.need_kindling.b .nil pass0 (pa_cons (pv 0) (pa_cons (pv 1) pa_nil))))
      (pss_cons (ps_expr (pe_call G_need_beat (hr.mono (by decide)) (by rfl) T.need_beat.g T.need_beat.F.kp T.need_beat.b .nil pass0 (pa_cons (pv 2) pa_nil)))
      (pss_one (ps_ret (pe_call G_place_by_lights (hr.mono (by decide)) (by rfl) T.place_by_lights.g T.place_by_lights.F.kp T.place_by_lights.b .nil pass0 (pa_cons (pv 0) (pa_cons (pe_call G_lights_of (hr.mono (by decide)) (by rfl) T.lights_of.g T.lights_of.F.kp T.lights_of.b .nil pass0 (pa_cons (pv 0) (pa_cons (pv 1) pa_nil))) (pa_cons (pv 2) pa_nil)))))))), ?_⟩
  refine ⟨v, rfl, u, rfl, v, u, N, b, x, rfl, hn, ok, hu, hb, hx, ht, fun H1 k1 => ?_⟩
  refine ⟨.int t, rfl, t, rfl, h0, ?_⟩
  refine ⟨v, rfl, v, rfl, u, rfl, v, u, N, b, x, rfl, hn.kt k1.kt0, ok, hu.kt k1.kt0, hx, k1.tab _ ht, k1.tab _ ht2, fun d r H2 nd hd hl k2 => ?_⟩
  refine ⟨.int t, rfl, v, d, t, N, r, _, rfl, hn.kt (k1.tr k2).kt0, hd, hl, lights_ok ok hx b, fun v' H3 tv k3 => ?_⟩
  exact q v' H3 tv (k1.tr (Kp.drop nd (k2.of0.tr k3)))
end


section
variable {P : Program} {w : World} {K : PySem.W.Frag} {mg : Str → Option Value} {base : Heap} {a : Ad}
def spLightsA (TB TB2 : Addr) : Sp := fun vs H Q _ => ∃ (v u : V) (y : Nat) (N : Net) (b : Int) (x : Nat), vs = [v, u, .int y] ∧ Tu H v (netD N) ∧ NetOk N ∧ Tu H u (sparkD b x) ∧ 0 ≤ b ∧ x < N.length ∧ y < N.length ∧ GxR.TabG H TB ∧ GxR.TabG H TB2 ∧
  ∀ v' H', Tu H' v' (lgtOD (lookL y (lightsL N b x))) → Kp [] H H' → Q v' H'
theorem ok_lights_alone (T : Tx K mg a) (TB : GxR.TabB base mg a.cd_is_net a.tb_is_net) (TB2 : GxR.TabB base mg a.cd_lights_of a.tb_lights_of) : FnOk P w K mg base CX0 12 a.a_lights_alone a.f_lights_alone ["net", "kindling", "lamp"] (spLightsA a.tb_is_net a.tb_lights_of) := by
  have G_need_kindling := ok_need_kindling (P := P) (w := w) (base := base) T TB
  have G_need_lamp := ok_need_lamp (P := P) (w := w) (base := base) T
  have G_lights_of := ok_lights_of (P := P) (w := w) (base := base) T TB TB2
  refine T.lights_alone.F.ok sc_lights_alone (fun vs H Q E h => ?_) (fun cdv A outer s H vs Q E hr h => ?_)
  · obtain ⟨v, u, t, N, b, x, rfl, _⟩ := h
    rfl
  obtain ⟨v, u, y, N, b, x, rfl, hn, ok, hu0, hb, hx, hy, ht, ht2, q⟩ := h
  have hu := hu_of hr
  refine ⟨_, (pss_cons (ps_expr (pe_call G_need_kindling (hr.mono (by decide)) (by rfl) T.need_kindling.g T.need_kindling.F.kp T.need_kindling.b .nil pass0 (pa_cons (pv 0) (pa_cons (pv 1) pa_nil))))
      (pss_cons (ps_expr (pe_call G_need_lamp (hr.mono (by decide)) (by rfl) T.need_lamp.g T.need_lamp.F.kp T.need_lamp.b .nil pass0 (pa_cons (pv 0) (pa_cons (pv 2) pa_nil))))
      (pss_one (ps_ret (pe_dget1 hu (pe_call G_lights_of (hr.mono (by decide)) (by rfl) T.lights_of.g T.lights_of.F.kp T.lights_of.b .nil pass0 (pa_cons (pv 0) (pa_cons (pv 1) pa_nil))) (pv 2) ⟨rfl, rfl, rfl, rfl⟩))))), ?_⟩
  refine ⟨v, rfl, u, rfl, v, u, N, b, x, rfl, hn, ok, hu0, hb, hx, ht, fun H1 k1 => ?_⟩
  refine ⟨v, rfl, .int y, rfl, [], v, N, y, rfl, (hn.kt k1.kt0).dx0, hy, ?_⟩
  refine ⟨v, rfl, u, rfl, v, u, N, b, x, rfl, hn.kt k1.kt0, ok, hu0.kt k1.kt0, hx, k1.tab _ ht, k1.tab _ ht2, fun d r H2 nd hd hl k2 => ?_⟩
  refine ⟨d, rfl, .inl ⟨r, .inl hd⟩, .int y, rfl, _, DGet.k (k := Sum.inl (y : Int)) hd, q _ H2 ?_ (k1.tr k2)⟩
  rcases hl.val (y := y) with ⟨e1, e2⟩ | ⟨w, vv, e1, e2, e3⟩
  · rw [e1, e2]; exact .non
  · rw [e1, e2]; exact e3
end

section
theorem look_at {N : Net} (o : NetOk N) {x y : Nat} (hx : x < N.length) {b f : Int} {lp : Option Int} (h : lookL y (lightsL N b x) = some (f, lp)) :
    ∃ j, (path N x)[j]? = some y ∧ f = frst N b x j ∧ lp = if j < cutN N x then none else some (lapOf N x) := by
  by_cases hn : y ∈ path N x
  · have hix := List.idxOf_lt_length_iff.mpr hn
    have hge : (path N x)[(path N x).idxOf y]? = some y := by rw [List.getElem?_eq_getElem hix, List.getElem_idxOf hix]
    rw [look_some (lights_nd o hx b) (lights_get o hx b hge)] at h
    cases h
    exact ⟨_, hge, rfl, rfl⟩
  · rw [look_none (by rw [lights_fst]; exact hn)] at h
    cases h
theorem frst_ge {N : Net} (o : NetOk N) {x : Nat} (hx : x < N.length) (b : Int) (j : Nat) : b ≤ frst N b x j := by
  have := sum_mono o (path_been o hx).lt (Nat.zero_le j)
  have h2 : 0 ≤ sumB N ((path N x).take j) := this
  unfold frst
  omega
theorem lap_pos {N : Net} (o : NetOk N) {x j : Nat} (hx : x < N.length) (b : Int) (hj : j < (path N x).length) (hc : ¬ j < cutN N x) : 0 < lapOf N x := by
  have hz := lights_get o hx b (List.getElem?_eq_getElem hj)
  rw [if_neg hc] at hz
  exact (lights_ok o hx b _ (List.mem_of_getElem? hz)).2 _ rfl
theorem pair_at {H : Hp} {v : V} {m : Nat} {g : Int} (h : Tu H v (placeD (some (m, g)))) : ∃ q : Addr, v = .ref q ∧ H q = some (.tup [.int (m : Nat), .int g]) := by
  cases h with
  | @tup qq xs ds h t =>
    cases t with
    | cons t1 t =>
      cases t1
      cases t with
      | cons t2 t =>
        cases t
        cases t2
        exact ⟨qq, rfl, h⟩
end

/-! ### the law's draws -/
section
variable {P : Program} {w : World} {K : PySem.W.Frag} {mg : Str → Option Value} {base : Heap} {a : Ad}
/-- a jar: three numbers, at most n draws were made -/
def Jar (H : Hp) (p : Addr) (n : Nat) : Prop := ∃ x y z : Int, H p = some (.lst [.int x, .int y, .int z]) ∧ 0 ≤ x ∧ 0 ≤ y ∧ y < 2 ^ 400 ∧ 0 ≤ z ∧ z ≤ n
theorem Jar.mono {H : Hp} {p : Addr} {n m : Nat} (h : Jar H p n) (l : n ≤ m) : Jar H p m := by
  obtain ⟨x, y, z, e, h1, h2, h3, h4, h5⟩ := h
  exact ⟨x, y, z, e, h1, h2, h3, h4, by omega⟩
theorem Jar.kp {S : List Addr} {H H1 : Hp} {p : Addr} {n : Nat} (h : Jar H p n) (k : Kp S H H1) (hp : p ∉ S) : Jar H1 p n := by
  obtain ⟨x, y, z, e, r⟩ := h
  exact ⟨x, y, z, k.lst hp e, r⟩
theorem Jar.new {H : Hp} {p q : Addr} {o : HO} {n : Nat} (h : Jar H p n) (nq : H q = none) : Jar (upd H q o) p n := h.kp (Kp.new (S := []) nq) (by simp)
theorem Jar.tr {H : Hp} {p : Addr} {n : Nat} (h : Jar H p n) : H p ≠ none := by
  obtain ⟨x, y, z, e, _⟩ := h
  rw [e]
  exact fun q => by cases q
theorem Jar.nt {H : Hp} {p : Addr} {n : Nat} (h : Jar H p n) : ∀ s ∈ [p], ∀ xs, H s ≠ some (.tup xs) := fun s hs xs => by
  obtain rfl : s = p := by simpa using hs
  obtain ⟨x, y, z, e, _⟩ := h
  rw [e]
  exact fun q => by cases q
theorem Jar.ni {H : Hp} {p q : Addr} {n : Nat} (h : Jar H p n) (nq : H q = none) : q ∉ [p] := by
  have : p ≠ q := fun e => h.tr (e ▸ nq)
  simpa using this.symm
def spJar : Sp := fun vs H Q _ => ∃ (c : Int) (k : Nat), vs = [.int c, .int k] ∧ k < 100 ∧ ∀ p, H p = none → ∀ H', Kp [] H H' → Jar H' p 0 → Q (.ref p) H'
theorem ok_law_jar (T : Tx K mg a) : FnOk P w K mg base CX0 1 a.a_law_jar a.f_law_jar ["cell", "k"] spJar := by
  refine T.law_jar.F.ok sc_law_jar (fun vs H Q E h => ?_) (fun cdv A outer s H vs Q E hr h => ?_)
  · obtain ⟨c, k, rfl, _⟩ := h
    rfl
  obtain ⟨c, k, rfl, hk, q⟩ := h
  refine ⟨_, (pss_one (ps_ret (pe_lst (pa_cons (pe_callB (call_max2 rfl) (by rfl) T.n_max (by decide +kernel) (pa_cons pe_int (pa_cons (pe_op op_sub (pv 0) (pe_op op_powW pe_int pe_int)) pa_nil))) (pa_cons (pe_op op_add (pe_op op_add (pe_op op_powW (pe_op op_mod (pv 0) (pe_op op_add (pe_op op_powW pe_int pe_int) pe_int)) pe_int) (pe_op op_mulW pe_int (pv 1))) pe_int) (pa_cons pe_int pa_nil)))))), ?_⟩
  have l1 := Int.emod_nonneg c (show ((10 : Int) ^ (38 : Int).toNat + 133) ≠ 0 by decide)
  have l2 := Int.emod_lt_of_pos c (show 0 < ((10 : Int) ^ (38 : Int).toNat + 133) by decide)
  have l3 : ((10 : Int) ^ (38 : Int).toNat + 133) < 2 ^ 127 := by decide
  refine ⟨.int c, rfl, _, _, rfl, rfl, ⟨by decide, by decide⟩, _, _, rfl, rfl, _, _, rfl, ?_⟩
  refine ⟨.int c, rfl, _, _, rfl, rfl, ⟨by decide, by decide⟩, _, _, rfl, rfl, _, _, rfl, rfl, (by show (0 : Int) < _; decide), ?_⟩
  obtain ⟨M, eM⟩ : ∃ M, M = (10 : Int) ^ (38 : Int).toNat + 133 := ⟨_, rfl⟩
  have l4 : (c % ((10 : Int) ^ (38 : Int).toNat + 133)).natAbs < 2 ^ 127 := by
    rw [← eM] at l1 l2 l3 ⊢
    obtain ⟨r, er⟩ : ∃ r, r = c % M := ⟨_, rfl⟩
    rw [← er] at l1 l2 ⊢
    omega
  have e3 : (c % ((10 : Int) ^ (38 : Int).toNat + 133)) ^ (3 : Int).toNat < 2 ^ 381 := by
    rw [← eM] at l1 l2 l3 ⊢
    obtain ⟨r, er⟩ : ∃ r, r = c % M := ⟨_, rfl⟩
    rw [← er] at l1 l2 ⊢
    have q1 : r < 2 ^ 127 := by omega
    obtain ⟨n, rfl⟩ := Int.eq_ofNat_of_zero_le l1
    have h1 : n ^ 3 < (2 ^ 127) ^ 3 := Nat.pow_lt_pow_left (by omega) (by decide)
    have h2 : (2 ^ 127) ^ 3 = 2 ^ 381 := by decide
    rw [h2] at h1
    show (n : Int) ^ 3 < _
    have h3 : ((n ^ 3 : Nat) : Int) < ((2 ^ 381 : Nat) : Int) := Int.ofNat_lt.mpr h1
    rw [Int.natCast_pow, Int.natCast_pow] at h3
    exact h3
  have e4 : 0 ≤ (c % ((10 : Int) ^ (38 : Int).toNat + 133)) ^ (3 : Int).toNat := Int.pow_nonneg l1
  refine ⟨_, _, rfl, rfl, pow_ok (n := 127) (e := 3) l4 (by decide) (by decide), .int k, rfl, _, _, rfl, rfl, wide_mul (a := 32) (b := 8) (by decide) (by omega) (by decide) (by decide) (by decide), _, _, rfl, rfl, _, _, rfl, rfl, ?_⟩
  refine ⟨by show 3 ≤ sizeLine; decide, fun p np => q p np _ (Kp.new np) ⟨_, _, _, upd_same, ?_, ?_, ?_, Int.le_refl 0, Int.le_refl 0⟩⟩
  · split <;> omega
  · generalize (c % ((10 : Int) ^ (38 : Int).toNat + 133)) ^ (3 : Int).toNat = r3 at e4
    omega
  · generalize (c % ((10 : Int) ^ (38 : Int).toNat + 133)) ^ (3 : Int).toNat = r3 at e3
    have e : (2 : Int) ^ 381 + 2147483629 * 100 + 3 < 2 ^ 400 := by decide
    omega
def spPull : Sp := fun vs H Q _ => ∃ (p : Addr) (m : Int) (n : Nat), vs = [.ref p, .int m] ∧ 0 < m ∧ m < 2 ^ 8000 ∧ Jar H p n ∧ n < 100000 ∧ ∀ r H', 0 ≤ r → r < m → Kp [p] H H' → Jar H' p (n + 1) → Q (.int r) H'
theorem ok_law_pull (T : Tx K mg a) : FnOk P w K mg base CX0 1 a.a_law_pull a.f_law_pull ["jar", "many"] spPull := by
  refine T.law_pull.F.ok sc_law_pull (fun vs H Q E h => ?_) (fun cdv A outer s H vs Q E hr h => ?_)
  · obtain ⟨p, m, n, rfl, _⟩ := h
    rfl
  obtain ⟨p, m, n, rfl, hm, hm2, ⟨x, y, z, hp, hx, hy, hy2, hz, hz2⟩, hn, q⟩ := h
  refine ⟨_, (pss_cons (ps_if (pt_cmpR op_gt (pe_ix ix_list (pv 0) pe_int (fun _ _ => rfl)) pe_int (nomark _)) (pss_cons (ps_set (i := 2) sc_law_pull.nd rfl (by first | exact .inl rfl | exact .inr rfl) (pe_op op_mod (pe_ix ix_list (pv 0) pe_int (fun _ _ => rfl)) (pv 1)))
      (pss_cons (ps_asg (pe_op op_fdivW (pe_ix ix_list (pv 0) pe_int (fun _ _ => rfl)) (pv 1)) (pg_sub (pv 0) pe_int set_list))
      (pss_one (ps_ret (pv 2))))) pss_nil)
      (pss_cons (ps_asg (pe_op op_add (pe_ix ix_list (pv 0) pe_int (fun _ _ => rfl)) pe_int) (pg_sub (pv 0) pe_int set_list))
      (pss_cons (ps_asg (pe_op op_mod (pe_op op_add (pe_op op_add (pe_op op_powW (pe_ix ix_list (pv 0) pe_int (fun _ _ => rfl)) pe_int) (pe_op op_mulW pe_int (pe_ix ix_list (pv 0) pe_int (fun _ _ => rfl)))) pe_int) (pe_op op_add (pe_op op_powW pe_int pe_int) pe_int)) (pg_sub (pv 0) pe_int set_list))
      (pss_one (ps_ret (pe_op op_mod (pe_op op_fdivW (pe_ix ix_list (pv 0) pe_int (fun _ _ => rfl)) (pe_op op_powW pe_int pe_int)) (pv 1))))))), ?_⟩
  have nt : ∀ ps, HO.lst [V.int x, .int y, .int z] ≠ .tbl ps := fun ps e => by cases e
  refine ⟨.ref p, rfl, p, _, 0, .int x, rfl, rfl, SqL.of hp, atI_nat (j := 0) rfl, _, _, rfl, rfl, _, rfl, ite2 (fun e => ?_) (fun e => ?_)⟩
  · have hx0 : 0 < x := of_decide_eq_true e
    refine ⟨.ref p, rfl, p, _, 0, .int x, rfl, rfl, SqL.of hp, atI_nat (j := 0) rfl, .int m, rfl, x, m, rfl, rfl, hm, ?_⟩
    refine ⟨.ref p, rfl, p, _, 0, .int x, rfl, rfl, SqL.of hp, atI_nat (j := 0) rfl, .int m, rfl, x, m, rfl, rfl, ⟨hm, big_log hm hm2⟩, ?_⟩
    refine ⟨.ref p, rfl, p, _, 0, 0, rfl, rfl, hp, rfl, ?_⟩
    refine ⟨.int (x % m), rfl, ?_⟩
    refine q _ _ (Int.emod_nonneg _ (by omega)) (Int.emod_lt_of_pos _ hm) (Kp.put (by simp) hp nt) ⟨x / m, y, z, upd_same, Int.ediv_nonneg hx (by omega), hy, hy2, hz, by omega⟩
  · have hx0 : x = 0 := by
      have : ¬ 0 < x := fun h => e (decide_eq_true h)
      omega
    -- jar[2] = jar[2] + 1
    refine ⟨.ref p, rfl, p, _, 2, .int z, rfl, rfl, SqL.of hp, atI_nat (j := 2) rfl, _, _, rfl, rfl, .ref p, rfl, p, _, 2, 2, rfl, rfl, hp, rfl, ?_⟩
    obtain ⟨H1, e1⟩ : ∃ H1, H1 = upd H p (.lst [.int x, .int y, .int (z + 1)]) := ⟨_, rfl⟩
    have hp1 : H1 p = some (.lst [.int x, .int y, .int (z + 1)]) := by rw [e1]; exact upd_same
    have k1 : Kp [p] H H1 := e1 ▸ Kp.put (by simp) hp nt
    show tSeq _ _ _ _ (upd H p (.lst [.int x, .int y, .int (z + 1)]))
    rw [← e1]
    -- jar[1] = (jar[1] ** 3 + 87178291 * jar[2] + 5) % (10 ** 33 + 61)
    refine ⟨.ref p, rfl, p, _, 1, .int y, rfl, rfl, SqL.of hp1, atI_nat (j := 1) rfl, _, _, rfl, rfl, pow_ok (n := 400) (e := 3) (by omega) (by decide) (by decide), .ref p, rfl, p, _, 2, .int (z + 1), rfl, rfl, SqL.of hp1, atI_nat (j := 2) rfl, _, _, rfl, rfl, wide_mul (a := 27) (b := 20) (by decide) (by omega) (by decide) (by decide) (by decide), _, _, rfl, rfl, _, _, rfl, rfl, _, _, rfl, rfl, ⟨by decide, by decide⟩, _, _, rfl, rfl, _, _, rfl, rfl, (by show (0 : Int) < _; decide), ?_⟩
    have l1 := Int.emod_nonneg (y ^ (3 : Int).toNat + 87178291 * (z + 1) + 5) (show ((10 : Int) ^ (33 : Int).toNat + 61) ≠ 0 by decide)
    have l2 := Int.emod_lt_of_pos (y ^ (3 : Int).toNat + 87178291 * (z + 1) + 5) (show 0 < ((10 : Int) ^ (33 : Int).toNat + 61) by decide)
    have l3 : ((10 : Int) ^ (33 : Int).toNat + 61) < 2 ^ 400 := by decide
    obtain ⟨b1, eb⟩ : ∃ b1, b1 = (y ^ (3 : Int).toNat + 87178291 * (z + 1) + 5) % ((10 : Int) ^ (33 : Int).toNat + 61) := ⟨_, rfl⟩
    rw [← eb] at l1 l2
    refine ⟨.ref p, rfl, p, _, 1, 1, rfl, rfl, hp1, rfl, ?_⟩
    obtain ⟨H2, e2⟩ : ∃ H2, H2 = upd H1 p (.lst [.int x, .int b1, .int (z + 1)]) := ⟨_, rfl⟩
    have hp2 : H2 p = some (.lst [.int x, .int b1, .int (z + 1)]) := by rw [e2]; exact upd_same
    have k2 : Kp [p] H1 H2 := e2 ▸ Kp.put (by simp) hp1 (fun ps e => by cases e)
    rw [eb] at e2
    show tSeq _ _ _ _ (upd H1 p (.lst [.int x, .int ((y ^ (3 : Int).toNat + 87178291 * (z + 1) + 5) % ((10 : Int) ^ (33 : Int).toNat + 61)), .int (z + 1)]))
    rw [← e2]
    -- return jar[1] // 10 ** 8 % many
    refine ⟨.ref p, rfl, p, _, 1, .int b1, rfl, rfl, SqL.of hp2, atI_nat (j := 1) rfl, _, _, rfl, rfl, ⟨by decide, by decide⟩, _, _, rfl, rfl, ⟨by decide, by decide⟩, .int m, rfl, _, _, rfl, rfl, hm, ?_⟩
    exact q _ _ (Int.emod_nonneg _ (by omega)) (Int.emod_lt_of_pos _ hm) (k1.tr k2) ⟨x, b1, z + 1, hp2, hx, l1, by omega, by omega, by omega⟩
def spNext : Sp := fun vs H Q _ => ∃ (p : Addr) (m k : Nat) (kd : Int) (n : Nat), vs = [.ref p, .int m, .int k, .int kd] ∧ Jar H p n ∧ n < 99000 ∧ k < m ∧ m ≤ 12 ∧ 0 ≤ kd ∧ kd < 4 ∧ ∀ o H', (∀ y, o = some y → y < m) → Kp [p] H H' → Jar H' p (n + 2) → Q (nxV o) H'
theorem ok_law_next (T : Tx K mg a) : FnOk P w K mg base CX0 2 a.a_law_next a.f_law_next ["jar", "many", "k", "kind"] spNext := by
  have G_law_pull := ok_law_pull (P := P) (w := w) (base := base) T
  refine T.law_next.F.ok sc_law_next (fun vs H Q E h => ?_) (fun cdv A outer s H vs Q E hr h => ?_)
  · obtain ⟨p, m, k, kd, n, rfl, _⟩ := h
    rfl
  obtain ⟨p, m, k, kd, n, rfl, hw, hn, hk, hm, hd1, hd2, q⟩ := h
  refine ⟨_, (pss_cons (ps_set (i := 4) sc_law_next.nd rfl (by first | exact .inl rfl | exact .inr rfl) (pe_lst (pa_cons (pe_op op_sub (pe_call G_law_pull (hr.mono (by decide)) (by rfl) T.law_pull.g T.law_pull.F.kp T.law_pull.b .nil pass0 (pa_cons (pv 0) (pa_cons (pe_op op_add (pv 1) pe_int) pa_nil))) pe_int) (pa_cons (pe_op op_mod (pe_op op_add (pv 2) pe_int) (pv 1)) (pa_cons (pe_call G_law_pull (hr.mono (by decide)) (by rfl) T.law_pull.g T.law_pull.F.kp T.law_pull.b .nil pass0 (pa_cons (pv 0) (pa_cons (pe_op op_add (pv 2) pe_int) pa_nil))) (pa_cons (pe_op op_add (pv 2) pe_int) pa_nil))))))
      (pss_cons (ps_set (i := 5) sc_law_next.nd rfl (by first | exact .inl rfl | exact .inr rfl) (pe_ix ix_list (pv 4) (pv 3) (fun _ _ => rfl)))
      (pss_one (ps_ret (pe_ifExp (PW.pt (pw_or (pt_cmpR op_lt (pv 5) pe_int (nomark _)) (pw_or1 (pt_cmpR op_ge (pv 5) (pv 1) (nomark _))))) pe_non (pv 5)))))), ?_⟩
  refine ⟨.ref p, rfl, .int m, rfl, _, _, rfl, rfl, p, _, n, rfl, by omega, by omega, hw, by omega, fun r1 H1 a1 b1 k1 w1 => ⟨_, _, rfl, rfl, ?_⟩⟩
  refine ⟨.int k, rfl, _, _, rfl, rfl, .int m, rfl, _, _, rfl, rfl, by omega, ?_⟩
  refine ⟨.ref p, rfl, .int k, rfl, _, _, rfl, rfl, p, _, n + 1, rfl, by omega, by omega, w1, by omega, fun r2 H2 a2 b2 k2 w2 => ?_⟩
  refine ⟨.int k, rfl, _, _, rfl, rfl, by show 4 ≤ sizeLine; decide, fun l nl => ?_⟩
  obtain ⟨v, hv, hmem⟩ := at_mem (xs := [V.int (r1 - 1), .int (((k : Int) + 1) % m), .int r2, .int ((k : Int) + 1)]) hd1 (by simpa using hd2)
  refine ⟨.ref l, rfl, .int kd, rfl, l, _, kd, v, rfl, rfl, SqL.of upd_same, hv, ?_⟩
  obtain ⟨t, rfl⟩ : ∃ t : Int, v = .int t := by
    simp only [List.mem_cons, List.not_mem_nil, or_false] at hmem
    rcases hmem with rfl | rfl | rfl | rfl <;> exact ⟨_, rfl⟩
  have kk : Kp [p] H (upd H2 l (.lst [V.int (r1 - 1), .int (((k : Int) + 1) % m), .int r2, .int ((k : Int) + 1)])) := k1.tr (k2.tr (Kp.new nl))
  have ww : Jar (upd H2 l (.lst [V.int (r1 - 1), .int (((k : Int) + 1) % m), .int r2, .int ((k : Int) + 1)])) p (n + 2) := w2.new nl
  refine ⟨.int t, rfl, _, _, rfl, rfl, _, rfl, ?_⟩
  by_cases h1 : t < 0
  · rw [decide_eq_true h1]
    exact iteT (iteT (q none _ (fun y e => by cases e) kk ww))
  · rw [decide_eq_false h1]
    refine iteF ⟨.int t, rfl, .int m, rfl, _, _, rfl, rfl, _, rfl, ?_⟩
    by_cases h2 : (m : Int) ≤ t
    · rw [decide_eq_true h2]
      exact iteT (q none _ (fun y e => by cases e) kk ww)
    · rw [decide_eq_false h2]
      refine iteF ⟨.int t, rfl, ?_⟩
      have := q (some t.toNat) _ (fun y e => by cases e; omega) kk ww
      rwa [show nxV (some t.toNat) = V.int t by show V.int (t.toNat : Int) = _; congr 1; omega] at this
def spNet : Sp := fun vs H Q _ => ∃ (p : Addr) (wd : Int) (n : Nat), vs = [.ref p, .int wd] ∧ Jar H p n ∧ n < 90000 ∧ 5 ≤ wd ∧ wd < 10 ^ 60 ∧ ∀ v H' N, NetOk N → Short N → (∀ z ∈ N, z.1 ≤ wd) → Nw H H' v (netD N) → Kp [p] H H' → Jar H' p (n + 60) → Q v H'
theorem ok_law_net (T : Tx K mg a) : FnOk P w K mg base CX0 3 a.a_law_net a.f_law_net ["jar", "wide"] spNet := by
  have G_law_pull := ok_law_pull (P := P) (w := w) (base := base) T
  have G_law_next := ok_law_next (P := P) (w := w) (base := base) T
  refine T.law_net.F.ok sc_law_net (fun vs H Q E h => ?_) (fun cdv A outer s H vs Q E hr h => ?_)
  · obtain ⟨p, wd, n, rfl, _⟩ := h
    rfl
  obtain ⟨p, wd, n, rfl, hw, hn, hwd, hwd2, q⟩ := h
  refine ⟨_, (pss_cons (ps_set (i := 2) sc_law_net.nd rfl (by first | exact .inl rfl | exact .inr rfl) (pe_ix ix_list (pe_lst (pa_cons (pe_op op_add pe_int (pe_call G_law_pull (hr.mono (by decide)) (by rfl) T.law_pull.g T.law_pull.F.kp T.law_pull.b .nil pass0 (pa_cons (pv 0) (pa_cons pe_int pa_nil)))) (pa_cons (pe_op op_add pe_int (pe_call G_law_pull (hr.mono (by decide)) (by rfl) T.law_pull.g T.law_pull.F.kp T.law_pull.b .nil pass0 (pa_cons (pv 0) (pa_cons pe_int pa_nil)))) pa_nil))) (pe_call G_law_pull (hr.mono (by decide)) (by rfl) T.law_pull.g T.law_pull.F.kp T.law_pull.b .nil pass0 (pa_cons (pv 0) (pa_cons pe_int pa_nil))) (fun _ _ => rfl)))
      (pss_cons (ps_set (i := 3) sc_law_net.nd rfl (by first | exact .inl rfl | exact .inr rfl) (pe_call G_law_pull (hr.mono (by decide)) (by rfl) T.law_pull.g T.law_pull.F.kp T.law_pull.b .nil pass0 (pa_cons (pv 0) (pa_cons pe_int pa_nil))))
      (pss_cons (ps_set (i := 4) sc_law_net.nd rfl (by first | exact .inl rfl | exact .inr rfl) (pe_ix ix_list (pe_lst (pa_cons pe_int (pa_cons pe_int (pa_cons (pv 1) pa_nil)))) (pe_call G_law_pull (hr.mono (by decide)) (by rfl) T.law_pull.g T.law_pull.F.kp T.law_pull.b .nil pass0 (pa_cons (pv 0) (pa_cons pe_int pa_nil))) (fun _ _ => rfl)))
      (pss_cons (ps_set (i := 5) sc_law_net.nd rfl (by first | exact .inl rfl | exact .inr rfl) (pe_lst pa_nil))
      (pss_cons (ps_for PassesOwn.never rfl (pi_range1 (by rfl) T.n_range (pa_cons (pv 2) pa_nil)) (pg_name (i := 6) sc_law_net.nd rfl (by first | exact .inl rfl | exact .inr rfl)) (pss_one (ps_expr (pe_bm PySem.F.plainAttrs_list PySem.F.slot_list_append PySem.F.type_list_append mt_append (pv 5) (pa_cons (pe_tup (pa_cons (pe_op op_add pe_int (pe_call G_law_pull (hr.mono (by decide)) (by rfl) T.law_pull.g T.law_pull.F.kp T.law_pull.b .nil pass0 (pa_cons (pv 0) (pa_cons (pv 4) pa_nil)))) (pa_cons (pe_call G_law_next (hr.mono (by decide)) (by rfl) T.law_next.g T.law_next.F.kp T.law_next.b .nil pass0 (pa_cons (pv 0) (pa_cons (pv 2) (pa_cons (pv 6) (pa_cons (pv 3) pa_nil))))) pa_nil))) pa_nil)))))
      (pss_one (ps_ret (pe_callTy call_tuple_of (by rfl) T.n_tuple (by decide +kernel) (pa_cons (pv 5) pa_nil))))))))), ?_⟩
  -- many = [..][..]
  refine ⟨.ref p, rfl, p, 12, n, rfl, by decide, by decide, hw, by omega, fun r1 H1 a1 b1 k1 w1 => ⟨_, _, rfl, rfl, ?_⟩⟩
  refine ⟨.ref p, rfl, p, 4, n + 1, rfl, by decide, by decide, w1, by omega, fun r2 H2 a2 b2 k2 w2 => ⟨_, _, rfl, rfl, ?_⟩⟩
  refine ⟨by show 2 ≤ sizeLine; decide, fun l nl => ?_⟩
  refine ⟨.ref p, rfl, p, 2, n + 2, rfl, by decide, by decide, w2.new nl, by omega, fun r3 H3 a3 b3 k3 w3 => ?_⟩
  obtain ⟨mv, hv, hm⟩ := at_mem (xs := [.int (1 + r1), .int (1 + r2)]) a3 (by simpa using b3)
  refine ⟨l, _, r3, mv, rfl, rfl, SqL.of (k3.lst (w2.ni nl) upd_same), hv, ?_⟩
  have kH3 : Kp [p] H H3 := k1.tr (k2.tr ((Kp.new nl).tr k3))
  obtain ⟨m, rfl, hm1, hm2⟩ : ∃ m : Nat, mv = .int (m : Int) ∧ 1 ≤ m ∧ m ≤ 12 := by
    simp only [List.mem_cons, List.not_mem_nil, or_false] at hm
    rcases hm with rfl | rfl
    · exact ⟨(1 + r1).toNat, by congr 1; omega, by omega, by omega⟩
    · exact ⟨(1 + r2).toNat, by congr 1; omega, by omega, by omega⟩
  -- kind = _law_pull(jar, 4)
  refine ⟨.ref p, rfl, p, 4, n + 3, rfl, by decide, by decide, w3, by omega, fun kd H4 a4 b4 k4 w4 => ?_⟩
  -- size = [2, 5, wide][..]
  refine ⟨.int wd, rfl, by show 3 ≤ sizeLine; decide, fun l2 nl2 => ?_⟩
  refine ⟨.ref p, rfl, p, 3, n + 4, rfl, by decide, by decide, w4.new nl2, by omega, fun r5 H5a a5 b5 k5 w5a => ?_⟩
  obtain ⟨sv, hsv, hsm⟩ := at_mem (xs := [.int 2, .int 5, .int wd]) a5 (by simpa using b5)
  refine ⟨l2, _, r5, sv, rfl, rfl, SqL.of (k5.lst (w4.ni nl2) upd_same), hsv, ?_⟩
  obtain ⟨sz, rfl, hs1, hs2⟩ : ∃ sz : Int, sv = .int sz ∧ 1 ≤ sz ∧ sz ≤ wd := by
    simp only [List.mem_cons, List.not_mem_nil, or_false] at hsm
    rcases hsm with rfl | rfl | rfl
    · exact ⟨_, rfl, by decide, by omega⟩
    · exact ⟨_, rfl, by decide, by omega⟩
    · exact ⟨_, rfl, by omega, by omega⟩
  have kH4 : Kp [p] H H5a := kH3.tr (k4.tr ((Kp.new nl2).tr k5))
  -- found = []
  refine ⟨Nat.zero_le _, fun fp nf => ?_⟩
  obtain ⟨H5, e5⟩ : ∃ H5, H5 = upd H5a fp (.lst []) := ⟨_, rfl⟩
  have hf5 : H5 fp = some (.lst []) := by rw [e5]; exact upd_same
  have w5 : Jar H5 p (n + 5) := by rw [e5]; exact w5a.new nf
  have kH5 : Kp [p] H H5 := kH4.tr (by rw [e5]; exact Kp.new nf)
  have hfp : fp ∉ [p] := w5a.ni nf
  show (fun H0 => _) (upd H5a fp (.lst []))
  rw [← e5]
  have hp5 : H5 p ≠ none := w5.tr
  have hf5' : H5 fp ≠ none := by rw [hf5]; exact fun q => by cases q
  have hS0 : ∀ s ∈ [fp, p], H5 s ≠ none := fun s z => by
    simp only [List.mem_cons, List.not_mem_nil, or_false] at z
    rcases z with rfl | rfl
    · exact hf5'
    · exact hp5
  have szb : sz < 2 ^ 8000 := by
    have : (10 : Int) ^ 60 < 2 ^ 8000 := by decide
    omega
  -- for k in range(many)
  refine ⟨.int m, rfl, m, rfl, by omega, by omega, for_range (n := m) (fun i σ H' => ∃ (k6 : Option V) (vs : List V) (Nk : Net), σ = [some (.ref p), some (.int wd), some (.int m), some (.int kd), some (.int sz), some (.ref fp), k6] ∧ H' fp = some (.lst vs) ∧ NwA H5 H' vs (Nk.map lampD) ∧ Nk.length = i ∧ (∀ z ∈ Nk, 1 ≤ z.1 ∧ z.1 ≤ wd ∧ ∀ y, z.2 = some y → y < m) ∧ Kp [fp, p] H5 H' ∧ Jar H' p (n + 5 + 3 * i)) ⟨none, [], [], rfl, hf5, .nil, rfl, fun z hz => (by cases hz), .rfl', w5⟩ (fun i σ H6 hi hP => ?_) (fun σ H6 hP => ?_)⟩
  · obtain ⟨o6, vs, Nk, rfl, hf6, hv6, hl6, hN6, kH6, w6⟩ := hP
    have ei : (0 + (i : Int)) = (i : Int) := by omega
    rw [ei]
    -- found.append((1 + _law_pull(jar, size), _law_next(jar, many, k, kind)))
    refine ⟨.ref fp, rfl, .inl ⟨rfl, _, SqL.of hf6⟩, ?_⟩
    refine ⟨.ref p, rfl, .int sz, rfl, p, sz, _, rfl, by omega, szb, w6, by omega, fun q1 H7 a7 b7 k7 w7 => ⟨_, _, rfl, rfl, ?_⟩⟩
    refine ⟨.ref p, rfl, .int m, rfl, .int i, rfl, .int kd, rfl, p, m, i, kd, _, rfl, w7, by omega, hi, hm2, a4, b4, fun o8 H8 ho8 k8 w8 => ?_⟩
    refine ⟨by show 2 ≤ sizeLine; decide, fun tp ntp => ?_⟩
    obtain ⟨H15, e15⟩ : ∃ H15, H15 = upd H8 tp (.tup [.int (1 + q1), nxV o8]) := ⟨_, rfl⟩
    rw [← e15]
    have k815 : Kp [] H8 H15 := e15 ▸ Kp.new ntp
    have k68 : Kp [p] H6 H8 := k7.tr k8
    have k615 : Kp [p] H6 H15 := k68.tr k815.of0
    have hf15 : H15 fp = some (.lst vs) := k615.lst hfp hf6
    have lvs : vs.length = i := by
      have e := (hv6 [] (fun s z => by cases z)).len
      rw [List.length_map] at e
      omega
    refine ⟨fp, vs, .ref tp, rfl, rfl, hf15, Nat.lt_of_lt_of_le (show vs.length < 1000 by omega) (by decide), ?_⟩
    obtain ⟨H16, e16⟩ : ∃ H16, H16 = upd H15 fp (.lst (vs ++ [.ref tp])) := ⟨_, rfl⟩
    rw [← e16]
    have k1516 : Kp [fp] H15 H16 := e16 ▸ Kp.put (by simp) hf15 (fun ps e => by cases e)
    have k615' : Kp [fp, p] H6 H15 := k615.wk fun x z => by simp only [List.mem_cons, List.not_mem_nil, or_false] at z ⊢; exact .inr z
    have k1516' : Kp [fp, p] H15 H16 := k1516.wk fun x z => by simp only [List.mem_cons, List.not_mem_nil, or_false] at z ⊢; exact .inl z
    have k616 : Kp [fp, p] H6 H16 := k615'.tr k1516'
    have hpf : p ∉ [fp] := by
      have : p ≠ fp := fun e => hfp (by simp [e])
      simpa using this
    have trA : ∀ b, H5 b ≠ none → H8 b ≠ none := fun b h => k68.tr_ b (kH6.tr_ b h)
    have hnew : Nw H5 H16 (.ref tp) (lampD (1 + q1, o8)) := by
      refine Nw.kpS (S0 := [fp, p]) ?_ k1516' hS0
      rw [e15]
      refine Nw.tup trA ntp (.cons (.int _) (.cons ?_ .nil))
      cases o8 with
      | none => exact .non
      | some y => exact .int _
    refine ⟨some (.int i), vs ++ [.ref tp], Nk ++ [(1 + q1, o8)], rfl, by rw [e16]; exact upd_same, ?_, by rw [List.length_append, hl6]; rfl, fun z hz => ?_, kH6.tr k616, ?_⟩
    · rw [List.map_append]
      exact (hv6.kpS k616 hS0).app (.cons hnew .nil)
    · rcases List.mem_append.mp hz with hz | hz
      · exact hN6 z hz
      · obtain rfl : z = (1 + q1, o8) := by simpa using hz
        exact ⟨by show 1 ≤ 1 + q1; omega, by show 1 + q1 ≤ wd; omega, fun y e => ho8 y e⟩
    · exact ((w8.kp k815 (by simp)).kp k1516 hpf).mono (by omega)
  · obtain ⟨o6, vs, Nk, rfl, hf6, hv6, hl6, hN6, kH6, w6⟩ := hP
    refine ⟨.ref fp, rfl, fp, vs, rfl, .inl ⟨SqL.of hf6, fun tp ntp => ?_⟩⟩
    obtain ⟨H7, e7⟩ : ∃ H7, H7 = upd H6 tp (.tup vs) := ⟨_, rfl⟩
    rw [← e7]
    have k67 : Kp [] H6 H7 := e7 ▸ Kp.new ntp
    have okN : NetOk Nk := ⟨by omega, by omega, fun z hz => (hN6 z hz).1, fun z hz y e => by rw [hl6]; exact (hN6 z hz).2.2 y e⟩
    refine q (.ref tp) H7 Nk okN (fun z hz => by have := (hN6 z hz).2.1; omega) (fun z hz => (hN6 z hz).2.1) ?_ ?_ ?_
    · rw [e7]
      exact Nw.tup (fun b h => kH6.tr_ b (kH5.tr_ b h)) ntp (hv6.old kH5.tr_)
    · have hfH : H fp = none := by
        cases e : H fp with
        | none => rfl
        | some o => exact absurd nf (kH4.tr_ fp (by rw [e]; exact fun q => by cases q))
      exact Kp.drop hfH ((kH5.wk fun x z => List.mem_cons_of_mem _ z).tr (kH6.tr k67.of0))
    · exact (w6.kp k67 (by simp)).mono (by omega)
def spCells : Sp := fun vs H Q _ => ∃ (l : Addr) (ns : List Int) (m : Nat), vs = [.ref l, .int m] ∧ SqL K H l (ns.map V.int) ∧ ns.length ≤ 63 ∧ m ≤ 63 ∧ ∀ (p : Addr) (cs : List Int) (H' : Hp), H' p = some (.lst (cs.map V.int)) → cs.length ≤ m + 1 → Kp [] H H' → Q (.ref p) H'
theorem ok_law_cells (T : Tx K mg a) : FnOk P w K mg base CX0 1 a.a_law_cells a.f_law_cells ["script", "most"] (spCells (K := K)) := by
  refine T.law_cells.F.ok sc_law_cells (fun vs H Q E h => ?_) (fun cdv A outer s H vs Q E hr h => ?_)
  · obtain ⟨l, ns, m, rfl, _⟩ := h
    rfl
  obtain ⟨l, ns, m, rfl, hl, hn, hm, q⟩ := h
  refine ⟨_, (pss_one (ps_ret (pe_op op_catL (pe_slice sl_list (pv 0) po_none (po_some (pv 1))) (pe_op op_rep (pe_lst (pa_cons pe_int pa_nil)) (pe_callTy call_int1 (by rfl) T.n_int (by decide +kernel) (pa_cons (pe_cmpR (op_eqD hr.units) (pv 0) (pe_lst pa_nil) (nomark _)) pa_nil)))))), ?_⟩
  -- script[:most]
  refine ⟨.ref l, rfl, .int m, rfl, _, rfl, l, _, rfl, hl, fun y ny => ?_⟩
  obtain ⟨cs, hcs, hcl⟩ : ∃ cs : List Int, cutV (ns.map V.int) none (some (m : Int)) = cs.map V.int ∧ cs.length ≤ m := by
    unfold cutV
    rw [← List.map_drop, ← List.map_take]
    refine ⟨_, rfl, ?_⟩
    rw [List.length_take, List.length_drop, HT.sIx_none, show HT.sIx (ns.map V.int).length (ns.map V.int).length (some (m : Int)) = min m (ns.map V.int).length from HT.sIx_nat _ _ m]
    omega
  rw [hcs]
  obtain ⟨H1, e1⟩ : ∃ H1, H1 = upd H y (.lst (cs.map V.int)) := ⟨_, rfl⟩
  rw [← e1]
  have k1 : Kp [] H H1 := e1 ▸ Kp.new ny
  have hy1 : H1 y = some (.lst (cs.map V.int)) := by rw [e1]; exact upd_same
  have hl1 := k1.seq (by simp) hl
  -- [0]
  refine ⟨by show 1 ≤ sizeLine; decide, fun z nz => ?_⟩
  obtain ⟨H2, e2⟩ : ∃ H2, H2 = upd H1 z (.lst [.int 0]) := ⟨_, rfl⟩
  rw [← e2]
  have k2 : Kp [] H1 H2 := e2 ▸ Kp.new nz
  have hz2 : H2 z = some (.lst [.int 0]) := by rw [e2]; exact upd_same
  -- int(script == [])
  refine ⟨.ref l, rfl, Nat.zero_le _, fun u nu => ?_⟩
  obtain ⟨H3, e3⟩ : ∃ H3, H3 = upd H2 u (.lst []) := ⟨_, rfl⟩
  rw [← e3]
  have k3 : Kp [] H2 H3 := e3 ▸ Kp.new nu
  have hu3 : H3 u = some (.lst []) := by rw [e3]; exact upd_same
  have dpi : ∀ ns : List Int, DpAll K H3 (ns.map V.int) (ns.map PyData.int) := fun ns => by
    induction ns with
    | nil => exact .nil
    | cons n r ih => exact .cons (.int n) ih
  have shI : ∀ ns : List Int, SeqAt.shaped (.list (ns.map PyData.int)) = true := fun ns => by
    unfold SeqAt.shaped
    have h1 : (PyData.list (ns.map PyData.int)).canLay0 = true := by
      show PyData.canLayAll0 (ns.map PyData.int) = true
      exact all_lay (fun _ => rfl) ns
    have h2 : (PyData.list (ns.map PyData.int)).depth ≤ 1 := by
      show PyData.depthAll (ns.map PyData.int) + 1 ≤ 1
      have := all_depth (f := PyData.int) (n := 0) (fun _ => Nat.le_refl _) ns
      omega
    rw [h1, decide_eq_true (Nat.le_trans h2 (by decide))]
    rfl
  refine ⟨.list (ns.map PyData.int), .list [], .lst (k3.seq (by simp) (k2.seq (by simp) hl1)) (dpi ns), .lst (SqL.of hu3) .nil, shI ns, (by decide), ?_⟩
  refine .inr ⟨_, rfl, ?_⟩
  obtain ⟨b, hb⟩ : ∃ b, b = PyData.eqv (.list (ns.map PyData.int)) (.list []) := ⟨_, rfl⟩
  rw [← hb]
  have hb1 : 0 ≤ (if b = true then (1 : Int) else 0) ∧ (if b = true then (1 : Int) else 0) ≤ 1 := by cases b <;> decide
  obtain ⟨j, ej⟩ : ∃ j, j = (if b = true then (1 : Int) else 0) := ⟨_, rfl⟩
  rw [← ej] at hb1 ⊢
  refine ⟨z, j, _, rfl, rfl, k3.lst (by simp) hz2, by omega, by omega, ?_, fun z2 nz2 => ?_⟩
  · have : ([V.int 0].length * j.toNat) ≤ 1 := by show 1 * j.toNat ≤ 1; omega
    exact Nat.le_trans this (by decide)
  obtain ⟨zs, hzs, hzl⟩ : ∃ zs : List Int, (List.replicate j.toNat [V.int 0]).flatten = zs.map V.int ∧ zs.length ≤ 1 := by
    refine ⟨(List.replicate j.toNat [(0 : Int)]).flatten, ?_, ?_⟩
    · rw [List.map_flatten, List.map_replicate]; rfl
    · rw [List.length_flatten, List.map_replicate, List.sum_replicate_nat]; simp; omega
  rw [hzs]
  obtain ⟨H4, e4⟩ : ∃ H4, H4 = upd H3 z2 (.lst (zs.map V.int)) := ⟨_, rfl⟩
  rw [← e4]
  have k4 : Kp [] H3 H4 := e4 ▸ Kp.new nz2
  refine ⟨y, z2, _, _, rfl, rfl, SqL.of ((k2.tr (k3.tr k4)).lst (by simp) hy1), SqL.of (by rw [e4]; exact upd_same), ?_, fun p np => ?_⟩
  · rw [List.length_map, List.length_map]
    exact Nat.le_trans (show cs.length + zs.length ≤ 64 by omega) (by decide)
  rw [← List.map_append]
  exact q p (cs ++ zs) _ upd_same (by rw [List.length_append]; omega) (k1.tr (k2.tr (k3.tr (k4.tr (Kp.new np)))))
end

/-! ### Embers -/
section
variable {P : Program} {w : World} {K : PySem.W.Frag} {mg : Str → Option Value} {base : Heap} {a : Ad}
def spInit (C TB : Addr) : Sp := fun vs H Q _ => ∃ (e dx : Addr) (v : V) (N : Net), vs = [.ref e, v] ∧ H e = some (.ins C dx []) ∧ Tu H v (netD N) ∧ NetOk N ∧ GxR.TabG H TB ∧
  ∀ w l r H', H w = none → H l = none → H r = none → Emb C H' e w l r ⟨N, 0, 0, [], List.replicate N.length none, []⟩ → Kp [e] H H' → Q .non H'
theorem ok_init (T : Tx K mg a) (TB : GxR.TabB base mg a.cd_is_net a.tb_is_net) : FnOk P w K mg base CX0 8 a.a_Embers___init__ a.f_Embers___init__ ["self", "net"] (spInit a.c_Embers a.tb_is_net) := by
  have G_need_net := ok_need_net (P := P) (w := w) (base := base) T TB
  refine T.F_Embers___init__.ok sc_Embers___init__ (fun vs H Q E h => ?_) (fun cdv A outer s H vs Q E hr h => ?_)
  · obtain ⟨e, dx, v, N, rfl, _⟩ := h
    rfl
  obtain ⟨e, dx, v, N, rfl, he, hd, ok, ht, q⟩ := h
  refine ⟨_, (pss_cons (ps_expr (pe_call G_need_net (hr.mono (by decide)) (by rfl) T.need_net.g T.need_net.F.kp T.need_net.b .nil pass0 (pa_cons (pv 1) pa_nil)))
      (pss_cons (ps_fld (pv 0) (pv 1) rfl)
      (pss_cons (ps_fld (pv 0) pe_int rfl)
      (pss_cons (ps_fld (pv 0) pe_int rfl)
      (pss_cons (ps_fld (pv 0) (pe_lst pa_nil) rfl)
      (pss_cons (ps_fld (pv 0) (pe_lc (own := [("_", 2)]) (g := gName 2) (by rfl) sc_Embers___init__.nd (pi_tup (pv 1)) (blkOk_by (own := [("_", 2)]) (N := s_Embers___init___N) (sc := defScope s_Embers___init__) (by decide +kernel)) (fun _ _ _ _ _ => (pg_name (i := 2) sc_Embers___init__.nd rfl (by first | exact .inl rfl | exact .inr rfl))) (fun _ _ _ _ _ => pts_nil) (fun _ _ _ _ _ => pe_non)) rfl)
      (pss_one (ps_fld (pv 0) (pe_lst pa_nil) rfl)))))))), ?_⟩
  have h12 := ok.hi
  -- need_net(net)
  refine ⟨v, rfl, [], v, N, rfl, hd.dx0, ok, ht, fun Ha ka => ?_⟩
  have hea := ka.ins (by simp) he
  have hda := hd.kt ka.kt0
  -- self._net, self._beat, self._flames
  refine ⟨v, rfl, .ref e, rfl, e, _, dx, _, rfl, hea, T.cl_Embers, T.na_Embers__net, by decide, ?_⟩
  refine ⟨.ref e, rfl, e, _, dx, _, rfl, upd_same, T.cl_Embers, T.na_Embers__beat, Nat.lt_of_le_of_lt (pl ((Nat.le_refl 0))) (by decide), ?_⟩
  refine ⟨.ref e, rfl, e, _, dx, _, rfl, upd_same, T.cl_Embers, T.na_Embers__flames, Nat.lt_of_le_of_lt (pl (pl ((Nat.le_refl 0)))) (by decide), ?_⟩
  obtain ⟨H1, e1⟩ : ∃ H1, H1 = upd (upd (upd Ha e (.ins a.c_Embers dx (putF "_net" v []))) e (.ins a.c_Embers dx (putF "_beat" (.int 0) (putF "_net" v [])))) e (.ins a.c_Embers dx (putF "_flames" (.int 0) (putF "_beat" (.int 0) (putF "_net" v [])))) := ⟨_, rfl⟩
  have he1 : H1 e = some (.ins a.c_Embers dx (putF "_flames" (.int 0) (putF "_beat" (.int 0) (putF "_net" v [])))) := by rw [e1]; exact upd_same
  have k1 : Kp [e] Ha H1 := by
    rw [e1, upd_upd, upd_upd]
    exact Kp.put (by simp) hea fun ps z => by cases z
  have t1 : Kt Ha H1 := k1.kt fun s hs xs => by
    obtain rfl : s = e := by simpa using hs
    rw [hea]; exact fun z => by cases z
  -- self._waiting = []
  refine ⟨Nat.zero_le _, fun wt nw => ?_⟩
  rw [← e1] at nw
  refine ⟨.ref e, rfl, e, _, dx, _, rfl, by rw [← e1, upd_ne (ne_of_none he1 nw)]; exact he1, T.cl_Embers, T.na_Embers__waiting, Nat.lt_of_le_of_lt (pl (pl (pl ((Nat.le_refl 0))))) (by decide), ?_⟩
  rw [← e1]
  obtain ⟨H2, e2⟩ : ∃ H2, H2 = upd H1 wt (.lst []) := ⟨_, rfl⟩
  rw [← e2]
  have k2 : Kp [] H1 H2 := e2 ▸ Kp.new nw
  have hw2 : H2 wt = some (.lst []) := by rw [e2]; exact upd_same
  have he2 := k2.ins (by simp) he1
  obtain ⟨H3, e3⟩ : ∃ H3, H3 = upd H2 e (.ins a.c_Embers dx (putF "_waiting" (.ref wt) (putF "_flames" (.int 0) (putF "_beat" (.int 0) (putF "_net" v []))))) := ⟨_, rfl⟩
  rw [← e3]
  have k3 : Kp [e] H2 H3 := e3 ▸ Kp.put (by simp) he2 fun ps z => by cases z
  have t3 : Kt H2 H3 := e3 ▸ Kt.put he2 fun ps z => by cases z
  have he3 : H3 e = some (.ins a.c_Embers dx (putF "_waiting" (.ref wt) (putF "_flames" (.int 0) (putF "_beat" (.int 0) (putF "_net" v []))))) := by rw [e3]; exact upd_same
  have hew : wt ∉ [e] := by
    have : wt ≠ e := fun z => by rw [z, he1] at nw; cases nw
    simpa using this
  have hw3 := k3.lst hew hw2
  have tA3 : Kt Ha H3 := t1.tr (k2.kt0.tr t3)
  obtain ⟨ad, xs, rfl, hx3, hl3, _⟩ := tnet_at (hda.kt tA3)
  -- self._lights = [None for _ in net]
  refine ⟨.ref ad, rfl, ad, rfl, ⟨_, SqT.of hx3⟩, fun D nD => lc_tup (xs := xs) (fun j H' => H' = upd H3 D (.lst (List.replicate j .non))) rfl (fun j H' _ z => ?_) (fun j y H' hy z => ?_) (fun H' z => ?_)⟩
  · rw [z]
    exact SqT.of ((Kt.new nD) _ _ hx3)
  · rw [z]
    have hj := (List.getElem?_eq_some_iff.mp hy).1
    refine ⟨rfl, _, upd_same, Nat.lt_of_le_of_lt (m := 12) (by rw [List.length_replicate]; omega) (by decide), ?_⟩
    rw [upd_upd, List.replicate_succ']
  rw [z, hl3]
  obtain ⟨H4, e4⟩ : ∃ H4, H4 = upd H3 D (.lst (List.replicate N.length .non)) := ⟨_, rfl⟩
  rw [← e4]
  have k4 : Kp [] H3 H4 := e4 ▸ Kp.new nD
  have hD4 : H4 D = some (.lst (List.replicate N.length .non)) := by rw [e4]; exact upd_same
  have he4 := k4.ins (by simp) he3
  refine ⟨.ref e, rfl, e, _, dx, _, rfl, he4, T.cl_Embers, T.na_Embers__lights, Nat.lt_of_le_of_lt (pl (pl (pl (pl ((Nat.le_refl 0)))))) (by decide), ?_⟩
  obtain ⟨H5, e5⟩ : ∃ H5, H5 = upd H4 e (.ins a.c_Embers dx (putF "_lights" (.ref D) (putF "_waiting" (.ref wt) (putF "_flames" (.int 0) (putF "_beat" (.int 0) (putF "_net" (.ref ad) [])))))) := ⟨_, rfl⟩
  rw [← e5]
  have k5 : Kp [e] H4 H5 := e5 ▸ Kp.put (by simp) he4 fun ps z => by cases z
  have t5 : Kt H4 H5 := e5 ▸ Kt.put he4 fun ps z => by cases z
  have he5 : H5 e = some (.ins a.c_Embers dx (putF "_lights" (.ref D) (putF "_waiting" (.ref wt) (putF "_flames" (.int 0) (putF "_beat" (.int 0) (putF "_net" (.ref ad) [])))))) := by rw [e5]; exact upd_same
  have heD : D ∉ [e] := by
    have : D ≠ e := fun z => by rw [z, he3] at nD; cases nD
    simpa using this
  -- self._rows = []
  refine ⟨Nat.zero_le _, fun rp nr => ?_⟩
  obtain ⟨H6, e6⟩ : ∃ H6, H6 = upd H5 rp (.lst []) := ⟨_, rfl⟩
  rw [← e6]
  have k6 : Kp [] H5 H6 := e6 ▸ Kp.new nr
  have he6 := k6.ins (by simp) he5
  refine ⟨.ref e, rfl, e, _, dx, _, rfl, he6, T.cl_Embers, T.na_Embers__rows, Nat.lt_of_le_of_lt (pl (pl (pl (pl (pl ((Nat.le_refl 0))))))) (by decide), ?_⟩
  rw [em_new]
  obtain ⟨H7, e7⟩ : ∃ H7, H7 = upd H6 e (.ins a.c_Embers dx (emF (.ref ad) 0 0 wt D rp)) := ⟨_, rfl⟩
  rw [← e7]
  have k7 : Kp [e] H6 H7 := e7 ▸ Kp.put (by simp) he6 fun ps z => by cases z
  have t7 : Kt H6 H7 := e7 ▸ Kt.put he6 fun ps z => by cases z
  have her : rp ∉ [e] := by
    have : rp ≠ e := fun z => by rw [z, he5] at nr; cases nr
    simpa using this
  have hr6 : H6 rp = some (.lst []) := by rw [e6]; exact upd_same
  have kA : Kp [e] H H4 := ka.of0.tr (k1.tr (k2.of0.tr (k3.tr k4.of0)))
  have free : ∀ {x Hx}, Kp [e] H Hx → Hx x = none → H x = none := fun {x Hx} k n => by
    cases z : H x with
    | none => rfl
    | some o => exact absurd n (k.tr_ x (by rw [z]; exact fun y => by cases y))
  have kA1 : Kp [e] H H1 := ka.of0.tr k1
  have kA3 : Kp [e] H H3 := kA1.tr (k2.of0.tr k3)
  have kA5 : Kp [e] H H5 := kA.tr k5
  have hw7 := k7.lst hew (k6.lst (by simp) (k5.lst hew (k4.lst (by simp) hw3)))
  have hD7 := k7.lst heD (k6.lst (by simp) (k5.lst heD hD4))
  have hr7 := k7.lst her hr6
  have wD : wt ≠ D := ne_of_none hw3 nD
  have wr : wt ≠ rp := ne_of_none (k5.lst hew (k4.lst (by simp) hw3)) nr
  have Dr : D ≠ rp := ne_of_none (k5.lst heD hD4) nr
  refine q wt D rp H7 (free kA1 nw) (free kA3 nD) (free kA5 nr) ⟨⟨dx, .ref ad, by rw [e7]; exact upd_same, hda.kt (tA3.tr (k4.kt0.tr (t5.tr (k6.kt0.tr t7))))⟩, ⟨_, hw7, .nil⟩, ⟨_, hD7, ?_⟩, ⟨_, hr7, .nil⟩, ⟨wD, wr, Dr⟩, ok, List.length_replicate, fun p z => by cases z⟩ (kA5.tr (k6.of0.tr k7))
  show TuA H7 _ ((List.replicate N.length none).map lightD)
  rw [List.map_replicate]
  exact TuA.rep .non _
def spKindle (C : Addr) : Sp := fun vs H Q _ => ∃ (e w l r : Addr) (s : EmS) (x : Nat), vs = [.ref e, .int x] ∧ Emb C H e w l r s ∧ x < s.N.length ∧ s.W.length < 1000 ∧
  ∀ H', Emb C H' e w l r { s with n := s.n + 1, W := s.W ++ [(s.n, x)] } → Kp [e, w, l, r] H H' → Q (.int s.n) H'
theorem ok_kindle (T : Tx K mg a) : FnOk P w K mg base CX0 4 a.a_Embers_kindle a.f_Embers_kindle ["self", "lamp"] (spKindle a.c_Embers) := by
  have G_need_lamp := ok_need_lamp (P := P) (w := w) (base := base) T
  refine T.F_Embers_kindle.ok sc_Embers_kindle (fun vs H Q E h => ?_) (fun cdv A outer s H vs Q E hr h => ?_)
  · obtain ⟨e, w, l, r, s, x, rfl, _⟩ := h
    rfl
  obtain ⟨e, wp, l, r, st, x, rfl, hE, hx, hW, q⟩ := h
  refine ⟨_, (pss_cons (ps_expr (pe_call G_need_lamp (hr.mono (by decide)) (by rfl) T.need_lamp.g T.need_lamp.F.kp T.need_lamp.b .nil pass0 (pa_cons (pe_fld (pv 0) rfl) (pa_cons (pv 1) pa_nil))))
      (pss_cons (ps_set (i := 2) sc_Embers_kindle.nd rfl (by first | exact .inl rfl | exact .inr rfl) (pe_fld (pv 0) rfl))
      (pss_cons (ps_expr (pe_bm PySem.F.plainAttrs_list PySem.F.slot_list_append PySem.F.type_list_append mt_append (pe_fld (pv 0) rfl) (pa_cons (pe_tup (pa_cons (pv 2) (pa_cons (pv 1) pa_nil))) pa_nil)))
      (pss_cons (ps_fldaug (pv 0) pe_int in_add)
      (pss_one (ps_ret (pv 2))))))), ?_⟩
  obtain ⟨⟨dx, v, h1, h2⟩, ⟨ws, h3, h4⟩, ⟨ls, h5, h6⟩, ⟨rs, h7, h8⟩, nd, ok, ln, wk⟩ := id hE
  -- need_lamp(self._net, lamp)
  refine ⟨.ref e, rfl, e, _, dx, _, _, rfl, h1, T.cl_Embers, T.na_Embers__net, em_net, .int x, rfl, [], v, st.N, x, rfl, h2.dx0, hx, ?_⟩
  -- flame = self._flames
  refine ⟨.ref e, rfl, e, _, dx, _, _, rfl, h1, T.cl_Embers, T.na_Embers__flames, em_flames, ?_⟩
  -- self._waiting.append((flame, lamp))
  refine ⟨.ref e, rfl, e, _, dx, _, _, rfl, h1, T.cl_Embers, T.na_Embers__waiting, em_waiting, .inl ⟨rfl, _, SqL.of h3⟩, ?_⟩
  refine ⟨.int st.n, rfl, .int x, rfl, by show 2 ≤ sizeLine; decide, fun tp ntp => ?_⟩
  have kt : Kp [] H (upd H tp (.tup [.int st.n, .int x])) := Kp.new ntp
  have lw : ws.length < sizeLine := by
    have e1 := h4.len
    rw [List.length_map] at e1
    exact Nat.lt_of_lt_of_le (show ws.length < 1000 by omega) (by decide)
  refine ⟨wp, ws, .ref tp, rfl, rfl, kt.lst (by simp) h3, lw, ?_⟩
  obtain ⟨H1, e1⟩ : ∃ H1, H1 = upd H tp (.tup [.int st.n, .int x]) := ⟨_, rfl⟩
  rw [← e1] at kt ⊢
  have htp : H1 tp = some (.tup [.int st.n, .int x]) := by rw [e1]; exact upd_same
  have hw1 := kt.lst (by simp) h3
  obtain ⟨H2, e2⟩ : ∃ H2, H2 = upd H1 wp (.lst (ws ++ [.ref tp])) := ⟨_, rfl⟩
  rw [← e2]
  have k2 : Kp [wp] H1 H2 := e2 ▸ Kp.put (by simp) hw1 fun ps z => by cases z
  have t2 : Kt H1 H2 := e2 ▸ Kt.put hw1 fun ps z => by cases z
  have ew : e ∉ [wp] := by
    have : e ≠ wp := ne_of h1 h3 fun z => by cases z
    simpa using this
  have he2 := k2.ins ew (kt.ins (by simp) h1)
  -- self._flames += 1
  refine ⟨.ref e, rfl, e, _, dx, _, _, rfl, he2, T.cl_Embers, T.na_Embers__flames, em_flames, _, _, rfl, rfl, dx, _, he2, by show 6 < 1000; decide, ?_⟩
  rw [em_putFlames]
  obtain ⟨H3, e3⟩ : ∃ H3, H3 = upd H2 e (.ins a.c_Embers dx (emF v st.b (st.n + 1) wp l r)) := ⟨_, rfl⟩
  rw [← e3]
  have k3 : Kp [e] H2 H3 := e3 ▸ Kp.put (by simp) he2 fun ps z => by cases z
  have t3 : Kt H2 H3 := e3 ▸ Kt.put he2 fun ps z => by cases z
  have tt : Kt H H3 := kt.kt0.tr (t2.tr t3)
  have we : wp ∉ [e] := by
    have : e ≠ wp := ne_of h1 h3 fun z => by cases z
    simpa using this.symm
  have le : l ∉ [e] := by
    have : e ≠ l := ne_of h1 h5 fun z => by cases z
    simpa using this.symm
  have re : r ∉ [e] := by
    have : e ≠ r := ne_of h1 h7 fun z => by cases z
    simpa using this.symm
  have hl3 := k3.lst le (k2.lst (by simpa using nd.1.symm) (kt.lst (by simp) h5))
  have hr3 := k3.lst re (k2.lst (by simpa using nd.2.1.symm) (kt.lst (by simp) h7))
  refine ⟨.int st.n, rfl, q H3 ⟨⟨dx, v, by rw [e3]; exact upd_same, h2.kt tt⟩, ⟨_, k3.lst we (by rw [e2]; exact upd_same), ?_⟩, ⟨_, hl3, h6.kt tt⟩, ⟨_, hr3, h8.kt tt⟩, nd, ok, ln, fun p hp => ?_⟩ ?_⟩
  · show TuA H3 _ ((st.W ++ [(st.n, x)]).map waitD)
    rw [List.map_append]
    exact (h4.kt tt).app (.cons (.tup ((t2.tr t3) _ _ htp) (.cons (.int _) (.cons (.int _) .nil))) .nil)
  · rcases List.mem_append.mp hp with z | z
    · exact wk p z
    · rw [List.mem_singleton.mp z]; exact hx
  · refine kt.of0.tr ((k2.wk fun x z => ?_).tr (k3.wk fun x z => ?_))
    · simp only [List.mem_cons, List.not_mem_nil, or_false] at z ⊢; exact .inr (.inl z)
    · simp only [List.mem_cons, List.not_mem_nil, or_false] at z ⊢; exact .inl z
/-- _darken(comers): what is over goes dark -/
def spDark (C : Addr) : Sp := fun vs H Q _ => ∃ (e w l r c : Addr) (ps : List Addr) (css : List (List Nat)) (s : EmS), vs = [.ref e, .ref c] ∧ Emb C H e w l r s ∧ Bag H c ps css ∧ (∀ x ∈ c :: ps, x ∉ [e, w, l, r]) ∧ css.length = s.N.length ∧ tot css ≤ 1000 ∧
  ∀ p xs H', H p = none → H' p = some (.lst xs) → TuA H' xs ((darkN s.N s.b s.N.length ⟨s.L, css, []⟩).rows.map rowD) → Emb C H' e w l r { s with L := (darkN s.N s.b s.N.length ⟨s.L, css, []⟩).L } → Bag H' c ps (darkN s.N s.b s.N.length ⟨s.L, css, []⟩).css → Kp (l :: ps) H H' → Q (.ref p) H'
theorem ok_darken (T : Tx K mg a) : FnOk P w K mg base CX0 1 a.a_Embers__darken a.f_Embers__darken ["self", "comers"] (spDark a.c_Embers) := by
  refine T.F_Embers__darken.ok sc_Embers__darken (fun vs H Q E h => ?_) (fun cdv A outer s H vs Q E hr h => ?_)
  · obtain ⟨e, w, l, r, c, ps, css, s, rfl, _⟩ := h
    rfl
  obtain ⟨e, wp, l, r, c, ps, css, st, rfl, hE, hB, hdj, hcl, htt, q⟩ := h
  refine ⟨_, (pss_cons (ps_set (i := 2) sc_Embers__darken.nd rfl (by first | exact .inl rfl | exact .inr rfl) (pe_lst pa_nil))
      (pss_cons (ps_for PassesOwn.never rfl (pi_enumT (by rfl) T.n_enumerate (pa_cons (pe_fld (pv 0) rfl) pa_nil)) (pg_tup (by rfl) (pgs_cons (pg_name (i := 3) sc_Embers__darken.nd rfl (by first | exact .inl rfl | exact .inr rfl)) (pgs_cons (pg_tup (by rfl) (pgs_cons (pg_name (i := 4) sc_Embers__darken.nd rfl (by first | exact .inl rfl | exact .inr rfl)) (pgs_cons (pg_name (i := 5) sc_Embers__darken.nd rfl (by first | exact .inl rfl | exact .inr rfl)) pgs_nil))) pgs_nil))) (pss_cons (ps_set (i := 6) sc_Embers__darken.nd rfl (by first | exact .inl rfl | exact .inr rfl) (pe_ix ix_list (pe_fld (pv 0) rfl) (pv 3) (fun _ _ => rfl)))
      (pss_cons (ps_if (PW.pt (pw_or (pt_cmpR op_isN (pv 6) pe_non (nomark _)) (pw_or1 (pt_cmpR op_gt (pe_op op_add (pe_ix ix_tup (pv 6) pe_int (fun _ _ => rfl)) (pv 4)) (pe_fld (pv 0) rfl) (nomark _))))) (pss_one ps_continue) pss_nil)
      (pss_cons (ps_asg pe_non (pg_sub (pe_fld (pv 0) rfl) (pv 3) set_list))
      (pss_one (ps_if (pt_cmpR op_isN (pv 5) pe_non (nomark _)) (pss_one (ps_expr (pe_bm PySem.F.plainAttrs_list PySem.F.slot_list_append PySem.F.type_list_append mt_append (pv 2) (pa_cons (pe_tup (pa_cons pe_str (pa_cons (pe_fld (pv 0) rfl) (pa_cons (pv 3) (pa_cons (pe_ix ix_tup (pv 6) pe_int (fun _ _ => rfl)) pa_nil))))) pa_nil)))) (pss_one (ps_expr (pe_bm PySem.F.plainAttrs_list PySem.F.slot_list_append PySem.F.type_list_append mt_append (pe_ix ix_list (pv 1) (pv 5) (fun _ _ => rfl)) (pa_cons (pe_ix ix_tup (pv 6) pe_int (fun _ _ => rfl)) pa_nil))))))))))
      (pss_one (ps_ret (pv 2))))), ?_⟩
  have h12 := hE.ok.hi
  have ok := hE.ok
  -- ended = []
  refine ⟨Nat.zero_le _, fun p np => ?_⟩
  obtain ⟨H1, e1⟩ : ∃ H1, H1 = upd H p (.lst []) := ⟨_, rfl⟩
  rw [← e1]
  have k1 : Kp [] H H1 := e1 ▸ Kp.new np
  have hp1 : H1 p = some (.lst []) := by rw [e1]; exact upd_same
  have hE1 : Emb a.c_Embers H1 e wp l r st := hE.kp k1 k1.kt0 fun _ _ => by simp
  have hB1 : Bag H1 c ps css := hB.kp k1 fun _ _ => by simp
  have pE : ∀ x ∈ [e, wp, l, r], x ≠ p := fun x hx z => hE.tr x hx (z ▸ np)
  have pB : ∀ x ∈ c :: ps, x ≠ p := fun x hx z => hB.tr x hx (z ▸ np)
  obtain ⟨⟨dx0, v, h1, h2⟩, _⟩ := id hE1
  obtain ⟨ad, xs, rfl, hx1, hl1, _⟩ := tnet_at h2
  have d0 : ∀ i, (darkN st.N st.b i ⟨st.L, css, []⟩).L.length = st.N.length ∧ (darkN st.N st.b i ⟨st.L, css, []⟩).css.length = st.N.length ∧ (darkN st.N st.b i ⟨st.L, css, []⟩).rows.length + tot (darkN st.N st.b i ⟨st.L, css, []⟩).css ≤ 1000 + i := fun i => by
    obtain ⟨a1, a2, a3⟩ := darkN_len st.N st.b ⟨st.L, css, []⟩ i
    refine ⟨a1.trans hE.ln, a2.trans hcl, Nat.le_trans a3 ?_⟩
    show 0 + tot css + i ≤ _
    omega
  -- for lamp, (length, onward) in enumerate(self._net)
  refine ⟨.ref e, rfl, e, _, dx0, _, _, rfl, h1, T.cl_Embers, T.na_Embers__net, em_net, ad, xs, rfl, SqT.of hx1,
    for_it (walk_enumT (K := K) (a := ad) (xs := xs)) (fun i σ H' => ∃ (o3 o4 o5 o6 : Option V) (rs : List V), σ = [some (.ref e), some (.ref c), some (.ref p), o3, o4, o5, o6] ∧ H' p = some (.lst rs) ∧ TuA H' rs ((darkN st.N st.b i ⟨st.L, css, []⟩).rows.map rowD) ∧
      Emb a.c_Embers H' e wp l r { st with L := (darkN st.N st.b i ⟨st.L, css, []⟩).L } ∧ Bag H' c ps (darkN st.N st.b i ⟨st.L, css, []⟩).css ∧ Kp (p :: l :: ps) H1 H' ∧ Kt H1 H') ⟨none, none, none, none, [], rfl, hp1, .nil, hE1, hB1, .rfl', .rfl'⟩ (fun i σ H' _ hP => ?_) (fun i x σ H2 H3 hi hP hy => ?_) (fun σ H2 hP => ?_)⟩
  · obtain ⟨_, _, _, _, _, _, _, _, _, _, _, t⟩ := hP
    exact SqT.of (t _ _ hx1)
  · obtain ⟨o3, o4, o5, o6, rs, rfl, hp2, tr2, hE2, hB2, k2, t2⟩ := hP
    obtain ⟨T1, x1, y1, rfl, nT, rfl, ex, ey⟩ := hy
    cases ex
    have ey : xs[i]? = some y1 := ey
    rw [hl1] at hi
    obtain ⟨d, hd⟩ : ∃ d, d = darkN st.N st.b i ⟨st.L, css, []⟩ := ⟨_, rfl⟩
    have hds : darkN st.N st.b (i + 1) ⟨st.L, css, []⟩ = darkK st.N st.b i d := by rw [hd]; rfl
    obtain ⟨dl, dc, dt⟩ := d0 i
    rw [hds]
    rw [← hd] at tr2 hE2 hB2 dl dc dt
    obtain ⟨pr, hpr⟩ : ∃ pr, st.N[i]? = some pr := ⟨st.N[i], List.getElem?_eq_getElem hi⟩
    have tT : Kt H2 (upd H2 T1 (.tup [.int (i : Nat), y1])) := Kt.new nT
    have kT : Kp [] H2 (upd H2 T1 (.tup [.int (i : Nat), y1])) := Kp.new nT
    obtain ⟨H3, e3⟩ : ∃ H3, H3 = upd H2 T1 (.tup [.int (i : Nat), y1]) := ⟨_, rfl⟩
    have hT3 : H3 T1 = some (.tup [.int (i : Nat), y1]) := by rw [e3]; exact upd_same
    rw [← e3] at tT kT ⊢
    have tA : Kt H1 H3 := t2.tr tT
    obtain ⟨ad2, xs2, ea, hx3, _, hat3⟩ := tnet_at (h2.kt tA)
    cases ea
    have exs : xs2 = xs := by
      have := tA _ _ hx1
      rw [hx3] at this
      cases this
      rfl
    subst exs
    obtain ⟨la, hla, hlp⟩ := hat3 i pr hpr
    rw [ey] at hla
    cases hla
    have hE3 : Emb a.c_Embers H3 e wp l r { st with L := d.L } := hE2.kp kT tT fun _ _ => by simp
    have hB3 : Bag H3 c ps d.css := hB2.kp kT fun _ _ => by simp
    have hp3 := kT.lst (by simp) hp2
    have tr3 := tr2.kt tT
    obtain ⟨⟨dx, v3, q1, q2⟩, _, ⟨ls, q3, q4⟩, _, nd, _⟩ := id hE3
    have q3' : H3 l = some (.lst ls) := q3
    have lls : ls.length = st.N.length := by
      have := q4.len
      rw [List.length_map] at this
      exact this.trans dl
    refine ⟨T1, _, rfl, SqT.of hT3, rfl, _, _, rfl, _, _, rfl, la, _, rfl, SqT.of hlp, rfl, _, _, rfl, _, _, rfl, rfl, rfl, ?_⟩
    -- light = self._lights[lamp]
    obtain ⟨x, hx⟩ : ∃ x, d.L[i]? = some x := ⟨d.L[i]'(by omega), List.getElem?_eq_getElem _⟩
    have hxg := getD_some hx
    obtain ⟨lv, hlv, tlv⟩ := q4.get' (i := i) (d := lightD x) (by rw [List.getElem?_map, hx]; rfl)
    refine ⟨.ref e, rfl, e, _, dx, _, _, rfl, q1, T.cl_Embers, T.na_Embers__lights, em_lights, .int i, rfl, l, ls, i, lv, rfl, rfl, SqL.of q3', atI_nat hlv, ?_⟩
    have k3 : Kp (p :: l :: ps) H1 H3 := k2.tr kT.of0
    rcases light_at tlv with ⟨rfl, rfl⟩ | ⟨f, t, lt, rfl, rfl, hlt⟩
    · refine ⟨.non, rfl, rfl, _, rfl, ?_⟩
      rw [decide_eq_true (Eq.refl V.non)]
      refine iteT ?_
      refine iteT ?_
      have e5 : darkK st.N st.b i d = d := by unfold darkK; rw [hxg]
      rw [e5]
      exact ⟨_, _, _, _, rs, rfl, hp3, tr3, hE3, hB3, k3, tA⟩
    · refine ⟨.ref lt, rfl, rfl, _, rfl, iteF ⟨.ref lt, rfl, lt, _, 1, .int (t : Nat), rfl, rfl, SqT.of hlt, atI_nat (j := 1) rfl, .int pr.1, rfl, _, _, rfl, rfl, .ref e, rfl, e, _, dx, _, _, rfl, q1, T.cl_Embers, T.na_Embers__beat, em_beat, _, _, rfl, rfl, _, rfl, ?_⟩⟩
      have eb : burnOf st.N i = pr.1 := burnOf_get hpr
      by_cases hst : (st.b : Int) < (t : Int) + pr.1
      · rw [decide_eq_true (show (t : Int) + pr.1 > (st.b : Int) from hst)]
        refine iteT ?_
        have e5 : darkK st.N st.b i d = d := by unfold darkK; rw [hxg]; show (if _ then _ else _) = _; rw [eb, if_pos hst]
        rw [e5]
        exact ⟨_, _, _, _, rs, rfl, hp3, tr3, hE3, hB3, k3, tA⟩
      · rw [decide_eq_false (show ¬ (t : Int) + pr.1 > (st.b : Int) from hst)]
        refine iteF ?_
        -- self._lights[lamp] = None
        refine ⟨.ref e, rfl, e, _, dx, _, _, rfl, q1, T.cl_Embers, T.na_Embers__lights, em_lights, .int i, rfl, l, ls, i, i, rfl, rfl, q3', Evl.ixN_nat (by omega), ?_⟩
        obtain ⟨H4, e4⟩ : ∃ H4, H4 = upd H3 l (.lst (ls.set i .non)) := ⟨_, rfl⟩
        rw [← e4]
        have k4 : Kp [l] H3 H4 := e4 ▸ Kp.put (by simp) q3' fun ps z => by cases z
        have t4 : Kt H3 H4 := e4 ▸ Kt.put q3' fun ps z => by cases z
        have hl4 : H4 l = some (.lst (ls.set i .non)) := by rw [e4]; exact upd_same
        have lne : ∀ x ∈ [e, wp, r], x ∉ [l] := fun x hx => by
          obtain ⟨_, ⟨w1, hw1, _⟩, _, ⟨r1, hr1, _⟩, _⟩ := id hE3
          have z1 : e ≠ l := ne_of q1 q3' fun z => by cases z
          simp only [List.mem_cons, List.not_mem_nil, or_false] at hx ⊢
          rcases hx with rfl | rfl | rfl
          · exact z1
          · exact nd.1
          · exact nd.2.2.symm
        have q14 := k4.ins (lne e (by simp)) q1
        have hE4 : Emb a.c_Embers H4 e wp l r { st with L := d.L.set i none } := by
          obtain ⟨⟨dx', v', a1, a2⟩, ⟨ws, a3, a4⟩, _, ⟨rs', a7, a8⟩, b1, b2, b3, b4⟩ := id hE3
          refine ⟨⟨dx', v', k4.ins (lne e (by simp)) a1, a2.kt t4⟩, ⟨ws, k4.lst (lne wp (by simp)) a3, a4.kt t4⟩, ⟨_, hl4, ?_⟩, ⟨rs', k4.lst (lne r (by simp)) a7, a8.kt t4⟩, b1, b2, by show (d.L.set i none).length = _; rw [List.length_set]; exact dl, b4⟩
          show TuA H4 _ ((d.L.set i none).map lightD)
          rw [List.map_set]
          exact (q4.kt t4).set .non i
        have dj : ∀ x ∈ c :: ps, x ∉ [l] := fun x hx z => hdj x hx (by rw [List.mem_singleton.mp z]; simp)
        have hB4 : Bag H4 c ps d.css := hB3.kp k4 dj
        have hpl : p ∉ [l] := by
          have := pE l (by simp)
          simpa using this.symm
        have hp4 := k4.lst hpl hp3
        have hlt4 := t4 _ _ hlt
        have tr4 := tr3.kt t4
        have k04 : Kp (p :: l :: ps) H1 H4 := k3.tr (k4.wk fun x z => by simp only [List.mem_cons, List.not_mem_nil, or_false] at z ⊢; exact .inr (.inl z))
        have tA4 := tA.tr t4
        -- if onward is None
        rcases z : pr.2 with _ | y
        · refine ⟨.non, rfl, rfl, _, rfl, iteT ?_⟩
          -- ended.append(("ended", self._beat, lamp, light[0]))
          refine ⟨.ref p, rfl, .inl ⟨rfl, _, SqL.of hp4⟩, .ref e, rfl, e, _, dx, _, _, rfl, q14, T.cl_Embers, T.na_Embers__beat, em_beat, .int i, rfl, .ref lt, rfl, lt, _, 0, .int (f : Nat), rfl, rfl, SqT.of hlt4, atI_nat (j := 0) rfl, by show 4 ≤ sizeLine; decide, fun tp ntp => ?_⟩
          have k5 : Kp [] H4 (upd H4 tp (.tup [.str "ended", .int st.b, .int i, .int f])) := Kp.new ntp
          have lrs : rs.length < sizeLine := by
            have := tr2.len
            rw [List.length_map] at this
            exact Nat.lt_of_lt_of_le (show rs.length < 2000 by omega) (by decide)
          refine ⟨p, rs, .ref tp, rfl, rfl, k5.lst (by simp) hp4, lrs, ?_⟩
          obtain ⟨H5, e5⟩ : ∃ H5, H5 = upd H4 tp (.tup [.str "ended", .int st.b, .int i, .int f]) := ⟨_, rfl⟩
          rw [← e5] at k5 ⊢
          have htp5 : H5 tp = some (.tup [.str "ended", .int st.b, .int i, .int f]) := by rw [e5]; exact upd_same
          have hp5 := k5.lst (by simp) hp4
          obtain ⟨H6, e6⟩ : ∃ H6, H6 = upd H5 p (.lst (rs ++ [.ref tp])) := ⟨_, rfl⟩
          rw [← e6]
          have k6 : Kp [p] H5 H6 := e6 ▸ Kp.put (by simp) hp5 fun ps z => by cases z
          have t6 : Kt H5 H6 := e6 ▸ Kt.put hp5 fun ps z => by cases z
          have ed : darkK st.N st.b i d = ⟨d.L.set i none, d.css, d.rows ++ [Row.ended st.b i f]⟩ := by
            unfold darkK
            rw [hxg]
            show (if _ then _ else _) = _
            rw [eb, if_neg hst, nxt_get hpr, z]
          rw [ed]
          have t56 := k5.kt0.tr t6
          refine ⟨_, _, _, _, rs ++ [.ref tp], rfl, by rw [e6]; exact upd_same, ?_, (hE4.kp k5 k5.kt0 fun _ _ => by simp).kp k6 t6 fun x hx => by simpa using pE x hx, (hB4.kp k5 fun _ _ => by simp).kp k6 fun x hx => by simpa using pB x hx, k04.tr (k5.of0.tr (k6.wk fun x z => by simp only [List.mem_cons, List.not_mem_nil, or_false] at z ⊢; exact .inl z)), tA4.tr t56⟩
          show TuA H6 _ ((d.rows ++ [Row.ended st.b i f]).map rowD)
          rw [List.map_append]
          exact (tr4.kt t56).app (.cons (.tup (t6 _ _ htp5) (.cons (.str _) (.cons (.int _) (.cons (.int _) (.cons (.int _) .nil))))) .nil)
        · have hyN : y < st.N.length := ok.nx pr (List.mem_of_getElem? hpr) y z
          refine ⟨.int y, rfl, rfl, _, rfl, iteF ?_⟩
          -- comers[onward].append(light[0])
          obtain ⟨pp, g, hg, hpp, hppv, hHp, hpm⟩ := hB4.get (i := y) (by omega)
          refine ⟨.ref c, rfl, .int y, rfl, c, _, y, .ref pp, rfl, rfl, SqL.of hB4.top, atI_nat hppv, .inl ⟨rfl, _, SqL.of hHp⟩, .ref lt, rfl, lt, _, 0, .int (f : Nat), rfl, rfl, SqT.of hlt4, atI_nat (j := 0) rfl, pp, natV g, .int (f : Nat), rfl, rfl, hHp, ?_, ?_⟩
          · have := tot_mem (List.mem_of_getElem? hg)
            rw [natV_len]
            exact Nat.lt_of_lt_of_le (show g.length < 2000 by omega) (by decide)
          rw [← natV_app]
          obtain ⟨H5, e5⟩ : ∃ H5, H5 = upd H4 pp (.lst (natV (g ++ [f]))) := ⟨_, rfl⟩
          rw [← e5]
          have k5 : Kp [pp] H4 H5 := e5 ▸ Kp.put (by simp) hHp fun ps z => by cases z
          have t5 : Kt H4 H5 := e5 ▸ Kt.put hHp fun ps z => by cases z
          have hB5 : Bag H5 c ps (d.css.set y (g ++ [f])) := e5 ▸ hB4.put hpp (g ++ [f])
          have ed : darkK st.N st.b i d = ⟨d.L.set i none, d.css.set y (g ++ [f]), d.rows⟩ := by
            unfold darkK
            rw [hxg]
            show (if _ then _ else _) = _
            rw [eb, if_neg hst, nxt_get hpr, z]
            show (⟨_, d.css.set y (d.css.getD y [] ++ [f]), _⟩ : Dk) = _
            rw [getD_css hg]
          rw [ed]
          have hppE : ∀ x ∈ [e, wp, l, r], x ∉ [pp] := fun x hx z => by
            obtain rfl : x = pp := by simpa using z
            exact hdj x (List.mem_cons_of_mem _ hpm) hx
          refine ⟨_, _, _, _, rs, rfl, k5.lst (by have := pB pp (List.mem_cons_of_mem _ hpm); simpa using this.symm) hp4, tr4.kt t5, hE4.kp k5 t5 hppE, hB5, k04.tr (k5.wk fun x z => ?_), tA4.tr t5⟩
          obtain rfl : x = pp := by simpa using z
          exact List.mem_cons_of_mem _ (List.mem_cons_of_mem _ hpm)
  · obtain ⟨o3, o4, o5, o6, rs, rfl, hp2, tr2, hE2, hB2, k2, t2⟩ := hP
    rw [hl1] at tr2 hE2 hB2
    exact ⟨.ref p, rfl, q p rs H2 np hp2 tr2 hE2 hB2 (Kp.drop np (k1.of0.tr k2))⟩
theorem set_same {L : List Lt} {k : Nat} {x : Lt} (h : L[k]? = some x) : L.set k x = L := by
  obtain ⟨hk, rfl⟩ := List.getElem?_eq_some_iff.mp h
  exact List.set_getElem_self hk
def keeper : Lt → Nat
  | none => 0
  | some (g, _) => g
def spMeet (C : Addr) : Sp := fun vs H Q _ => ∃ (e w l r : Addr) (s : EmS) (k : Nat) (q : Addr) (fs : List Nat), vs = [.ref e, .int k, .ref q] ∧ Emb C H e w l r s ∧ k < s.N.length ∧ H q = some (.lst (natV fs)) ∧ fs.length < 2000 ∧ q ∉ [l] ∧
  ∀ p xs H', H p = none → H' p = some (.lst xs) → TuA H' xs ((meet s.b k (s.L.getD k none) fs).2.map rowD) → Emb C H' e w l r { s with L := s.L.set k (meet s.b k (s.L.getD k none) fs).1 } → Kp [l] H H' → Q (.ref p) H'
theorem ok_meet (T : Tx K mg a) : FnOk P w K mg base CX0 1 a.a_Embers__meet a.f_Embers__meet ["self", "lamp", "flames"] (spMeet a.c_Embers) := by
  refine T.F_Embers__meet.ok sc_Embers__meet (fun vs H Q E h => ?_) (fun cdv A outer s H vs Q E hr h => ?_)
  · obtain ⟨e, w, l, r, s, k, q, fs, rfl, _⟩ := h
    rfl
  obtain ⟨e, wp, l, r, st, k, fq, fs, rfl, hE, hk, hfq, hfl, hfq2, q⟩ := h
  refine ⟨_, (pss_cons (ps_set (i := 3) sc_Embers__meet.nd rfl (by first | exact .inl rfl | exact .inr rfl) (pe_lst pa_nil))
      (pss_cons (ps_set (i := 4) sc_Embers__meet.nd rfl (by first | exact .inl rfl | exact .inr rfl) (pv 2))
      (C8.pss_cut (ps_if (PW.pt (pw_and (pt_truth (pv 2) (by intro _; rfl)) (pw_and1 (pt_cmpR op_isN (pe_ix ix_list (pe_fld (pv 0) rfl) (pv 1) (fun _ _ => rfl)) pe_non (nomark _))))) (pss_cons (ps_asg (pe_tup (pa_cons (pe_ix ix_list (pv 2) pe_int (fun _ _ => rfl)) (pa_cons (pe_fld (pv 0) rfl) pa_nil))) (pg_sub (pe_fld (pv 0) rfl) (pv 1) set_list))
      (pss_cons (ps_expr (pe_bm PySem.F.plainAttrs_list PySem.F.slot_list_append PySem.F.type_list_append mt_append (pv 3) (pa_cons (pe_tup (pa_cons pe_str (pa_cons (pe_fld (pv 0) rfl) (pa_cons (pv 1) (pa_cons (pe_ix ix_list (pv 2) pe_int (fun _ _ => rfl)) pa_nil))))) pa_nil)))
      (pss_one (ps_set (i := 4) sc_Embers__meet.nd rfl (by first | exact .inl rfl | exact .inr rfl) (pe_slice sl_list (pv 2) (po_some pe_int) po_none))))) pss_nil)
      (pss_cons (ps_for PassesOwn.never rfl (pi_list (pv 4)) (pg_name (i := 5) sc_Embers__meet.nd rfl (by first | exact .inl rfl | exact .inr rfl)) (pss_one (ps_expr (pe_bm PySem.F.plainAttrs_list PySem.F.slot_list_append PySem.F.type_list_append mt_append (pv 3) (pa_cons (pe_tup (pa_cons pe_str (pa_cons (pe_fld (pv 0) rfl) (pa_cons (pv 1) (pa_cons (pv 5) (pa_cons (pe_ix ix_tup (pe_ix ix_list (pe_fld (pv 0) rfl) (pv 1) (fun _ _ => rfl)) pe_int (fun _ _ => rfl)) pa_nil)))))) pa_nil)))))
      (pss_one (ps_ret (pv 3))))))), ?_⟩
  -- rows = [], lost = flames
  refine ⟨Nat.zero_le _, fun p np => ⟨.ref fq, rfl, ?_⟩⟩
  obtain ⟨H1, e1⟩ : ∃ H1, H1 = upd H p (.lst []) := ⟨_, rfl⟩
  rw [← e1]
  have k1 : Kp [] H H1 := e1 ▸ Kp.new np
  have hp1 : H1 p = some (.lst []) := by rw [e1]; exact upd_same
  have hE1 : Emb a.c_Embers H1 e wp l r st := hE.kp k1 k1.kt0 fun _ _ => by simp
  have hq1 := k1.lst (by simp) hfq
  have pE : ∀ x ∈ [e, wp, l, r], x ≠ p := fun x hx z => hE.tr x hx (z ▸ np)
  have qp : fq ≠ p := ne_of_none hfq np
  have hkL : k < st.L.length := by rw [hE.ln]; exact hk
  obtain ⟨x, hx⟩ : ∃ x, st.L[k]? = some x := ⟨st.L[k], List.getElem?_eq_getElem hkL⟩
  have hxg := getD_some hx
  rw [hxg] at q
  have same : (meet st.b k x fs).1 = x → st.L.set k x = st.L := fun _ => set_same hx
  obtain ⟨⟨dx, v, q1, q2⟩, _, ⟨ls, q3, q4⟩, _, nd, _⟩ := id hE1
  obtain ⟨Mid, hMid⟩ : ∃ Mid : L2.St → Hp → Prop, Mid = fun σ' H' => ∃ (q2 : Addr) (gs : List Nat) (xs0 : List V) (R0 : List Em.Row) (y : Lt), σ' = [some (.ref e), some (.int k), some (.ref fq), some (.ref p), some (.ref q2), none] ∧ H' q2 = some (.lst (natV gs)) ∧ gs.length < 2000 ∧ R0.length ≤ 1 ∧
      H' p = some (.lst xs0) ∧ TuA H' xs0 (R0.map rowD) ∧ Emb a.c_Embers H' e wp l r { st with L := st.L.set k y } ∧ q2 ≠ p ∧ (gs = [] ∨ ∃ g t, y = some (g, t)) ∧ y = (meet st.b k x fs).1 ∧ R0 ++ gs.map (fun f => Row.lost st.b k f (keeper y)) = (meet st.b k x fs).2 ∧ Kp [l] H H' := ⟨_, rfl⟩
  refine ⟨Mid, ?_, fun σ' H2 hM => ?_⟩
  · have hE1' : Emb a.c_Embers H1 e wp l r { st with L := st.L.set k x } := by rw [set_same hx]; exact hE1
    cases fs with
    | nil =>
      refine ⟨.ref fq, rfl, _, .inl ⟨_, SqL.of hq1, rfl⟩, ?_⟩
      refine iteF ?_
      refine iteF ?_
      show Mid _ _
      rw [hMid]
      have em : meet st.b k x [] = (x, []) := by
        rcases x with _ | ⟨g, t⟩ <;> rfl
      exact ⟨fq, [], [], [], x, rfl, hq1, by decide, by decide, hp1, .nil, hE1', qp, .inl rfl, by rw [em], by rw [em]; rfl, k1.of0⟩
    | cons f rr =>
      refine ⟨.ref fq, rfl, _, .inl ⟨_, SqL.of hq1, rfl⟩, ?_⟩
      refine iteT ?_
      obtain ⟨lv, hlv, tlv⟩ := q4.get' (i := k) (d := lightD x) (by rw [List.getElem?_map, hx]; rfl)
      refine ⟨.ref e, rfl, e, _, dx, _, _, rfl, q1, T.cl_Embers, T.na_Embers__lights, em_lights, .int k, rfl, l, ls, k, lv, rfl, rfl, SqL.of q3, atI_nat hlv, rfl, _, rfl, ?_⟩
      rcases light_at tlv with ⟨rfl, rfl⟩ | ⟨g, t, lt, rfl, rfl, hlt⟩
      · refine iteT ?_
        -- self._lights[lamp] = (flames[0], self._beat)
        refine ⟨.ref fq, rfl, fq, _, 0, .int (f : Nat), rfl, rfl, SqL.of hq1, atI_nat (j := 0) rfl, .ref e, rfl, e, _, dx, _, _, rfl, q1, T.cl_Embers, T.na_Embers__beat, em_beat, by show 2 ≤ sizeLine; decide, fun tp ntp => ?_⟩
        have k2 : Kp [] H1 (upd H1 tp (.tup [.int (f : Nat), .int st.b])) := Kp.new ntp
        refine ⟨.ref e, rfl, e, _, dx, _, _, rfl, k2.ins (by simp) q1, T.cl_Embers, T.na_Embers__lights, em_lights, .int k, rfl, l, ls, k, k, rfl, rfl, k2.lst (by simp) q3, Evl.ixN_nat (by
          have := q4.len
          rw [List.length_map] at this
          omega), ?_⟩
        obtain ⟨H2, e2⟩ : ∃ H2, H2 = upd H1 tp (.tup [.int (f : Nat), .int st.b]) := ⟨_, rfl⟩
        rw [← e2] at k2 ⊢
        have htp2 : H2 tp = some (.tup [.int (f : Nat), .int st.b]) := by rw [e2]; exact upd_same
        have ql2 := k2.lst (by simp) q3
        obtain ⟨H3, e3⟩ : ∃ H3, H3 = upd H2 l (.lst (ls.set k (.ref tp))) := ⟨_, rfl⟩
        rw [← e3]
        have k3 : Kp [l] H2 H3 := e3 ▸ Kp.put (by simp) ql2 fun ps z => by cases z
        have t3 : Kt H2 H3 := e3 ▸ Kt.put ql2 fun ps z => by cases z
        have lne : ∀ x ∈ [e, wp, r], x ∉ [l] := fun x hx => by
          obtain ⟨_, ⟨w1, hw1, _⟩, _, ⟨r1, hr1, _⟩, _⟩ := id hE1
          have z1 : e ≠ l := ne_of q1 q3 fun z => by cases z
          simp only [List.mem_cons, List.not_mem_nil, or_false] at hx ⊢
          rcases hx with rfl | rfl | rfl
          · exact z1
          · exact nd.1
          · exact nd.2.2.symm
        have hE3 : Emb a.c_Embers H3 e wp l r { st with L := st.L.set k (some (f, st.b)) } := by
          obtain ⟨⟨dx', v', a1, a2⟩, ⟨ws, a3, a4⟩, _, ⟨rs', a7, a8⟩, b1, b2, b3, b4⟩ := hE1.kp k2 k2.kt0 fun _ _ => by simp
          refine ⟨⟨dx', v', k3.ins (lne e (by simp)) a1, a2.kt t3⟩, ⟨ws, k3.lst (lne wp (by simp)) a3, a4.kt t3⟩, ⟨_, by rw [e3]; exact upd_same, ?_⟩, ⟨rs', k3.lst (lne r (by simp)) a7, a8.kt t3⟩, b1, b2, by show (st.L.set k _).length = _; rw [List.length_set]; exact hE.ln, b4⟩
          show TuA H3 _ ((st.L.set k _).map lightD)
          rw [List.map_set]
          exact (q4.kt (k2.kt0.tr t3)).set (.tup (t3 _ _ htp2) (.cons (.int _) (.cons (.int _) .nil))) k
        obtain ⟨⟨dx3, v3, q13, _⟩, _⟩ := id hE3
        have hpl : p ∉ [l] := by simpa using (pE l (by simp)).symm
        have hp3 := k3.lst hpl (k2.lst (by simp) hp1)
        have hq3 := k3.lst hfq2 (k2.lst (by simp) hq1)
        -- rows.append(("lit", self._beat, lamp, flames[0]))
        refine ⟨.ref p, rfl, .inl ⟨rfl, _, SqL.of hp3⟩, .ref e, rfl, e, _, dx3, _, _, rfl, q13, T.cl_Embers, T.na_Embers__beat, em_beat, .int k, rfl, .ref fq, rfl, fq, _, 0, .int (f : Nat), rfl, rfl, SqL.of hq3, atI_nat (j := 0) rfl, by show 4 ≤ sizeLine; decide, fun t4 nt4 => ?_⟩
        have k4 : Kp [] H3 (upd H3 t4 (.tup [.str "lit", .int st.b, .int k, .int f])) := Kp.new nt4
        refine ⟨p, [], .ref t4, rfl, rfl, k4.lst (by simp) hp3, by decide, ?_⟩
        obtain ⟨H4, e4⟩ : ∃ H4, H4 = upd H3 t4 (.tup [.str "lit", .int st.b, .int k, .int f]) := ⟨_, rfl⟩
        rw [← e4] at k4 ⊢
        have ht4 : H4 t4 = some (.tup [.str "lit", .int st.b, .int k, .int f]) := by rw [e4]; exact upd_same
        have hp4 := k4.lst (by simp) hp3
        obtain ⟨H5, e5⟩ : ∃ H5, H5 = upd H4 p (.lst ([] ++ [.ref t4])) := ⟨_, rfl⟩
        rw [← e5]
        have k5 : Kp [p] H4 H5 := e5 ▸ Kp.put (by simp) hp4 fun ps z => by cases z
        have t5 : Kt H4 H5 := e5 ▸ Kt.put hp4 fun ps z => by cases z
        have hq5 := k5.lst (by simpa using qp) (k4.lst (by simp) hq3)
        -- lost = flames[1:]
        refine ⟨.ref fq, rfl, _, rfl, fq, _, rfl, SqL.of hq5, fun q6 nq6 => ?_⟩
        have ecut : cutV (natV (f :: rr)) (some 1) none = natV rr := natV_cut1 (i := 1) (g := f :: rr) (by simp)
        rw [ecut]
        obtain ⟨H6, e6⟩ : ∃ H6, H6 = upd H5 q6 (.lst (natV rr)) := ⟨_, rfl⟩
        rw [← e6]
        have k6 : Kp [] H5 H6 := e6 ▸ Kp.new nq6
        have hp5 : H5 p = some (.lst [.ref t4]) := by rw [e5]; exact upd_same
        show Mid _ _
        rw [hMid]
        refine ⟨q6, rr, [.ref t4], [.lit st.b k f], some (f, st.b), rfl, by rw [e6]; exact upd_same, by simp at hfl; omega, by simp, k6.lst (by simp) hp5, ?_, ((hE3.kp k4 k4.kt0 fun _ _ => by simp).kp k5 t5 fun x hx => by simpa using pE x hx).kp k6 k6.kt0 fun _ _ => by simp, (ne_of_none hp5 nq6).symm, .inr ⟨_, _, rfl⟩, rfl, rfl, ?_⟩
        · exact .cons (.tup (k6.kt0 _ _ (t5 _ _ ht4)) (.cons (.str _) (.cons (.int _) (.cons (.int _) (.cons (.int _) .nil))))) .nil
        · have kk : Kp [p, l] H H6 := k1.of0.tr (k2.of0.tr ((k3.wk fun x z => by simp only [List.mem_cons, List.not_mem_nil, or_false] at z ⊢; exact .inr z).tr (k4.of0.tr ((k5.wk fun x z => by simp only [List.mem_cons, List.not_mem_nil, or_false] at z ⊢; exact .inl z).tr k6.of0))))
          exact Kp.drop np kk
      · refine iteF ?_
        show Mid _ _
        rw [hMid]
        exact ⟨fq, f :: rr, [], [], some (g, t), rfl, hq1, hfl, by decide, hp1, .nil, hE1', qp, .inr ⟨_, _, rfl⟩, rfl, rfl, k1.of0⟩
  · rw [hMid] at hM
    obtain ⟨q2', gs, xs0, R0, y, rfl, hq2, hgl, hRl, hp2, tr2, hE2, q2p, hgy, ey, eR, k2⟩ := hM
    obtain ⟨W0, hW0⟩ : ∃ W0 : Nat → List Em.Row, W0 = fun j => R0 ++ (gs.take j).map (fun f => Row.lost st.b k f (keeper y)) := ⟨_, rfl⟩
    refine ⟨.ref q2', rfl, q2', rfl, ⟨_, SqL.of hq2⟩, for_list (xs := natV gs) (fun j σ H' => ∃ (o5 : Option V) (xs : List V), σ = [some (.ref e), some (.int k), some (.ref fq), some (.ref p), some (.ref q2'), o5] ∧ H' p = some (.lst xs) ∧ TuA H' xs ((W0 j).map rowD) ∧ Emb a.c_Embers H' e wp l r { st with L := st.L.set k y } ∧ Kp [p] H2 H') ⟨none, xs0, rfl, hp2, by rw [hW0]; simpa using tr2, hE2, .rfl'⟩ (fun j σ H' _ hP => ?_) (fun j z σ H3 hz hP => ?_) (fun σ H3 hP => ?_)⟩
    · obtain ⟨_, _, _, _, _, _, k3⟩ := hP
      exact SqL.of (k3.lst (by simpa using q2p) hq2)
    · obtain ⟨o5, xs, rfl, hp3, tr3, hE3, k3⟩ := hP
      obtain ⟨f, hf, rfl⟩ : ∃ f : Nat, gs[j]? = some f ∧ z = .int (f : Int) := by
        unfold natV at hz
        rw [List.getElem?_map] at hz
        cases q1 : gs[j]? with
        | none => rw [q1] at hz; cases hz
        | some u => rw [q1] at hz; exact ⟨u, rfl, (Option.some.inj hz).symm⟩
      obtain ⟨g, t, rfl⟩ : ∃ g t, y = some (g, t) := by
        rcases hgy with rfl | h
        · cases hf
        · exact h
      obtain ⟨⟨dx3, v3, q13, _⟩, _, ⟨ls3, q33, q43⟩, _⟩ := id hE3
      have hlk : (st.L.set k (some (g, t)))[k]? = some (some (g, t)) := List.getElem?_set_self hkL
      obtain ⟨lv, hlv, tlv⟩ := q43.get' (i := k) (d := lightD (some (g, t))) (by rw [List.getElem?_map, hlk]; rfl)
      rcases light_at tlv with ⟨hh, _⟩ | ⟨g', t', lt, hh, rfl, hlt⟩
      · cases hh
      cases hh
      refine ⟨.ref p, rfl, .inl ⟨rfl, _, SqL.of hp3⟩, .ref e, rfl, e, _, dx3, _, _, rfl, q13, T.cl_Embers, T.na_Embers__beat, em_beat, .int k, rfl, .int f, rfl, .ref e, rfl, e, _, dx3, _, _, rfl, q13, T.cl_Embers, T.na_Embers__lights, em_lights, .int k, rfl, l, ls3, k, .ref lt, rfl, rfl, SqL.of q33, atI_nat hlv, lt, _, 0, .int (g : Nat), rfl, rfl, SqT.of hlt, atI_nat (j := 0) rfl, by show 5 ≤ sizeLine; decide, fun t4 nt4 => ?_⟩
      have k4 : Kp [] H3 (upd H3 t4 (.tup [.str "lost", .int st.b, .int k, .int f, .int g])) := Kp.new nt4
      have lx : xs.length < sizeLine := by
        have e1 := tr3.len
        have e2 : (W0 j).length ≤ 1 + gs.length := by
          rw [hW0]
          show (R0 ++ (gs.take j).map _).length ≤ _
          rw [List.length_append, List.length_map, List.length_take]
          omega
        rw [List.length_map] at e1
        exact Nat.lt_of_lt_of_le (show xs.length < 3000 by omega) (by decide)
      refine ⟨p, xs, .ref t4, rfl, rfl, k4.lst (by simp) hp3, lx, ?_⟩
      obtain ⟨H4, e4⟩ : ∃ H4, H4 = upd H3 t4 (.tup [.str "lost", .int st.b, .int k, .int f, .int g]) := ⟨_, rfl⟩
      rw [← e4] at k4 ⊢
      have ht4 : H4 t4 = some (.tup [.str "lost", .int st.b, .int k, .int f, .int g]) := by rw [e4]; exact upd_same
      have hp4 := k4.lst (by simp) hp3
      obtain ⟨H5, e5⟩ : ∃ H5, H5 = upd H4 p (.lst (xs ++ [.ref t4])) := ⟨_, rfl⟩
      rw [← e5]
      have k5 : Kp [p] H4 H5 := e5 ▸ Kp.put (by simp) hp4 fun ps z => by cases z
      have t5 : Kt H4 H5 := e5 ▸ Kt.put hp4 fun ps z => by cases z
      refine ⟨_, xs ++ [.ref t4], rfl, by rw [e5]; exact upd_same, ?_, (hE3.kp k4 k4.kt0 fun _ _ => by simp).kp k5 t5 fun x hx => by simpa using pE x hx, k3.tr (k4.of0.tr k5)⟩
      have eW : W0 (j + 1) = W0 j ++ [Row.lost st.b k f g] := by
        rw [hW0]
        show R0 ++ (gs.take (j + 1)).map _ = R0 ++ (gs.take j).map _ ++ _
        rw [List.take_add_one, hf, List.map_append, List.append_assoc]
        rfl
      rw [eW, List.map_append]
      exact (tr3.kt (k4.kt0.tr t5)).app (.cons (.tup (t5 _ _ ht4) (.cons (.str _) (.cons (.int _) (.cons (.int _) (.cons (.int _) (.cons (.int _) .nil)))))) .nil)
    · obtain ⟨o5, xs, rfl, hp3, tr3, hE3, k3⟩ := hP
      have eW : W0 (natV gs).length = (meet st.b k x fs).2 := by
        rw [hW0, natV_len]
        show R0 ++ (gs.take gs.length).map _ = _
        rw [List.take_length]
        exact eR
      rw [eW] at tr3
      rw [ey] at hE3
      exact ⟨.ref p, rfl, q p xs H3 np hp3 tr3 hE3 (Kp.drop np ((k2.wk fun x z => List.mem_cons_of_mem _ z).tr (k3.wk fun x z => by
        rw [List.mem_singleton.mp z]; exact List.mem_cons_self)))⟩
def spGoOn (C : Addr) : Sp := fun vs H Q _ => ∃ (e w l r : Addr) (s : EmS), vs = [.ref e] ∧ Emb C H e w l r s ∧ s.W.length ≤ 500 ∧
  ∀ w' p xs H', H w' = none → H p = none → p ≠ w' → H' p = some (.lst xs) → TuA H' xs (s.rows.map rowD) → Emb C H' e w' l r s.go → Kp [e, l] H H' → Q (.ref p) H'
theorem ok_go_on (T : Tx K mg a) : FnOk P w K mg base CX0 2 a.a_Embers__go_on a.f_Embers__go_on ["self"] (spGoOn a.c_Embers) := by
  have G_Embers__darken := ok_darken (P := P) (w := w) (base := base) T
  have G_Embers__meet := ok_meet (P := P) (w := w) (base := base) T
  refine T.F_Embers__go_on.ok sc_Embers__go_on (fun vs H Q E h => ?_) (fun cdv A outer s H vs Q E hr h => ?_)
  · obtain ⟨e, w, l, r, s, rfl, _⟩ := h
    rfl
  obtain ⟨e, wp, l, r, st, rfl, hE, hW, q⟩ := h
  refine ⟨_, (pss_cons (ps_setLc (i := 1) (own := [("_", 2)]) (g := gName 2) (by rfl) sc_Embers__go_on.nd rfl rfl (sw_true rfl rfl rfl (by decide +kernel)) (pi_tup (pe_fld (pv 0) rfl)) (blkOk_by (own := [("_", 2)]) (N := s_Embers__go_on_N) (sc := defScope s_Embers__go_on) (by decide +kernel)) (fun _ _ _ _ _ => (pg_name (i := 2) sc_Embers__go_on.nd rfl (by first | exact .inl rfl | exact .inr rfl))) (fun _ _ _ _ _ => pts_nil) (fun _ _ _ _ _ => (pe_lst pa_nil)))
      (pss_cons (ps_set (i := 3) sc_Embers__go_on.nd rfl (by first | exact .inl rfl | exact .inr rfl) (pe_meth (pv 0) T.cl_Embers T.m_Embers__darken G_Embers__darken (hr.mono (by decide)) T.b_Embers__darken .nil pass0 (pa_cons (pv 1) pa_nil)))
      (pss_cons (ps_for PassesOwn.never rfl (pi_list (pe_fld (pv 0) rfl)) (pg_tup (by rfl) (pgs_cons (pg_name (i := 4) sc_Embers__go_on.nd rfl (by first | exact .inl rfl | exact .inr rfl)) (pgs_cons (pg_name (i := 5) sc_Embers__go_on.nd rfl (by first | exact .inl rfl | exact .inr rfl)) pgs_nil))) (pss_one (ps_expr (pe_bm PySem.F.plainAttrs_list PySem.F.slot_list_append PySem.F.type_list_append mt_append (pe_ix ix_list (pv 1) (pv 5) (fun _ _ => rfl)) (pa_cons (pv 4) pa_nil)))))
      (pss_cons (ps_fld (pv 0) (pe_lst pa_nil) rfl)
      (pss_cons (ps_for PassesOwn.never rfl (pi_enum (by rfl) T.n_enumerate (pa_cons (pv 1) pa_nil)) (pg_tup (by rfl) (pgs_cons (pg_name (i := 5) sc_Embers__go_on.nd rfl (by first | exact .inl rfl | exact .inr rfl)) (pgs_cons (pg_name (i := 6) sc_Embers__go_on.nd rfl (by first | exact .inl rfl | exact .inr rfl)) pgs_nil))) (pss_one (ps_expr (pe_bm PySem.F.plainAttrs_list PySem.F.slot_list_extend PySem.F.type_list_extend mt_extend (pv 3) (pa_cons (pe_meth (pv 0) T.cl_Embers T.m_Embers__meet G_Embers__meet (hr.mono (by decide)) T.b_Embers__meet .nil pass0 (pa_cons (pv 5) (pa_cons (pe_callB cr_sortedI (by rfl) T.n_sorted (by decide +kernel) (pa_cons (pv 6) pa_nil)) pa_nil))) pa_nil)))))
      (pss_cons (ps_fldaug (pv 0) pe_int in_add)
      (pss_one (ps_ret (pv 3))))))))), ?_⟩
  have h12 := hE.ok.hi
  obtain ⟨⟨dx, v, q1, q2⟩, _, ⟨ls, q3, q4⟩, _, nd, _⟩ := id hE
  obtain ⟨ad, xs, rfl, hx1, hl1, _⟩ := tnet_at q2
  -- comers = [[] for _ in self._net]
  refine ⟨.ref e, rfl, e, _, dx, _, _, rfl, q1, T.cl_Embers, T.na_Embers__net, em_net, ad, rfl, ⟨_, SqT.of hx1⟩, fun c nc => lc_tup (xs := xs) (fun j H' => ∃ ps, Bag H' c ps (List.replicate j []) ∧ (∀ x ∈ c :: ps, H x = none) ∧ Kp [] H H') ?_ (fun j H' _ hP => ?_) (fun j y H' hy hP => ?_) (fun H1 hP => ?_)⟩
  · exact ⟨[], ⟨upd_same, by simp, rfl, fun i p g hp => by simp at hp⟩, fun x hx => by rw [List.mem_singleton.mp hx]; exact nc, Kp.new nc⟩
  · obtain ⟨_, _, _, k⟩ := hP
    exact SqT.of (k.kt0 _ _ hx1)
  · obtain ⟨ps, hB, hn, k⟩ := hP
    have hj := (List.getElem?_eq_some_iff.mp hy).1
    refine ⟨rfl, Nat.zero_le _, fun q5 nq5 => ⟨_, (Kp.new (S := []) nq5).lst (by simp) hB.top, ?_, ps ++ [q5], ?_, fun x hx => ?_, ?_⟩⟩
    · have := hB.len
      rw [List.length_replicate] at this
      rw [List.length_map]
      exact Nat.lt_of_lt_of_le (show ps.length < 1000 by omega) (by decide)
    · rw [List.replicate_succ']
      exact hB.more nq5
    · rcases List.mem_cons.mp hx with z | z
      · exact hn x (by rw [z]; exact List.mem_cons_self)
      · rcases List.mem_append.mp z with z | z
        · exact hn x (List.mem_cons_of_mem _ z)
        · rw [List.mem_singleton.mp z]
          cases y : H q5 with
          | none => rfl
          | some o => exact absurd nq5 (k.tr_ q5 (by rw [y]; exact fun y => by cases y))
    · have k5 : Kp [] H (upd H' q5 (.lst [])) := k.tr (Kp.new nq5)
      exact Kp.drop nc (k5.of0.tr (Kp.put (S := [c]) (by simp) ((Kp.new (S := []) nq5).lst (by simp) hB.top) fun ps z => by cases z))
  rw [hl1] at hP
  obtain ⟨ps, hB1, hn, k1⟩ := hP
  have dj : ∀ x ∈ c :: ps, x ∉ [e, wp, l, r] := fun x hx z => hE.tr x z (hn x hx)
  have hE1 := hE.kp k1 k1.kt0 fun _ _ => by simp
  have q11 := k1.ins (by simp) q1
  -- rows = self._darken(comers)
  refine ⟨.ref e, rfl, e, dx, _, rfl, q11, em_no (by decide +kernel), .ref c, rfl, e, wp, l, r, c, ps, _, st, rfl, hE1, hB1, dj, List.length_replicate, by rw [tot_rep]; exact Nat.zero_le _, fun p xs0 H2 np hp2 tr2 hE2 hB2 k2 => ?_⟩
  obtain ⟨d, hd⟩ : ∃ d, d = darkA st.N st.b st.L := ⟨_, rfl⟩
  have hd' : darkN st.N st.b st.N.length ⟨st.L, List.replicate st.N.length [], []⟩ = d := hd.symm
  rw [hd'] at tr2 hE2 hB2
  obtain ⟨dl, dc, dt⟩ := darkA_len (b := st.b) hE.ln
  rw [← hd] at dl dc dt
  have npH : H p = none := by
    cases z : H p with
    | none => rfl
    | some o => exact absurd np (k1.tr_ p (by rw [z]; exact fun y => by cases y))
  have pB : ∀ x ∈ c :: ps, x ≠ p := fun x hx z => hB1.tr x hx (z ▸ np)
  have pE : ∀ x ∈ [e, wp, l, r], x ≠ p := fun x hx z => hE.tr x hx (z ▸ npH)
  obtain ⟨⟨dx2, v2, q12, _⟩, ⟨ws, q52, q62⟩, _⟩ := id hE2
  have lws : ws.length = st.W.length := by
    have := q62.len
    rwa [List.length_map] at this
  have wkN : ∀ p ∈ st.W, p.2 < st.N.length := hE.wk
  -- for flame, lamp in self._waiting
  refine ⟨.ref e, rfl, e, _, dx2, _, _, rfl, q12, T.cl_Embers, T.na_Embers__waiting, em_waiting, wp, rfl, ⟨_, SqL.of q52⟩, for_list (xs := ws) (fun j σ H' => ∃ (o4 o5 o6 : Option V), σ = [some (.ref e), some (.ref c), none, some (.ref p), o4, o5, o6] ∧ Bag H' c ps (addW d.css (st.W.take j)) ∧ Kp ps H2 H' ∧ Kt H2 H') ⟨none, none, none, rfl, hB2, .rfl', .rfl'⟩ (fun j σ H' _ hP => ?_) (fun j x σ H3 hx hP => ?_) (fun σ H3 hP => ?_)⟩
  · obtain ⟨_, _, _, _, _, k, _⟩ := hP
    exact SqL.of (k.lst (fun z => dj wp (List.mem_cons_of_mem _ z) (by simp)) q52)
  · obtain ⟨o4, o5, o6, rfl, hB3, k3, t3⟩ := hP
    obtain ⟨dd, hdd, tx⟩ := (q62.kt t3).get hx
    obtain ⟨pw, hpw, rfl⟩ : ∃ pw, st.W[j]? = some pw ∧ dd = waitD pw := by
      rw [List.getElem?_map] at hdd
      cases z : st.W[j]? with
      | none => rw [z] at hdd; cases hdd
      | some u => rw [z] at hdd; exact ⟨u, rfl, (Option.some.inj hdd).symm⟩
    obtain ⟨wa, rfl, hwa⟩ := wait_at tx
    have hpN := wkN pw (List.mem_of_getElem? hpw)
    obtain ⟨al, at_⟩ := addW_len (st.W.take j) d.css
    obtain ⟨pp, g, hg, hpp, hppv, hHp, hpm⟩ := hB3.get (i := pw.2) (by rw [al, dc]; exact hpN)
    refine ⟨wa, _, rfl, SqT.of hwa, rfl, _, _, rfl, _, _, rfl, rfl, ?_⟩
    refine ⟨.ref c, rfl, .int pw.2, rfl, c, _, pw.2, .ref pp, rfl, rfl, SqL.of hB3.top, atI_nat hppv, .inl ⟨rfl, _, SqL.of hHp⟩, .int pw.1, rfl, pp, natV g, .int pw.1, rfl, rfl, hHp, ?_, ?_⟩
    · have := tot_mem (List.mem_of_getElem? hg)
      have h2 : (st.W.take j).length ≤ st.W.length := by rw [List.length_take]; omega
      rw [natV_len]
      exact Nat.lt_of_lt_of_le (show g.length < 2000 by omega) (by decide)
    rw [← natV_app]
    have hB4 := hB3.put hpp (g ++ [pw.1])
    have eA : addW d.css (st.W.take (j + 1)) = (addW d.css (st.W.take j)).set pw.2 (g ++ [pw.1]) := by
      rw [List.take_add_one, hpw]
      show addW d.css (st.W.take j ++ [pw]) = _
      rw [addW_more]
      unfold addK
      rw [getD_css hg]
    refine ⟨_, _, _, rfl, by rw [eA]; exact hB4, k3.tr (Kp.put hpm hHp fun ps z => by cases z), t3.tr (Kt.put hHp fun ps z => by cases z)⟩
  obtain ⟨o4, o5, o6, rfl, hB3, k3, t3⟩ := hP
  rw [lws, List.take_length] at hB3
  have psE : ∀ x ∈ [e, wp, l, r], x ∉ ps := fun x hx z => dj x (List.mem_cons_of_mem _ z) hx
  have hE3 := hE2.kp k3 t3 psE
  have hp3 := k3.lst (fun z => pB p (List.mem_cons_of_mem _ z) rfl) hp2
  have tr3 := tr2.kt t3
  have k13 : Kp (l :: ps) H1 H3 := k2.tr (k3.wk fun x z => List.mem_cons_of_mem _ z)
  -- self._waiting = []
  refine ⟨Nat.zero_le _, fun w' nw => ?_⟩
  obtain ⟨H4, e4⟩ : ∃ H4, H4 = upd H3 w' (.lst []) := ⟨_, rfl⟩
  rw [← e4]
  have k4 : Kp [] H3 H4 := e4 ▸ Kp.new nw
  have hw4 : H4 w' = some (.lst []) := by rw [e4]; exact upd_same
  have hE4 := hE3.kp k4 k4.kt0 fun _ _ => by simp
  obtain ⟨⟨dx4, v4, q14, q24⟩, _, ⟨ls4, q34, q44⟩, ⟨rs4, q74, q84⟩, _⟩ := id hE4
  refine ⟨.ref e, rfl, e, _, dx4, _, rfl, q14, T.cl_Embers, T.na_Embers__waiting, by show 6 < 1000; decide, ?_⟩
  rw [em_putWaiting]
  obtain ⟨H5, e5⟩ : ∃ H5, H5 = upd H4 e (.ins a.c_Embers dx4 (emF v4 st.b st.n w' l r)) := ⟨_, rfl⟩
  rw [← e5]
  have k5 : Kp [e] H4 H5 := e5 ▸ Kp.put (by simp) q14 fun ps z => by cases z
  have t5 : Kt H4 H5 := e5 ▸ Kt.put q14 fun ps z => by cases z
  have w'n : ∀ x, H3 x ≠ none → x ≠ w' := fun x hx z => hx (z ▸ nw)
  have w'e : w' ≠ e := fun z => by rw [z] at hw4; rw [hw4] at q14; cases q14
  have el : l ∉ [e] := by simpa using (ne_of q14 q34 fun z => by cases z).symm
  have er : r ∉ [e] := by simpa using (ne_of q14 q74 fun z => by cases z).symm
  have hE5 : Emb a.c_Embers H5 e w' l r { st with W := [], L := d.L } := by
    refine ⟨⟨dx4, v4, by rw [e5]; exact upd_same, q24.kt t5⟩, ⟨[], k5.lst (by simpa using w'e) hw4, .nil⟩, ⟨ls4, k5.lst el q34, q44.kt t5⟩, ⟨rs4, k5.lst er q74, q84.kt t5⟩, ⟨?_, ?_, nd.2.2⟩, hE.ok, dl, fun p z => by cases z⟩
    · exact (w'n l (hE3.tr l (by simp))).symm
    · exact (w'n r (hE3.tr r (by simp))).symm
  have hB5 : Bag H5 c ps (addW d.css st.W) := (hB3.kp k4 fun _ _ => by simp).kp k5 fun x hx => by
    have := dj x hx
    simp only [List.mem_cons, List.not_mem_nil, or_false, not_or] at this ⊢
    exact this.1
  have pe : p ∉ [e] := by simpa using (pE e (by simp)).symm
  have hp5 := k5.lst pe (k4.lst (by simp) hp3)
  have tr5 := tr3.kt (k4.kt0.tr t5)
  obtain ⟨al, at_⟩ := addW_len st.W d.css
  obtain ⟨M, hM⟩ : ∃ M : Nat → Ms, M = fun i => meetN st.b (addW d.css st.W) i ⟨d.L, d.rows⟩ := ⟨_, rfl⟩
  have M0 : ∀ i, (M i).L.length = st.N.length ∧ (M i).rows.length ≤ 2000 := fun i => by
    rw [hM]
    obtain ⟨a1, a2⟩ := meetN_len st.b (addW d.css st.W) ⟨d.L, d.rows⟩ i
    refine ⟨a1.trans dl, Nat.le_trans a2 ?_⟩
    have := tot_take (addW d.css st.W) i
    show d.rows.length + _ ≤ _
    omega
  have pne : ∀ x ∈ c :: ps, x ∉ [p, l] := fun x hx z => by
    simp only [List.mem_cons, List.not_mem_nil, or_false] at z
    rcases z with z | z
    · exact pB x hx z
    · exact dj x hx (by simp [z])
  have pw' : p ≠ w' := w'n p (by rw [hp3]; exact fun z => by cases z)
  -- for lamp, flames in enumerate(comers)
  refine ⟨.ref c, rfl, c, _, rfl, SqL.of hB5.top, for_it (walk_enum (K := K) (a := c) (xs := ps.map V.ref)) (fun i σ H' => ∃ (o4 o5 o6 : Option V) (xs : List V), σ = [some (.ref e), some (.ref c), none, some (.ref p), o4, o5, o6] ∧ H' p = some (.lst xs) ∧ TuA H' xs ((M i).rows.map rowD) ∧ Emb a.c_Embers H' e w' l r { st with W := [], L := (M i).L } ∧ Bag H' c ps (addW d.css st.W) ∧ Kp [p, l] H5 H') ⟨o4, o5, o6, xs0, rfl, hp5, by rw [hM]; exact tr5, by rw [hM]; exact hE5, hB5, .rfl'⟩ (fun i σ H' _ hP => ?_) (fun i x σ H6 H7 hi hP hy => ?_) (fun σ H6 hP => ?_)⟩
  · obtain ⟨_, _, _, _, _, _, _, _, hB6, _⟩ := hP
    exact SqL.of hB6.top
  · obtain ⟨o4, o5, o6, xs6, rfl, hp6, tr6, hE6, hB6, k6⟩ := hP
    obtain ⟨T1, x1, y1, rfl, nT, rfl, ex, ey⟩ := hy
    cases ex
    have ey : (ps.map V.ref)[i]? = some y1 := ey
    rw [List.length_map] at hi
    have hiN : i < st.N.length := by
      have := hB6.len
      omega
    obtain ⟨pp, g, hg, hpp, hppv, hHp, hpm⟩ := hB6.get (i := i) (by omega)
    rw [ey] at hppv
    cases hppv
    have kT : Kp [] H6 (upd H6 T1 (.tup [.int (i : Nat), .ref pp])) := Kp.new nT
    obtain ⟨H7, e7⟩ : ∃ H7, H7 = upd H6 T1 (.tup [.int (i : Nat), .ref pp]) := ⟨_, rfl⟩
    have hT7 : H7 T1 = some (.tup [.int (i : Nat), .ref pp]) := by rw [e7]; exact upd_same
    rw [← e7] at kT ⊢
    have hE7 := hE6.kp kT kT.kt0 fun _ _ => by simp
    have hB7 := hB6.kp kT fun _ _ => by simp
    have hp7 := kT.lst (by simp) hp6
    have tr7 := tr6.kt kT.kt0
    obtain ⟨⟨dx7, v7, q17, _⟩, _⟩ := id hE7
    have lg : g.length ≤ 1000 := by
      have := tot_mem (List.mem_of_getElem? hg)
      omega
    refine ⟨T1, _, rfl, SqT.of hT7, rfl, _, _, rfl, _, _, rfl, rfl, ?_⟩
    -- rows.extend(self._meet(lamp, sorted(flames)))
    refine ⟨.ref p, rfl, .inl ⟨rfl, _, SqL.of hp7⟩, .ref e, rfl, e, dx7, _, rfl, q17, em_no (by decide +kernel), .int i, rfl, .ref pp, rfl, pp, _, rfl, by rw [← natV_map]; exact SqL.of (kT.lst (by simp) hHp), fun ns' sp_ hperm hup nsp => ?_⟩
    have hns := srt_of hperm hup
    subst hns
    rw [← natV_map]
    have k8 : Kp [] H7 (upd H7 sp_ (.lst (natV (srt g)))) := Kp.new nsp
    obtain ⟨H8, e8⟩ : ∃ H8, H8 = upd H7 sp_ (.lst (natV (srt g))) := ⟨_, rfl⟩
    rw [← e8] at k8 ⊢
    have hs8 : H8 sp_ = some (.lst (natV (srt g))) := by rw [e8]; exact upd_same
    have hE8 := hE7.kp k8 k8.kt0 fun _ _ => by simp
    have hp8 := k8.lst (by simp) hp7
    have spl : sp_ ∉ [l] := by
      have : l ≠ sp_ := fun z => hE7.tr l (by simp) (z ▸ nsp)
      simpa using this.symm
    refine ⟨e, w', l, r, _, i, sp_, srt g, rfl, hE8, hiN, hs8, by rw [srt_len]; omega, spl, fun p2 xs2 H9 np2 hp9 tr9 hE9 k9 => ?_⟩
    obtain ⟨m, hm⟩ : ∃ m, m = meet st.b i ((M i).L.getD i none) (srt g) := ⟨_, rfl⟩
    have hm' : meet st.b i ((M i).L.getD i none) (srt g) = m := hm.symm
    have eM : M (i + 1) = ⟨(M i).L.set i m.1, (M i).rows ++ m.2⟩ := by
      rw [hm, hM]
      show meetK st.b (addW d.css st.W) i _ = _
      unfold meetK
      rw [getD_css hg]
    have tr9' : TuA H9 xs2 (m.2.map rowD) := by rw [hm]; exact tr9
    have hE9' : Emb a.c_Embers H9 e w' l r { st with W := [], L := (M (i + 1)).L } := by rw [eM, hm]; exact hE9
    have pl : p ∉ [l] := by simpa using (pE l (by simp)).symm
    have hp9' := k9.lst pl hp8
    have t9 : Kt H8 H9 := k9.kt fun s hs xs => by
      obtain rfl : s = l := by simpa using hs
      exact hE8.nt s (by simp) xs
    have lx1 : xs6.length ≤ 2000 := by
      have := tr6.len
      rw [List.length_map] at this
      rw [this]; exact (M0 i).2
    have lx2 : xs2.length ≤ 2000 := by
      have h1 := tr9'.len
      rw [List.length_map] at h1
      have h2 := (M0 (i + 1)).2
      rw [eM] at h2
      have h3 : ((M i).rows ++ m.2).length ≤ 2000 := h2
      rw [List.length_append] at h3
      omega
    refine ⟨p, p2, xs6, xs2, rfl, rfl, hp9', hp9, Nat.le_trans (show xs6.length + xs2.length ≤ 4000 by omega) (by decide), ?_⟩
    obtain ⟨H10, e10⟩ : ∃ H10, H10 = upd H9 p (.lst (xs6 ++ xs2)) := ⟨_, rfl⟩
    rw [← e10]
    have k10 : Kp [p] H9 H10 := e10 ▸ Kp.put (by simp) hp9' fun ps z => by cases z
    have t10 : Kt H9 H10 := e10 ▸ Kt.put hp9' fun ps z => by cases z
    have pEw : ∀ x ∈ [e, w', l, r], x ∉ [p] := fun x hx => by
      simp only [List.mem_cons, List.not_mem_nil, or_false] at hx ⊢
      rcases hx with rfl | rfl | rfl | rfl
      · exact pE _ (by simp)
      · exact pw'.symm
      · exact pE _ (by simp)
      · exact pE _ (by simp)
    have kk : Kp [p, l] H6 H10 := kT.of0.tr (k8.of0.tr ((k9.wk fun x z => by simp only [List.mem_cons, List.not_mem_nil, or_false] at z ⊢; exact .inr z).tr (k10.wk fun x z => by simp only [List.mem_cons, List.not_mem_nil, or_false] at z ⊢; exact .inl z)))
    refine ⟨_, _, _, xs6 ++ xs2, rfl, by rw [e10]; exact upd_same, ?_, hE9'.kp k10 t10 pEw, hB6.kp kk pne, k6.tr kk⟩
    rw [eM, List.map_append]
    exact ((tr7.kt (k8.kt0.tr t9)).app tr9').kt t10
  · obtain ⟨o4, o5, o6, xs6, rfl, hp6, tr6, hE6, hB6, k6⟩ := hP
    have e0 : (ps.map V.ref).length = st.N.length := by
      have := hB6.len
      rw [List.length_map]
      omega
    rw [e0] at tr6 hE6
    have eB : M st.N.length = beatA st.N st.b st.L st.W := by
      rw [hM, hd]
      rfl
    rw [eB] at tr6 hE6
    obtain ⟨⟨dx6, v6, q16, q26⟩, ⟨ws6, q56, q66⟩, ⟨ls6, q36, q46⟩, ⟨rs6, q76, q86⟩, nd6, b1, b2, b3⟩ := id hE6
    -- self._beat += 1
    refine ⟨.ref e, rfl, e, _, dx6, _, _, rfl, q16, T.cl_Embers, T.na_Embers__beat, em_beat, _, _, rfl, rfl, dx6, _, q16, by show 6 < 1000; decide, ?_⟩
    rw [em_putBeat]
    obtain ⟨H7, e7⟩ : ∃ H7, H7 = upd H6 e (.ins a.c_Embers dx6 (emF v6 (st.b + 1) st.n w' l r)) := ⟨_, rfl⟩
    rw [← e7]
    have k7 : Kp [e] H6 H7 := e7 ▸ Kp.put (by simp) q16 fun ps z => by cases z
    have t7 : Kt H6 H7 := e7 ▸ Kt.put q16 fun ps z => by cases z
    have w'e2 : w' ∉ [e] := by simpa using w'e
    have freeH : ∀ {x}, H3 x = none → H x = none := fun {x} n => by
      cases z : H x with
      | none => rfl
      | some o => exact absurd n (k13.tr_ x (k1.tr_ x (by rw [z]; exact fun y => by cases y)))
    refine ⟨.ref p, rfl, q w' p xs6 H7 (freeH nw) npH pw' (k7.lst pe hp6) (tr6.kt t7) ⟨⟨dx6, v6, by rw [e7]; exact upd_same, q26.kt t7⟩, ⟨ws6, k7.lst w'e2 q56, q66.kt t7⟩, ⟨ls6, k7.lst el q36, q46.kt t7⟩, ⟨rs6, k7.lst er q76, q86.kt t7⟩, nd6, b1, b2, b3⟩ ?_⟩
    -- what else was written is new
    have kAll : Kp (p :: c :: ps ++ [e, l]) H H7 := by
      refine k1.of0.tr ((k13.wk fun x z => ?_).tr (k4.of0.tr ((k5.wk fun x z => ?_).tr ((k6.wk fun x z => ?_).tr (k7.wk fun x z => ?_)))))
      · simp only [List.mem_cons, List.mem_append, List.cons_append, List.not_mem_nil, or_false] at z ⊢
        rcases z with z | z
        · exact .inr (.inr (.inr (.inr z)))
        · exact .inr (.inr (.inl z))
      · simp only [List.mem_cons, List.mem_append, List.cons_append, List.not_mem_nil, or_false] at z ⊢
        exact .inr (.inr (.inr (.inl z)))
      · simp only [List.mem_cons, List.mem_append, List.cons_append, List.not_mem_nil, or_false] at z ⊢
        rcases z with z | z
        · exact .inl z
        · exact .inr (.inr (.inr (.inr z)))
      · simp only [List.mem_cons, List.mem_append, List.cons_append, List.not_mem_nil, or_false] at z ⊢
        exact .inr (.inr (.inr (.inl z)))
    refine ⟨fun b o nb h t => kAll.at_ b o (fun z => ?_) h t, kAll.tab, kAll.tr_⟩
    rcases List.mem_append.mp z with z | z
    · rcases List.mem_cons.mp z with z | z
      · rw [z, npH] at h; cases h
      · rw [hn b z] at h; cases h
    · exact nb z
/-! ### go, coming, happened, burning -/
theorem goN_N (s : EmS) : ∀ k, (s.goN k).1.N = s.N ∧ (s.goN k).1.R = s.R ∧ (s.goN k).1.n = s.n ∧ (s.goN k).1.b = s.b + k
  | 0 => ⟨rfl, rfl, rfl, rfl⟩
  | k + 1 => let ⟨a1, a2, a3, a4⟩ := goN_N s k; ⟨a1, a2, a3, by show (s.goN k).1.b + 1 = _; omega⟩
theorem goN_W (s : EmS) : ∀ k, (s.goN k).1.W.length ≤ s.W.length
  | 0 => Nat.le_refl _
  | k + 1 => Nat.zero_le _
theorem goN_L {s : EmS} (h : s.L.length = s.N.length) (h12 : s.N.length ≤ 12) : ∀ k, (s.goN k).1.L.length = s.N.length ∧ (s.goN k).2.length ≤ (12 + s.W.length) * k
  | 0 => ⟨h, Nat.le_refl _⟩
  | k + 1 => by
    obtain ⟨a1, a2⟩ := goN_L h h12 k
    obtain ⟨b1, _⟩ := goN_N s k
    have h1 : (s.goN k).1.L.length = (s.goN k).1.N.length := by rw [b1]; exact a1
    obtain ⟨c1, c2⟩ := beatA_len (b := (s.goN k).1.b) (W := (s.goN k).1.W) h1
    have h2 := goN_W s k
    refine ⟨c1.trans (by rw [b1]), ?_⟩
    show ((s.goN k).2 ++ (s.goN k).1.rows).length ≤ _
    have h3 : (s.goN k).1.rows.length ≤ (s.goN k).1.N.length + (s.goN k).1.W.length := c2
    rw [b1] at h3
    rw [List.length_append, Nat.mul_succ]
    omega
def spIsWhole : Sp := fun vs H Q _ => ∃ x : Int, vs = [.int x] ∧ Q (.bl true) H
theorem ok_is_whole (T : Tx K mg a) : FnOk P w K mg base CX0 1 a.a_is_whole a.f_is_whole ["thing"] spIsWhole := by
  refine fn_ofQ (fun vs H Q E h => ?_) fun vs H Q E h => ?_
  · obtain ⟨x, rfl, _⟩ := h
    rfl
  · obtain ⟨x, rfl, q⟩ := h
    refine ⟨.bl true, q, fun hd OK => ?_⟩
    have OT : Tx (Qc.mk P w K mg H hd).K (Qc.mk P w K mg H hd).mg a := T
    have := qf_is_whole (S := []) OK OT (.int x)
    exact fun A R args us s r => this A R args us s (r.mono (by decide))
def spGo (C : Addr) : Sp := fun vs H Q _ => ∃ (e w l r : Addr) (s : EmS) (n : Nat), vs = [.ref e, .int n] ∧ Emb C H e w l r s ∧ 1 ≤ n ∧ n ≤ 400 ∧ s.W.length ≤ 500 ∧ s.R.length ≤ 10000000 ∧
  ∀ w' p xs H', H w' = none → H p = none → p ≠ w' → H' p = some (.lst xs) → TuA H' xs ((s.goN n).2.map rowD) → Emb C H' e w' l r { (s.goN n).1 with R := s.R ++ (s.goN n).2 } → Kp [e, l, r] H H' → Q (.ref p) H'
theorem ok_go (T : Tx K mg a) : FnOk P w K mg base CX0 3 a.a_Embers_go a.f_Embers_go ["self", "beats"] (spGo a.c_Embers) := by
  have G_Embers__go_on := ok_go_on (P := P) (w := w) (base := base) T
  have G_is_whole := ok_is_whole (P := P) (w := w) (base := base) T
  refine okKw T.F_Embers_go sc_Embers_go (fun vs H Q E h => ?_) (fun cdv A outer s H vs Q E hr h => ?_)
  · obtain ⟨e, w, l, r, s, n, rfl, _⟩ := h
    rfl
  obtain ⟨e, wp, l, r, st, n, rfl, hE, hn1, hn2, hW, hR, q⟩ := h
  refine ⟨_, (pss_cons (ps_if (PW.pt (pw_or (pt_not (pt_val (pe_call G_is_whole (hr.mono (by decide)) (by rfl) T.is_whole.g T.is_whole.F.kp T.is_whole.b .nil pass0 (pa_cons (pv 1) pa_nil)))) (pw_or (pt_cmpR op_lt (pv 1) pe_int (nomark _)) (pw_or1 (pt_cmpR op_gt (pv 1) (pe_glob (v := .int 400) rfl T.c_MOST_BEATS.choose_spec ⟨_, rfl⟩) (nomark _)))))) (pss_one ps_never) pss_nil)
      (pss_cons (ps_set (i := 2) sc_Embers_go.nd rfl (by first | exact .inl rfl | exact .inr rfl) (pe_lst pa_nil))
      (pss_cons (ps_for PassesOwn.never rfl (pi_range1 (by rfl) T.n_range (pa_cons (pv 1) pa_nil)) (pg_name (i := 3) sc_Embers_go.nd rfl (by first | exact .inl rfl | exact .inr rfl)) (pss_one (ps_expr (pe_bm PySem.F.plainAttrs_list PySem.F.slot_list_extend PySem.F.type_list_extend mt_extend (pv 2) (pa_cons (pe_meth0 (pv 0) T.cl_Embers T.m_Embers__go_on G_Embers__go_on (hr.mono (by decide)) T.b_Embers__go_on .nil pass0) pa_nil)))))
      (pss_cons (ps_expr (pe_bm PySem.F.plainAttrs_list PySem.F.slot_list_extend PySem.F.type_list_extend mt_extend (pe_fld (pv 0) rfl) (pa_cons (pv 2) pa_nil)))
      (pss_one (ps_ret (pv 2))))))), ?_⟩
  have h12 := hE.ok.hi
  refine ⟨.int n, rfl, n, rfl, true, rfl, ?_⟩
  refine iteF ⟨.int n, rfl, _, _, rfl, rfl, _, rfl, ?_⟩
  rw [decide_eq_false (show ¬ (n : Int) < 1 by omega)]
  refine iteF ⟨.int n, rfl, _, _, rfl, rfl, _, rfl, ?_⟩
  rw [decide_eq_false (show ¬ (n : Int) > 400 by omega)]
  refine iteF ?_
  -- told = []
  refine ⟨Nat.zero_le _, fun p np => ?_⟩
  obtain ⟨H1, e1⟩ : ∃ H1, H1 = upd H p (.lst []) := ⟨_, rfl⟩
  rw [← e1]
  have k1 : Kp [] H H1 := e1 ▸ Kp.new np
  have hp1 : H1 p = some (.lst []) := by rw [e1]; exact upd_same
  have hE1 := hE.kp k1 k1.kt0 fun _ _ => by simp
  have pE : ∀ x ∈ [e, wp, l, r], x ≠ p := fun x hx z => hE.tr x hx (z ▸ np)
  have lenN := fun i => goN_L hE.ln h12 i
  -- for _ in range(beats)
  refine ⟨.int n, rfl, n, rfl, by omega, by omega, for_range (n := n) (fun i σ H' => ∃ (o3 : Option V) (wi : Addr) (xs : List V), σ = [some (.ref e), some (.int n), some (.ref p), o3] ∧ H' p = some (.lst xs) ∧ TuA H' xs ((st.goN i).2.map rowD) ∧ Emb a.c_Embers H' e wi l r (st.goN i).1 ∧ ((i = 0 ∧ wi = wp) ∨ (H wi = none ∧ wi ≠ p)) ∧ Kp [p, e, l] H1 H') ⟨none, wp, [], rfl, hp1, .nil, hE1, .inl ⟨rfl, rfl⟩, .rfl'⟩ (fun i σ H2 hi hP => ?_) (fun σ H2 hP => ?_)⟩
  · obtain ⟨o3, wi, xs, rfl, hp2, tr2, hE2, hwi, k2⟩ := hP
    obtain ⟨⟨dx, v, q1, _⟩, _⟩ := id hE2
    refine ⟨.ref p, rfl, .inl ⟨rfl, _, SqL.of hp2⟩, .ref e, rfl, e, dx, _, rfl, q1, em_no (by decide +kernel), e, wi, l, r, _, rfl, hE2, Nat.le_trans (goN_W st i) hW, fun w' p2 xs2 H3 nw' np2 hpw hp3 tr3 hE3 k3 => ?_⟩
    have t3 : Kt H2 H3 := k3.kt fun s hs ys => hE2.nt s (by
      simp only [List.mem_cons, List.not_mem_nil, or_false] at hs ⊢
      rcases hs with z | z
      · exact .inl z
      · exact .inr (.inr (.inl z))) ys
    have pel : p ∉ [e, l] := by
      simp only [List.mem_cons, List.not_mem_nil, or_false, not_or]
      exact ⟨(pE e (by simp)).symm, (pE l (by simp)).symm⟩
    have hp3' := k3.lst pel hp2
    have lx := (lenN (i + 1)).2
    have hm : (12 + st.W.length) * (i + 1) ≤ 512 * 400 := Nat.mul_le_mul (by omega) (by omega)
    have ly : xs.length + xs2.length ≤ 512 * 400 := by
      have h1 := tr2.len
      have h2 := tr3.len
      rw [List.length_map] at h1 h2
      have h3 : ((st.goN i).2 ++ (st.goN i).1.rows).length ≤ (12 + st.W.length) * (i + 1) := lx
      rw [List.length_append] at h3
      omega
    refine ⟨p, p2, xs, xs2, rfl, rfl, hp3', hp3, Nat.le_trans ly (by rw [sizeLine_eq]; decide), ?_⟩
    obtain ⟨H4, e4⟩ : ∃ H4, H4 = upd H3 p (.lst (xs ++ xs2)) := ⟨_, rfl⟩
    rw [← e4]
    have k4 : Kp [p] H3 H4 := e4 ▸ Kp.put (by simp) hp3' fun ps z => by cases z
    have t4 : Kt H3 H4 := e4 ▸ Kt.put hp3' fun ps z => by cases z
    have pw' : p ≠ w' := ne_of_none hp2 nw'
    refine ⟨_, w', xs ++ xs2, rfl, by rw [e4]; exact upd_same, ?_, hE3.kp k4 t4 fun x hx => ?_, .inr ⟨?_, pw'.symm⟩, k2.tr ((k3.wk fun x z => List.mem_cons_of_mem _ z).tr (k4.wk fun x z => by rw [List.mem_singleton.mp z]; exact List.mem_cons_self))⟩
    · show TuA H4 _ (((st.goN i).2 ++ (st.goN i).1.rows).map rowD)
      rw [List.map_append]
      exact ((tr2.kt t3).app tr3).kt t4
    · simp only [List.mem_cons, List.not_mem_nil, or_false] at hx ⊢
      rcases hx with rfl | rfl | rfl | rfl
      · exact pE _ (by simp)
      · exact pw'.symm
      · exact pE _ (by simp)
      · exact pE _ (by simp)
    · cases z : H w' with
      | none => rfl
      | some o => exact absurd nw' (k2.tr_ w' (k1.tr_ w' (by rw [z]; exact fun y => by cases y)))
  · obtain ⟨o3, wi, xs, rfl, hp2, tr2, hE2, hwi, k2⟩ := hP
    obtain ⟨hwn, hwp⟩ : H wi = none ∧ wi ≠ p := by
      rcases hwi with ⟨z, _⟩ | z
      · omega
      · exact z
    obtain ⟨⟨dx, v, q1, q2⟩, ⟨ws, q5, q6⟩, ⟨ls, q3, q4⟩, ⟨rs, q7, q8⟩, nd, b1, b2, b3⟩ := id hE2
    obtain ⟨g1, g2, _, _⟩ := goN_N st n
    have lrs : rs.length = st.R.length := by
      have := q8.len
      rw [List.length_map, g2] at this
      exact this
    have lxs : xs.length ≤ 512 * 400 := by
      have h1 := tr2.len
      rw [List.length_map] at h1
      have h2 := (lenN n).2
      have h3 : (12 + st.W.length) * n ≤ 512 * 400 := Nat.mul_le_mul (by omega) (by omega)
      omega
    -- self._rows.extend(told)
    refine ⟨.ref e, rfl, e, _, dx, _, _, rfl, q1, T.cl_Embers, T.na_Embers__rows, em_rows, .inl ⟨rfl, _, SqL.of q7⟩, .ref p, rfl, r, p, rs, xs, rfl, rfl, q7, hp2, Nat.le_trans (show rs.length + xs.length ≤ 10000000 + 512 * 400 by omega) (by rw [sizeLine_eq]; decide), ?_⟩
    obtain ⟨H3, e3⟩ : ∃ H3, H3 = upd H2 r (.lst (rs ++ xs)) := ⟨_, rfl⟩
    rw [← e3]
    have k3 : Kp [r] H2 H3 := e3 ▸ Kp.put (by simp) q7 fun ps z => by cases z
    have t3 : Kt H2 H3 := e3 ▸ Kt.put q7 fun ps z => by cases z
    have er : e ∉ [r] := by simpa using ne_of q1 q7 fun z => by cases z
    have pr : p ∉ [r] := by simpa using (pE r (by simp)).symm
    refine ⟨.ref p, rfl, q wi p xs H3 hwn np hwp.symm (k3.lst pr hp2) (tr2.kt t3) ⟨⟨dx, v, k3.ins er q1, q2.kt t3⟩, ⟨ws, k3.lst (by simpa using nd.2.1) q5, q6.kt t3⟩, ⟨ls, k3.lst (by simpa using nd.2.2) q3, q4.kt t3⟩, ⟨rs ++ xs, by rw [e3]; exact upd_same, ?_⟩, nd, b1, b2, b3⟩ ?_⟩
    · show TuA H3 _ ((st.R ++ (st.goN n).2).map rowD)
      rw [List.map_append]
      rw [g2] at q8
      exact (q8.app tr2).kt t3
    · refine Kp.drop np (k1.of0.tr ((k2.wk fun x z => ?_).tr (k3.wk fun x z => ?_)))
      · simp only [List.mem_cons, List.not_mem_nil, or_false] at z ⊢
        rcases z with z | z | z
        · exact .inl z
        · exact .inr (.inl z)
        · exact .inr (.inr (.inl z))
      · rw [List.mem_singleton.mp z]; simp
theorem go_binds (T : Tx K mg a) : ∃ ds, Vals [V.int 1] ds ∧ Binds K a.f_Embers_go ["self", "beats"] ds :=
  T.F_Embers_go.binds0 1 (by decide) rfl fun D doc pm an cdv ct us ks hl hk => match us, ks, hl, hk with
    | [u], [k], _, _ => ⟨_, _, _, _, _, _, rfl, rfl, rfl⟩
def spComing (C : Addr) : Sp := fun vs H Q _ => ∃ (e w l r : Addr) (s : EmS), vs = [.ref e] ∧ Emb C H e w l r s ∧ Q (.int s.b) H
theorem ok_coming (T : Tx K mg a) : FnOk P w K mg base CX0 1 a.a_Embers_coming a.f_Embers_coming ["self"] (spComing a.c_Embers) := by
  refine T.F_Embers_coming.ok sc_Embers_coming (fun vs H Q E h => ?_) (fun cdv A outer s H vs Q E hr h => ?_)
  · obtain ⟨e, w, l, r, s, rfl, _⟩ := h
    rfl
  obtain ⟨e, wp, l, r, st, rfl, hE, q⟩ := h
  refine ⟨_, (pss_one (ps_ret (pe_fld (pv 0) rfl))), ?_⟩
  obtain ⟨⟨dx, v, q1, _⟩, _⟩ := id hE
  exact ⟨.ref e, rfl, e, _, dx, _, _, rfl, q1, T.cl_Embers, T.na_Embers__beat, em_beat, q⟩
def spHappened (C : Addr) : Sp := fun vs H Q _ => ∃ (e w l r : Addr) (s : EmS), vs = [.ref e] ∧ Emb C H e w l r s ∧ ∀ p xs H', H p = none → H' p = some (.lst xs) → TuA H' xs (s.R.map rowD) → Kp [] H H' → Q (.ref p) H'
theorem ok_happened (T : Tx K mg a) : FnOk P w K mg base CX0 1 a.a_Embers_happened a.f_Embers_happened ["self"] (spHappened a.c_Embers) := by
  refine T.F_Embers_happened.ok sc_Embers_happened (fun vs H Q E h => ?_) (fun cdv A outer s H vs Q E hr h => ?_)
  · obtain ⟨e, w, l, r, s, rfl, _⟩ := h
    rfl
  obtain ⟨e, wp, l, r, st, rfl, hE, q⟩ := h
  refine ⟨_, (pss_one (ps_ret (pe_callTy call_list_of (by rfl) T.n_list (by decide +kernel) (pa_cons (pe_fld (pv 0) rfl) pa_nil)))), ?_⟩
  obtain ⟨⟨dx, v, q1, _⟩, _, _, ⟨rs, q7, q8⟩, _⟩ := id hE
  exact ⟨.ref e, rfl, e, _, dx, _, _, rfl, q1, T.cl_Embers, T.na_Embers__rows, em_rows, r, rs, rfl, .inl (SqL.of q7), fun p np => q p rs _ np upd_same (q8.kt (Kt.new np)) (Kp.new np)⟩
end

/-! ### what is shown alike -/
theorem row_lay (r : Em.Row) : (rowD r).canLay0 = true := by
  have h1 : (PyData.str "ended").canLay0 = true := by decide +kernel
  have h2 : (PyData.str "lit").canLay0 = true := by decide +kernel
  have h3 : (PyData.str "lost").canLay0 = true := by decide +kernel
  cases r with
  | ended b k f => show ((PyData.str "ended").canLay0 && true) = true; rw [h1]; rfl
  | lit b k f => show ((PyData.str "lit").canLay0 && true) = true; rw [h2]; rfl
  | lost b k f g => show ((PyData.str "lost").canLay0 && true) = true; rw [h3]; rfl
theorem row_depth (r : Em.Row) : (rowD r).depth ≤ 1 := by cases r <;> exact Nat.le_refl _
theorem row_wd (r : Em.Row) : wdB (rowD r) = true := by cases r <;> rfl
theorem row_at {H : Hp} {v : V} {r : Em.Row} (h : Tu H v (rowD r)) : ∃ a xs, v = .ref a ∧ H a = some (.tup xs) ∧ xs[1]? = some (.int (r.at_ : Nat)) := by
  have key : ∀ (z : PyData) (rest : List PyData), rowD r = .tuple (z :: .int (r.at_ : Nat) :: rest) → ∃ a xs, v = .ref a ∧ H a = some (.tup xs) ∧ xs[1]? = some (.int (r.at_ : Nat)) := fun z rest e => by
    rw [e] at h
    cases h with
    | @tup a xs ds h t =>
      cases t with
      | cons _ t =>
        cases t with
        | cons t1 _ =>
          cases t1
          exact ⟨a, _, rfl, h, rfl⟩
  cases r with
  | ended b k f => exact key _ _ rfl
  | lit b k f => exact key _ _ rfl
  | lost b k f g => exact key _ _ rfl
theorem rows_lay (R : List Em.Row) : (PyData.list (R.map rowD)).canLay0 = true := all_lay row_lay R
theorem rows_depth (R : List Em.Row) : (PyData.list (R.map rowD)).depth ≤ 2 := by
  show PyData.depthAll (R.map rowD) + 1 ≤ 2
  have := all_depth row_depth R
  omega
theorem rows_wd {R : List Em.Row} (h : R.length < 100000) : wdB (.list (R.map rowD)) = true := wd_list (by rw [List.length_map]; exact h) (wd_map row_wd R)

section
variable {P : Program} {w : World} {K : PySem.W.Frag} {mg : Str → Option Value} {base : Heap} {a : Ad}
def spBurning (C : Addr) : Sp := fun vs H Q _ => ∃ (e w l r : Addr) (s : EmS), vs = [.ref e] ∧ Emb C H e w l r s ∧ ∀ p xs H', H p = none → H' p = some (.lst xs) → TuA H' xs (s.L.map (burnD ((s.b : Int) - 1))) → Kp [] H H' → Q (.ref p) H'
theorem ok_burning (T : Tx K mg a) : FnOk P w K mg base CX0 1 a.a_Embers_burning a.f_Embers_burning ["self"] (spBurning a.c_Embers) := by
  refine T.F_Embers_burning.ok sc_Embers_burning (fun vs H Q E h => ?_) (fun cdv A outer s H vs Q E hr h => ?_)
  · obtain ⟨e, w, l, r, s, rfl, _⟩ := h
    rfl
  obtain ⟨e, wp, l, r, st, rfl, hE, q⟩ := h
  refine ⟨_, (pss_cons (ps_set (i := 1) sc_Embers_burning.nd rfl (by first | exact .inl rfl | exact .inr rfl) (pe_op op_sub (pe_fld (pv 0) rfl) pe_int))
      (pss_cons (ps_set (i := 2) sc_Embers_burning.nd rfl (by first | exact .inl rfl | exact .inr rfl) (pe_lst pa_nil))
      (pss_cons (ps_for PassesOwn.never rfl (pi_list (pe_fld (pv 0) rfl)) (pg_name (i := 3) sc_Embers_burning.nd rfl (by first | exact .inl rfl | exact .inr rfl)) (pss_one (ps_if (pt_cmpR op_isN (pv 3) pe_non (nomark _)) (pss_one (ps_expr (pe_bm PySem.F.plainAttrs_list PySem.F.slot_list_append PySem.F.type_list_append mt_append (pv 2) (pa_cons pe_non pa_nil)))) (pss_cons (ps_asg (pv 3) (pg_tup (by rfl) (pgs_cons (pg_name (i := 4) sc_Embers_burning.nd rfl (by first | exact .inl rfl | exact .inr rfl)) (pgs_cons (pg_name (i := 5) sc_Embers_burning.nd rfl (by first | exact .inl rfl | exact .inr rfl)) pgs_nil))))
      (pss_one (ps_expr (pe_bm PySem.F.plainAttrs_list PySem.F.slot_list_append PySem.F.type_list_append mt_append (pv 2) (pa_cons (pe_tup (pa_cons (pv 4) (pa_cons (pe_op op_sub (pv 1) (pv 5)) pa_nil))) pa_nil))))))))
      (pss_one (ps_ret (pv 2)))))), ?_⟩
  have h12 := hE.ok.hi
  obtain ⟨⟨dx, v, q1, _⟩, _, ⟨ls, q3, q4⟩, _⟩ := id hE
  -- gone_last = self._beat - 1, told = []
  refine ⟨.ref e, rfl, e, _, dx, _, _, rfl, q1, T.cl_Embers, T.na_Embers__beat, em_beat, _, _, rfl, rfl, ?_⟩
  refine ⟨Nat.zero_le _, fun p np => ?_⟩
  obtain ⟨H1, e1⟩ : ∃ H1, H1 = upd H p (.lst []) := ⟨_, rfl⟩
  rw [← e1]
  have k1 : Kp [] H H1 := e1 ▸ Kp.new np
  have hp1 : H1 p = some (.lst []) := by rw [e1]; exact upd_same
  have q11 := k1.ins (by simp) q1
  have q31 := k1.lst (by simp) q3
  have q41 := q4.kt k1.kt0
  have lp : l ∉ [p] := by simpa using ne_of_none q3 np
  have lls : ls.length = st.N.length := by
    have := q4.len
    rw [List.length_map] at this
    rw [this]; exact hE.ln
  -- for light in self._lights
  refine ⟨.ref e, rfl, e, _, dx, _, _, rfl, q11, T.cl_Embers, T.na_Embers__lights, em_lights, l, rfl, ⟨_, SqL.of q31⟩, for_list (xs := ls) (fun j σ H' => ∃ (o3 o4 o5 : Option V) (xs : List V), σ = [some (.ref e), some (.int ((st.b : Int) - 1)), some (.ref p), o3, o4, o5] ∧ H' p = some (.lst xs) ∧ TuA H' xs ((st.L.take j).map (burnD ((st.b : Int) - 1))) ∧ Kp [p] H1 H' ∧ Kt H1 H') ⟨none, none, none, [], rfl, hp1, .nil, .rfl', .rfl'⟩ (fun j σ H' _ hP => ?_) (fun j y σ H2 hy hP => ?_) (fun σ H2 hP => ?_)⟩
  · obtain ⟨_, _, _, _, _, _, _, k, _⟩ := hP
    exact SqL.of (k.lst lp q31)
  · obtain ⟨o3, o4, o5, xs, rfl, hp2, tr2, k2, t2⟩ := hP
    obtain ⟨dd, hdd, ty⟩ := (q41.kt t2).get hy
    obtain ⟨x, hx, rfl⟩ : ∃ x, st.L[j]? = some x ∧ dd = lightD x := by
      rw [List.getElem?_map] at hdd
      cases z : st.L[j]? with
      | none => rw [z] at hdd; cases hdd
      | some u => rw [z] at hdd; exact ⟨u, rfl, (Option.some.inj hdd).symm⟩
    have eT : st.L.take (j + 1) = st.L.take j ++ [x] := by rw [List.take_add_one, hx]; rfl
    have hj := (List.getElem?_eq_some_iff.mp hy).1
    have lx : xs.length < sizeLine := by
      have h1 := tr2.len
      rw [List.length_map, List.length_take] at h1
      exact Nat.lt_of_lt_of_le (show xs.length < 100 by omega) (by decide)
    rcases light_at ty with ⟨rfl, rfl⟩ | ⟨f, t, lt, rfl, rfl, hlt⟩
    · refine ⟨.non, rfl, rfl, _, rfl, iteT ?_⟩
      refine ⟨.ref p, rfl, .inl ⟨rfl, _, SqL.of hp2⟩, p, xs, .non, rfl, rfl, hp2, lx, ?_⟩
      have t3 : Kt H2 (upd H2 p (.lst (xs ++ [.non]))) := Kt.put hp2 fun ps z => by cases z
      refine ⟨_, _, _, xs ++ [.non], rfl, upd_same, ?_, k2.tr (Kp.put (by simp) hp2 fun ps z => by cases z), t2.tr t3⟩
      rw [eT, List.map_append]
      exact (tr2.kt t3).app (.cons .non .nil)
    · refine ⟨.ref lt, rfl, rfl, _, rfl, iteF ?_⟩
      refine ⟨.ref lt, rfl, lt, _, rfl, SqT.of hlt, rfl, _, _, rfl, _, _, rfl, rfl, ?_⟩
      refine ⟨.ref p, rfl, .inl ⟨rfl, _, SqL.of hp2⟩, .int f, rfl, .int ((st.b : Int) - 1), rfl, .int t, rfl, _, _, rfl, rfl, by show 2 ≤ sizeLine; decide, fun tp ntp => ?_⟩
      have k3 : Kp [] H2 (upd H2 tp (.tup [.int (f : Nat), .int ((st.b : Int) - 1 - (t : Nat))])) := Kp.new ntp
      refine ⟨p, xs, .ref tp, rfl, rfl, k3.lst (by simp) hp2, lx, ?_⟩
      obtain ⟨H3, e3⟩ : ∃ H3, H3 = upd H2 tp (.tup [.int (f : Nat), .int ((st.b : Int) - 1 - (t : Nat))]) := ⟨_, rfl⟩
      rw [← e3] at k3 ⊢
      have htp : H3 tp = some (.tup [.int (f : Nat), .int ((st.b : Int) - 1 - (t : Nat))]) := by rw [e3]; exact upd_same
      have hp3 := k3.lst (by simp) hp2
      have t4 : Kt H3 (upd H3 p (.lst (xs ++ [.ref tp]))) := Kt.put hp3 fun ps z => by cases z
      refine ⟨_, _, _, xs ++ [.ref tp], rfl, upd_same, ?_, k2.tr (k3.of0.tr (Kp.put (by simp) hp3 fun ps z => by cases z)), t2.tr (k3.kt0.tr t4)⟩
      rw [eT, List.map_append]
      exact (tr2.kt (k3.kt0.tr t4)).app (.cons (.tup (t4 _ _ htp) (.cons (.int _) (.cons (.int _) .nil))) .nil)
  · obtain ⟨o3, o4, o5, xs, rfl, hp2, tr2, k2, t2⟩ := hP
    have : st.L.take ls.length = st.L := by rw [lls, ← hE.ln, List.take_length]
    rw [this] at tr2
    exact ⟨.ref p, rfl, q p xs H2 np hp2 tr2 (Kp.drop np (k1.of0.tr k2))⟩
end
theorem burn_lay (c : Int) (x : Lt) : (burnD c x).canLay0 = true := by rcases x with _ | ⟨f, t⟩ <;> rfl
theorem burn_depth (c : Int) (x : Lt) : (burnD c x).depth ≤ 1 := by
  rcases x with _ | ⟨f, t⟩
  · exact Nat.zero_le _
  · exact Nat.le_refl _
theorem burn_wd (c : Int) (x : Lt) : wdB (burnD c x) = true := by rcases x with _ | ⟨f, t⟩ <;> rfl
theorem burns_lay (c : Int) (L : List Lt) : (PyData.list (L.map (burnD c))).canLay0 = true := all_lay (burn_lay c) L
theorem burns_depth (c : Int) (L : List Lt) : (PyData.list (L.map (burnD c))).depth ≤ 2 := by
  show PyData.depthAll (L.map (burnD c)) + 1 ≤ 2
  have := all_depth (burn_depth c) L
  omega
theorem burns_wd {c : Int} {L : List Lt} (h : L.length < 100000) : wdB (.list (L.map (burnD c))) = true := wd_list (by rw [List.length_map]; exact h) (wd_map (burn_wd c) L)

section
variable {P : Program} {w : World} {K : PySem.W.Frag} {mg : Str → Option Value} {base : Heap} {a : Ad}
theorem rgC_of {f long lap : Int} (hf : 0 ≤ f) (hfl : f < long) (hlong : long ≤ 1000) (hl : 0 < lap) (hl2 : lap < 1000) : RgC f long lap (cntS f long lap) ∧ cntS f long lap ≤ 2 ^ 24 := by
  have h1 : 0 ≤ (long - f - 1) / lap := Int.ediv_nonneg (by omega) (by omega)
  have h2 : (long - f - 1) / lap ≤ long - f - 1 := Int.ediv_le_self _ (by omega)
  have e1 : (long - f + lap - 1) / lap = (long - f - 1) / lap + 1 := by
    rw [show long - f + lap - 1 = (long - f - 1) + 1 * lap by omega, Int.add_mul_ediv_right _ _ (by omega)]
  have e2 : Builtin.Range.rangeSize f long lap = (long - f - 1) / lap + 1 := by
    unfold Builtin.Range.rangeSize
    rw [if_pos (by omega), if_pos hfl]
  refine ⟨⟨by omega, by omega, ?_, ?_⟩, ?_⟩
  · unfold Builtin.Range.small
    rw [e2]
    simp only [Builtin.Range.rangeFitsLong, Bool.and_eq_true, Bool.or_eq_true, decide_eq_true_eq, beq_iff_eq, show lap > 0 from hl, if_true]
    omega
  · rw [e2]
    unfold cntS
    rw [e1]
    omega
  · unfold cntS
    rw [e1]
    omega
theorem sum_small {N : Net} (o : NetOk N) (hs : ∀ z ∈ N, z.1 ≤ 40) : ∀ g : List Nat, (∀ y ∈ g, y < N.length) → sumB N g ≤ 40 * g.length
  | [], _ => by show (0 : Int) ≤ 40 * ((0 : Nat) : Int); decide
  | y :: r, h => by
    have h1 := sum_small o hs r fun z hz => h z (List.mem_cons_of_mem _ hz)
    have hy := h y List.mem_cons_self
    have h2 : burnOf N y ≤ 40 := by
      rw [burnOf_get (List.getElem?_eq_getElem hy)]
      exact hs _ (List.getElem_mem hy)
    rw [sumB_cons, List.length_cons]
    omega
def dueL (N : Net) (b : Int) (x k : Nat) (long : Int) : List Int := match lookL k (lightsL N b x) with
  | none => []
  | some (f, lp) => if long ≤ f then [] else match lp with
    | none => [f]
    | some lap => (List.range (cntS f long lap)).map fun n => f + (n : Nat) * lap
def spBeats (TB TB2 : Addr) : Sp := fun vs H Q _ => ∃ (v u : V) (N : Net) (b : Int) (x k : Nat), vs = [v, u, .int k, .int 150] ∧ Tu H v (netD N) ∧ NetOk N ∧ (∀ z ∈ N, z.1 ≤ 40) ∧ Tu H u (sparkD b x) ∧ 0 ≤ b ∧ x < N.length ∧ k < N.length ∧ GxR.TabG H TB ∧ GxR.TabG H TB2 ∧
  ∀ p H', H' p = some (.lst ((dueL N b x k 150).map V.int)) → Kp [] H H' → Q (.ref p) H'
theorem ok_law_lit_beats (T : Tx K mg a) (TB : GxR.TabB base mg a.cd_is_net a.tb_is_net) (TB2 : GxR.TabB base mg a.cd_lights_of a.tb_lights_of) : FnOk P w K mg base CX0 13 a.a_law_lit_beats a.f_law_lit_beats ["land", "start", "k", "long"] (spBeats a.tb_is_net a.tb_lights_of) := by
  have G_lights_alone := ok_lights_alone (P := P) (w := w) (base := base) T TB TB2
  refine T.law_lit_beats.F.ok sc_law_lit_beats (fun vs H Q E h => ?_) (fun cdv A outer s H vs Q E hr h => ?_)
  · obtain ⟨v, u, N, b, x, k, rfl, _⟩ := h
    rfl
  obtain ⟨v, u, N, b, x, k, rfl, hd, ok, hs, hu, hb, hx, hk, ht, ht2, q⟩ := h
  refine ⟨_, (pss_cons (ps_set (i := 4) sc_law_lit_beats.nd rfl (by first | exact .inl rfl | exact .inr rfl) (pe_call G_lights_alone (hr.mono (by decide)) (by rfl) T.lights_alone.g T.lights_alone.F.kp T.lights_alone.b .nil pass0 (pa_cons (pv 0) (pa_cons (pv 1) (pa_cons (pv 2) pa_nil)))))
      (pss_cons (ps_if (PW.pt (pw_or (pt_cmpR op_isN (pv 4) pe_non (nomark _)) (pw_or1 (pt_cmpR op_ge (pe_ix ix_tup (pv 4) pe_int (fun _ _ => rfl)) (pv 3) (nomark _))))) (pss_one (ps_ret (pe_lst pa_nil))) pss_nil)
      (pss_one (ps_ret (pe_ifExp (pt_cmpR op_isN (pe_ix ix_tup (pv 4) pe_int (fun _ _ => rfl)) pe_non (nomark _)) (pe_lst (pa_cons (pe_ix ix_tup (pv 4) pe_int (fun _ _ => rfl)) pa_nil)) (pe_listRg3 rfl (by rfl) T.n_list (by rfl) T.n_range (pa_cons (pe_ix ix_tup (pv 4) pe_int (fun _ _ => rfl)) (pa_cons (pv 3) (pa_cons (pe_ix ix_tup (pv 4) pe_int (fun _ _ => rfl)) pa_nil))))))))), ?_⟩
  refine ⟨v, rfl, u, rfl, .int k, rfl, v, u, k, N, b, x, rfl, hd, ok, hu, hb, hx, hk, ht, ht2, fun vl H1 tl k1 => ?_⟩
  cases hl : lookL k (lightsL N b x) with
  | none =>
    have ed : dueL N b x k 150 = [] := by unfold dueL; rw [hl]
    rw [ed] at q
    rw [hl] at tl
    cases tl
    refine ⟨.non, rfl, rfl, _, rfl, iteT (iteT ?_)⟩
    exact ⟨Nat.zero_le _, fun p np => q p _ upd_same (k1.tr (Kp.new np))⟩
  | some fl =>
    obtain ⟨f, lp⟩ := fl
    rw [hl] at tl
    obtain ⟨ta, rfl, hta⟩ := lgt_at tl
    obtain ⟨j, hj, ef, elp⟩ := look_at ok hx hl
    have hjl := (List.getElem?_eq_some_iff.mp hj).1
    have hf0 : 0 ≤ f := by
      have := frst_ge ok hx b j
      omega
    refine ⟨.ref ta, rfl, rfl, _, rfl, iteF ⟨.ref ta, rfl, ta, _, 0, .int f, rfl, rfl, SqT.of hta, atI_nat (j := 0) rfl, .int 150, rfl, _, _, rfl, rfl, _, rfl, ?_⟩⟩
    by_cases h150 : (150 : Int) ≤ f
    · have ed : dueL N b x k 150 = [] := by unfold dueL; rw [hl]; show (if (150 : Int) ≤ f then _ else _) = _; rw [if_pos h150]
      rw [ed] at q
      rw [decide_eq_true h150]
      refine iteT ?_
      exact ⟨Nat.zero_le _, fun p np => q p _ upd_same (k1.tr (Kp.new np))⟩
    rw [decide_eq_false h150]
    refine iteF ?_
    cases lp with
    | none =>
      have ed : dueL N b x k 150 = [f] := by unfold dueL; rw [hl]; show (if (150 : Int) ≤ f then _ else _) = _; rw [if_neg h150]
      rw [ed] at q
      refine ⟨.ref ta, rfl, ta, _, 1, .non, rfl, rfl, SqT.of hta, atI_nat (j := 1) rfl, rfl, _, rfl, iteT ?_⟩
      exact ⟨.ref ta, rfl, ta, _, 0, .int f, rfl, rfl, SqT.of hta, atI_nat (j := 0) rfl, by show 1 ≤ sizeLine; decide, fun p np => q p _ upd_same (k1.tr (Kp.new np))⟩
    | some lap =>
      have ed : dueL N b x k 150 = (List.range (cntS f 150 lap)).map fun n => f + (n : Nat) * lap := by unfold dueL; rw [hl]; show (if (150 : Int) ≤ f then _ else _) = _; rw [if_neg h150]
      rw [ed] at q
      have hnc : ¬ j < cutN N x := fun z => by rw [if_pos z] at elp; cases elp
      rw [if_neg hnc] at elp
      have elap := Option.some.inj elp
      have hlp : 0 < lap := by rw [elap]; exact lap_pos ok hx b hjl hnc
      have hlp2 : lap < 1000 := by
        have h1 := sum_small ok hs (wayR N x) (way_sub ok hx)
        have h2 : (wayR N x).length ≤ 12 := by
          have e := way_cat N x
          have l1 := (path_been ok hx).le
          have l2 := ok.hi
          rw [← e, List.length_append] at l1
          omega
        have h3 : lapOf N x ≤ 40 * (wayR N x).length := h1
        omega
      obtain ⟨c1, c2⟩ := rgC_of hf0 (show f < 150 by omega) (by decide) hlp hlp2
      refine ⟨.ref ta, rfl, ta, _, 1, .int lap, rfl, rfl, SqT.of hta, atI_nat (j := 1) rfl, rfl, _, rfl, iteF ?_⟩
      refine ⟨.ref ta, rfl, ta, _, 0, .int f, rfl, rfl, SqT.of hta, atI_nat (j := 0) rfl, .int 150, rfl, .ref ta, rfl, ta, _, 1, .int lap, rfl, rfl, SqT.of hta, atI_nat (j := 1) rfl, f, 150, lap, _, rfl, c1, c2, fun p np => q p _ ?_ (k1.tr (Kp.new np))⟩
      have es : stepV f lap (cntS f 150 lap) = ((List.range (cntS f 150 lap)).map fun n => f + (n : Nat) * lap).map V.int := by
        unfold stepV
        rw [List.map_map]; rfl
      rw [es]
      exact upd_same
theorem place_mem {N : Net} {t : Int} : ∀ {L : List Lgt} {z : Nat} {g : Int}, placeL N t L = some (z, g) → ∃ e ∈ L, e.1 = z
  | [], _, _, h => by cases h
  | y :: r, z, g, h => by
    unfold placeL at h
    by_cases hh : hit N t y = true
    · rw [if_pos hh] at h
      cases h
      exact ⟨y, List.mem_cons_self, rfl⟩
    · rw [if_neg hh] at h
      obtain ⟨e, he, q⟩ := place_mem h
      exact ⟨e, List.mem_cons_of_mem _ he, q⟩
def spStand (TB TB2 : Addr) : Sp := fun vs H Q _ => ∃ (v u : V) (t : Int) (N : Net) (b : Int) (x : Nat), vs = [v, u, .int t] ∧ Tu H v (netD N) ∧ NetOk N ∧ Tu H u (sparkD b x) ∧ 0 ≤ b ∧ x < N.length ∧ 0 ≤ t ∧ GxR.TabG H TB ∧ GxR.TabG H TB2 ∧
  ∀ p ws H', H' p = some (.lst ws) → TuA H' ws (standD N.length (placeL N t (lightsL N b x))) → Kp [] H H' → Q (.ref p) H'
theorem ok_law_stand (T : Tx K mg a) (TB : GxR.TabB base mg a.cd_is_net a.tb_is_net) (TB2 : GxR.TabB base mg a.cd_lights_of a.tb_lights_of) : FnOk P w K mg base CX0 13 a.a_law_stand a.f_law_stand ["land", "start", "at"] (spStand a.tb_is_net a.tb_lights_of) := by
  have G_place_alone := ok_place_alone (P := P) (w := w) (base := base) T TB TB2
  refine T.law_stand.F.ok sc_law_stand (fun vs H Q E h => ?_) (fun cdv A outer s H vs Q E hr h => ?_)
  · obtain ⟨v, u, t, N, b, x, rfl, _⟩ := h
    rfl
  obtain ⟨v, u, t, N, b, x, rfl, hd, ok, hu, hb, hx, h0, ht, ht2, q⟩ := h
  refine ⟨_, (pss_cons (ps_set (i := 3) sc_law_stand.nd rfl (by first | exact .inl rfl | exact .inr rfl) (pe_op op_rep (pe_lst (pa_cons pe_non pa_nil)) (pe_callB call_len_seq (by rfl) T.n_len (by decide +kernel) (pa_cons (pv 0) pa_nil))))
      (pss_cons (ps_set (i := 4) sc_law_stand.nd rfl (by first | exact .inl rfl | exact .inr rfl) (pe_call G_place_alone (hr.mono (by decide)) (by rfl) T.place_alone.g T.place_alone.F.kp T.place_alone.b .nil pass0 (pa_cons (pv 0) (pa_cons (pv 1) (pa_cons (pv 2) pa_nil)))))
      (pss_cons (ps_if (pt_cmpR op_notN (pv 4) pe_non (nomark _)) (pss_one (ps_asg (pe_tup (pa_cons pe_int (pa_cons (pe_ix ix_tup (pv 4) pe_int (fun _ _ => rfl)) pa_nil))) (pg_sub (pv 3) (pe_ix ix_tup (pv 4) pe_int (fun _ _ => rfl)) set_list))) pss_nil)
      (pss_one (ps_ret (pv 3)))))), ?_⟩
  have h12 := ok.hi
  obtain ⟨ad, xn, rfl, hxn, hln, _⟩ := tnet_at hd
  -- found = [None] * len(land)
  refine ⟨by show 1 ≤ sizeLine; decide, fun l0 nl0 => ?_⟩
  have k0 : Kp [] H (upd H l0 (.lst [.non])) := Kp.new nl0
  refine ⟨.ref ad, rfl, ad, xn, rfl, .inr (SqT.of (k0.kt0 _ _ hxn)), l0, _, _, rfl, rfl, upd_same, by omega, by omega, ?_, fun q0 nq0 => ?_⟩
  · rw [hln]
    exact Nat.le_trans (show [V.non].length * ((N.length : Int)).toNat ≤ 12 by show 1 * _ ≤ 12; omega) (by decide)
  have erep : (List.replicate ((xn.length : Int)).toNat [V.non]).flatten = List.replicate N.length .non := by
    rw [hln, Int.toNat_natCast]
    generalize N.length = m
    induction m with
    | zero => rfl
    | succ m ih => rw [List.replicate_succ, List.flatten_cons, ih]; rfl
  rw [erep]
  obtain ⟨H1, e1⟩ : ∃ H1, H1 = upd (upd H l0 (.lst [.non])) q0 (.lst (List.replicate N.length .non)) := ⟨_, rfl⟩
  rw [← e1]
  have k1 : Kp [] H H1 := e1 ▸ k0.tr (Kp.new nq0)
  have nq : H q0 = none := by
    cases z : H q0 with
    | none => rfl
    | some u => exact absurd nq0 (k0.tr_ q0 (by rw [z]; exact fun y => by cases y))
  have hq1 : H1 q0 = some (.lst (List.replicate N.length .non)) := by rw [e1]; exact upd_same
  -- place = place_alone(..)
  refine ⟨.ref ad, rfl, u, rfl, .int t, rfl, .ref ad, u, t, N, b, x, rfl, hd.kt k1.kt0, ok, hu.kt k1.kt0, hb, hx, h0, k1.tab _ ht, k1.tab _ ht2, fun vp H2 tp k2 => ?_⟩
  have hq2 := k2.lst (by simp) hq1
  cases hp : placeL N t (lightsL N b x) with
  | none =>
    rw [hp] at tp q
    cases tp
    refine ⟨.non, rfl, rfl, _, rfl, iteF ?_⟩
    exact ⟨.ref q0, rfl, q q0 _ H2 hq2 (TuA.rep .non _) (k1.tr k2)⟩
  | some zg =>
    obtain ⟨z, g⟩ := zg
    rw [hp] at tp q
    obtain ⟨pq, rfl, hpq⟩ := pair_at tp
    have hzl : z < N.length := by
      obtain ⟨e, he, rfl⟩ := place_mem hp
      exact (lights_ok ok hx b e he).1
    refine ⟨.ref pq, rfl, rfl, _, rfl, iteT ?_⟩
    refine ⟨.ref pq, rfl, pq, _, 1, .int g, rfl, rfl, SqT.of hpq, atI_nat (j := 1) rfl, by show 2 ≤ sizeLine; decide, fun tq ntq => ?_⟩
    have kT : Kp [] H2 (upd H2 tq (.tup [.int 0, .int g])) := Kp.new ntq
    have hq3 := kT.lst (by simp) hq2
    refine ⟨.ref q0, rfl, .ref pq, rfl, pq, _, 0, .int (z : Nat), rfl, rfl, SqT.of (kT.kt0 _ _ hpq), atI_nat (j := 0) rfl, q0, _, _, z, rfl, rfl, hq3, Evl.ixN_nat (by rw [List.length_replicate]; exact hzl), ?_⟩
    refine ⟨.ref q0, rfl, q q0 _ _ upd_same ?_ ?_⟩
    · have tk : Kt (upd H2 tq (.tup [.int 0, .int g])) (upd (upd H2 tq (.tup [.int 0, .int g])) q0 (.lst ((List.replicate N.length V.non).set z (.ref tq)))) := Kt.put hq3 fun _ z => by cases z
      exact TuA.set (.tup (tk _ _ upd_same) (.cons (.int _) (.cons (.int _) .nil))) z (TuA.rep .non _)
    · exact Kp.drop nq (k1.of0.tr (k2.of0.tr (kT.of0.tr (Kp.put (by simp) hq3 fun _ z => by cases z))))
end

section
variable {P : Program} {w : World} {K : PySem.W.Frag} {mg : Str → Option Value} {base : Heap} {a : Ad}
theorem stand_lay : ∀ ds : List PyData, (∀ d ∈ ds, d.canLay0 = true ∧ d.depth ≤ 1) → PyData.canLayAll0 ds = true ∧ PyData.depthAll ds ≤ 1
  | [], _ => ⟨rfl, by show 0 ≤ 1; decide⟩
  | d :: r, h => by
    obtain ⟨h1, h2⟩ := stand_lay r fun z hz => h z (List.mem_cons_of_mem _ hz)
    obtain ⟨h3, h4⟩ := h d List.mem_cons_self
    refine ⟨by simp [PyData.canLayAll0, h1, h3], ?_⟩
    show max d.depth (PyData.depthAll r) ≤ 1
    omega
theorem stand_ok (n : Nat) (o : Option (Nat × Int)) : (PyData.list (standD n o)).canLay0 = true ∧ SeqAt.shaped (.list (standD n o)) = true := by
  have key : ∀ d ∈ standD n o, d.canLay0 = true ∧ d.depth ≤ 1 := fun d hd => by
    cases o with
    | none =>
      rw [(List.mem_replicate.mp hd).2]
      exact ⟨rfl, by decide⟩
    | some zg =>
      rcases List.mem_or_eq_of_mem_set hd with h | h
      · rw [(List.mem_replicate.mp h).2]
        exact ⟨rfl, by decide⟩
      · rw [h]
        exact ⟨rfl, by show 1 ≤ 1; decide⟩
  obtain ⟨D, eD⟩ : ∃ D, D = standD n o := ⟨_, rfl⟩
  rw [← eD] at key ⊢
  obtain ⟨h1, h2⟩ := stand_lay D key
  have h3 : (PyData.list D).canLay0 = true := h1
  have h4 : (PyData.list D).depth ≤ 2 := by
    show PyData.depthAll D + 1 ≤ 2
    omega
  refine ⟨h3, ?_⟩
  unfold SeqAt.shaped
  rw [h3, decide_eq_true (Nat.le_trans h4 (by decide))]
  rfl
def wordR : Em.Row → Str
  | .ended _ _ _ => "ended"
  | .lit _ _ _ => "lit"
  | .lost _ _ _ _ => "lost"
def lampR : Em.Row → Nat
  | .ended _ k _ | .lit _ k _ | .lost _ k _ _ => k
theorem solo_row {rows : List Em.Row} (h : SoloRows rows) {r : Em.Row} (hr : r ∈ rows) : (∃ b k, r = .lit b k 0) ∨ ∃ b k, r = .ended b k 0 := by
  match rows, h with
  | [.lit b k 0], _ => exact .inl ⟨b, k, List.mem_singleton.mp hr⟩
  | [.ended b k 0], _ => exact .inr ⟨b, k, List.mem_singleton.mp hr⟩
theorem row0_at {H : Hp} {v : V} {r : Em.Row} (h : Tu H v (rowD r)) (hr : (∃ b k, r = .lit b k 0) ∨ ∃ b k, r = .ended b k 0) : ∃ q : Addr, v = .ref q ∧ H q = some (.tup [.str (wordR r), .int (r.at_ : Nat), .int (lampR r : Nat), .int 0]) := by
  rcases hr with ⟨b, k, rfl⟩ | ⟨b, k, rfl⟩
  all_goals
    cases h with
    | @tup q xs ds h t =>
      cases t with
      | cons t1 t =>
        cases t1
        cases t with
        | cons t2 t =>
          cases t2
          cases t with
          | cons t3 t =>
            cases t3
            cases t with
            | cons t4 t =>
              cases t4
              cases t
              exact ⟨q, rfl, h⟩
theorem no_str {s t : Str} (h : s ≠ t) : decide (V.str s = V.str t) = false := decide_eq_false fun e => h (V.str.inj e)
theorem yes_str (s : Str) : decide (V.str s = V.str s) = true := decide_eq_true rfl
theorem word_end (r : Em.Row) : decide (V.str (wordR r) = V.str ("ended" : Str)) = endedB r := by
  cases r
  · exact yes_str _
  · exact no_str (show ("lit" : Str) ≠ "ended" by decide +kernel)
  · exact no_str (show ("lost" : Str) ≠ "ended" by decide +kernel)
def litB (k : Nat) : Em.Row → Option Int
  | .lit b k' _ => if k' = k then some (b : Int) else none
  | _ => none
theorem lit_list (g : List (Nat × Nat)) (k : Nat) : (g.map litR).filterMap (litB k) = litOf (castG g) k := by
  induction g with
  | nil => rfl
  | cons r s ih =>
    have e1 : castG (r :: s) = ((r.1 : Int), r.2) :: castG s := rfl
    have e2 : litB k (litR r) = if r.2 = k then some (r.1 : Int) else none := rfl
    have e3 : litOf (((r.1 : Int), r.2) :: castG s) k = if r.2 = k then (r.1 : Int) :: litOf (castG s) k else litOf (castG s) k := by
      unfold litOf
      by_cases e : r.2 = k
      · rw [if_pos e, List.filter_cons_of_pos (by simpa using e)]; rfl
      · rw [if_neg e, List.filter_cons_of_neg (by simpa using e)]
    rw [e1, e3, List.map_cons, List.filterMap_cons, e2, ih]
    by_cases e : r.2 = k
    · rw [if_pos e, if_pos e]
    · rw [if_neg e, if_neg e]
def spRight (TB TB2 : Addr) : Sp := fun vs H Q _ => ∃ (p : Addr), vs = [.ref p] ∧ Jar H p 0 ∧ GxR.TabG H TB ∧ GxR.TabG H TB2 ∧ ∀ H', Kp [p] H H' → Q (.bl true) H'
theorem ok_law_right (T : Tx K mg a) (TB : GxR.TabB base mg a.cd_is_net a.tb_is_net) (TB2 : GxR.TabB base mg a.cd_lights_of a.tb_lights_of) : FnOk P w K mg base CX0 14 a.a_law_right a.f_law_right ["jar"] (spRight a.tb_is_net a.tb_lights_of) := by
  have G_law_net := ok_law_net (P := P) (w := w) (base := base) T
  have G_law_pull := ok_law_pull (P := P) (w := w) (base := base) T
  have G_law_stand := ok_law_stand (P := P) (w := w) (base := base) T TB TB2
  have G_law_lit_beats := ok_law_lit_beats (P := P) (w := w) (base := base) T TB TB2
  have G_place_alone := ok_place_alone (P := P) (w := w) (base := base) T TB TB2
  have G_Embers___init__ := ok_init (P := P) (w := w) (base := base) T TB
  have G_Embers_kindle := ok_kindle (P := P) (w := w) (base := base) T
  have G_Embers_go := ok_go (P := P) (w := w) (base := base) T
  have G_Embers_burning := ok_burning (P := P) (w := w) (base := base) T
  have G_Embers_happened := ok_happened (P := P) (w := w) (base := base) T
  obtain ⟨ds, vd_Embers_go, bd_Embers_go⟩ := go_binds T
  refine T.law_right.F.ok sc_law_right (fun vs H Q E h => ?_) (fun cdv A outer s0 H vs Q E hr h => ?_)
  · obtain ⟨p, rfl, _⟩ := h
    rfl
  obtain ⟨p, rfl, hj, ht, ht2, q⟩ := h
  refine ⟨_, (pss_cons (ps_set (i := 1) sc_law_right.nd rfl (by first | exact .inl rfl | exact .inr rfl) (pe_call G_law_net (hr.mono (by decide)) (by rfl) T.law_net.g T.law_net.F.kp T.law_net.b .nil pass0 (pa_cons (pv 0) (pa_cons pe_int pa_nil))))
      (pss_cons (ps_set (i := 2) sc_law_right.nd rfl (by first | exact .inl rfl | exact .inr rfl) (pe_tup (pa_cons (pe_call G_law_pull (hr.mono (by decide)) (by rfl) T.law_pull.g T.law_pull.F.kp T.law_pull.b .nil pass0 (pa_cons (pv 0) (pa_cons pe_int pa_nil))) (pa_cons (pe_call G_law_pull (hr.mono (by decide)) (by rfl) T.law_pull.g T.law_pull.F.kp T.law_pull.b .nil pass0 (pa_cons (pv 0) (pa_cons (pe_callB call_len_seq (by rfl) T.n_len (by decide +kernel) (pa_cons (pv 1) pa_nil)) pa_nil))) pa_nil))))
      (pss_cons (ps_set (i := 3) sc_law_right.nd rfl (by first | exact .inl rfl | exact .inr rfl) (pe_make T.mk_Embers G_Embers___init__ (hr.mono (by decide)) (by rfl) T.g_Embers T.b_Embers___init__ .nil pass0 (pa_cons (pv 1) pa_nil)))
      (pss_cons (ps_set (i := 4) sc_law_right.nd rfl (by first | exact .inl rfl | exact .inr rfl) pe_bl)
      (pss_cons (ps_for PassesOwn.never rfl (pi_range1 (by rfl) T.n_range (pa_cons pe_int pa_nil)) (pg_name (i := 5) sc_law_right.nd rfl (by first | exact .inl rfl | exact .inr rfl)) (C8.pss_cut (ps_if (pt_cmpR op_eq (pv 5) (pe_ix ix_tup (pv 2) pe_int (fun _ _ => rfl)) (nomark _)) (pss_one (ps_expr (pe_meth (pv 3) T.cl_Embers T.m_Embers_kindle G_Embers_kindle (hr.mono (by decide)) T.b_Embers_kindle .nil pass0 (pa_cons (pe_ix ix_tup (pv 2) pe_int (fun _ _ => rfl)) pa_nil)))) pss_nil)
      (pss_cons (ps_for PassesOwn.never rfl (pi_list (pe_meth0 (pv 3) T.cl_Embers T.m_Embers_go G_Embers_go (hr.mono (by decide)) bd_Embers_go vd_Embers_go pass0)) (pg_name (i := 6) sc_law_right.nd rfl (by first | exact .inl rfl | exact .inr rfl)) (pss_cons (ps_set (i := 4) sc_law_right.nd rfl (by first | exact .inl rfl | exact .inr rfl) (pe_or (pv 4) (pe_one (pe_cmpR op_eq (pe_ix ix_tup (pv 6) pe_int (fun _ _ => rfl)) pe_str (nomark _)))))
      (pss_one (ps_if (PW.pt (pw_or (pt_cmpR op_eq (pe_ix ix_tup (pv 6) pe_int (fun _ _ => rfl)) pe_str (nomark _)) (pw_or1 (pt_cmpR op_ne (pe_ix ix_tup (pv 6) pe_int (fun _ _ => rfl)) pe_int (nomark _))))) (pss_one (ps_ret pe_bl)) pss_nil))))
      (pss_cons (ps_if (pt_cmpR (op_neD hr.units) (pe_meth0 (pv 3) T.cl_Embers T.m_Embers_burning G_Embers_burning (hr.mono (by decide)) T.b_Embers_burning .nil pass0) (pe_call G_law_stand (hr.mono (by decide)) (by rfl) T.law_stand.g T.law_stand.F.kp T.law_stand.b .nil pass0 (pa_cons (pv 1) (pa_cons (pv 2) (pa_cons (pv 5) pa_nil)))) (nomark _)) (pss_one (ps_ret pe_bl)) pss_nil)
      (pss_one (ps_if (PW.pt (pw_and (pt_val (pv 4)) (pw_and1 (pt_cmpR op_notN (pe_call G_place_alone (hr.mono (by decide)) (by rfl) T.place_alone.g T.place_alone.F.kp T.place_alone.b .nil pass0 (pa_cons (pv 1) (pa_cons (pv 2) (pa_cons (pv 5) pa_nil)))) pe_non (nomark _))))) (pss_one (ps_ret pe_bl)) pss_nil))))))
      (pss_cons (ps_for PassesOwn.never rfl (pi_range1 (by rfl) T.n_range (pa_cons (pe_callB call_len_seq (by rfl) T.n_len (by decide +kernel) (pa_cons (pv 1) pa_nil)) pa_nil)) (pg_name (i := 7) sc_law_right.nd rfl (by first | exact .inl rfl | exact .inr rfl)) (pss_cons (ps_setLc (i := 8) (own := [("row", 6)]) (g := gName 6) (by rfl) sc_law_right.nd rfl rfl (sw_true rfl rfl rfl (by decide +kernel)) (pi_list (pe_meth0 (pv 3) T.cl_Embers T.m_Embers_happened G_Embers_happened (hr.mono (by decide)) T.b_Embers_happened .nil pass0)) (blkOk_by (own := [("row", 6)]) (N := s_law_right_N) (sc := defScope s_law_right) (by decide +kernel)) (fun _ _ _ _ _ => (pg_name (i := 6) sc_law_right.nd rfl (by first | exact .inl rfl | exact .inr rfl))) (fun _ _ _ _ _ => (pts_one (PW.pt (pw_and (pt_cmpR op_eq (pe_ix (ix_tupK (K := K) rfl) (pv 6) pe_int (fun _ _ => rfl)) pe_str (nomark _)) (pw_and1 (pt_cmpR op_eq (pe_ix (ix_tupK (K := K) rfl) (pv 6) pe_int (fun _ _ => rfl)) (pv 7) (nomark _))))))) (fun _ _ _ _ _ => (pe_ix (ix_tupK (K := K) rfl) (pv 6) pe_int (fun _ _ => rfl))))
      (pss_one (ps_if (pt_cmpR (op_neD hr.units) (pv 8) (pe_call G_law_lit_beats (hr.mono (by decide)) (by rfl) T.law_lit_beats.g T.law_lit_beats.F.kp T.law_lit_beats.b .nil pass0 (pa_cons (pv 1) (pa_cons (pv 2) (pa_cons (pv 7) (pa_cons pe_int pa_nil))))) (nomark _)) (pss_one (ps_ret pe_bl)) pss_nil))))
      (pss_one (ps_ret pe_bl)))))))), ?_⟩
  -- land = _law_net(jar, 40)
  refine ⟨.ref p, rfl, p, 40, 0, rfl, hj, by decide, by decide, by decide, fun vn H1 N ok sN hsz nw k1 j1 => ?_⟩
  have hd1 : Tu H1 vn (netD N) := nw.tu (flat_net N)
  have h12 := ok.hi
  have h01 := ok.lo
  obtain ⟨ad, xs, rfl, hx1, hln, _⟩ := tnet_at hd1
  -- start = (.., ..)
  refine ⟨.ref p, rfl, p, 21, _, rfl, by decide, by decide, j1, by decide, fun r2 H2 a2 b2 k2 j2 => ?_⟩
  have t12 : Kt H1 H2 := k2.kt j1.nt
  refine ⟨.ref p, rfl, .ref ad, rfl, ad, xs, rfl, .inr (SqT.of (t12 _ _ hx1)), p, _, _, rfl, by omega, by omega, j2, by decide, fun r3 H3a a3 b3 k3 j3 => ⟨by show 2 ≤ sizeLine; decide, fun kp nkp => ?_⟩⟩
  obtain ⟨x, rfl⟩ := Int.eq_ofNat_of_zero_le a3
  obtain ⟨b, rfl⟩ := Int.eq_ofNat_of_zero_le a2
  have hx : x < N.length := by omega
  obtain ⟨H3, e3⟩ : ∃ H3, H3 = upd H3a kp (.tup [.int (b : Nat), .int (x : Nat)]) := ⟨_, rfl⟩
  rw [← e3]
  have k3p : Kp [] H3a H3 := e3 ▸ Kp.new nkp
  have k13 : Kp [p] H1 H3 := k2.tr (k3.tr k3p.of0)
  have hd3 : Tu H3 (.ref ad) (netD N) := hd1.kt (k13.kt j1.nt)
  have hu3 : Tu H3 (.ref kp) (sparkD b x) := by rw [e3]; exact .tup upd_same (.cons (.int _) (.cons (.int _) .nil))
  have hkp3 : H3 kp = some (.tup [.int (b : Nat), .int (x : Nat)]) := by rw [e3]; exact upd_same
  have ht3 := k13.tab _ (k1.tab _ ht)
  have ht23 := k13.tab _ (k1.tab _ ht2)
  have k03 : Kp [p] H H3 := k1.tr k13
  -- ember = Embers(land)
  refine ⟨.ref ad, rfl, fun e dx ne ndx nex => ?_⟩
  obtain ⟨H4, e4⟩ : ∃ H4, H4 = upd (upd H3 dx (.own e)) e (.ins a.c_Embers dx []) := ⟨_, rfl⟩
  have ne2 : upd H3 dx (.own e) e = none := by rw [upd_ne nex.symm]; exact ne
  have k4 : Kp [] H3 H4 := by rw [e4]; exact (Kp.new ndx).tr (Kp.new ne2)
  rw [← e4]
  have he4 : H4 e = some (.ins a.c_Embers dx []) := by rw [e4]; exact upd_same
  refine ⟨e, dx, .ref ad, N, rfl, he4, hd3.kt k4.kt0, ok, k4.tab _ ht3, fun w0 l r H5 nw0 nl nr hE5 k5 => ⟨rfl, ?_⟩⟩
  have free40 : ∀ {x}, H4 x = none → H3 x = none := fun {x} n => by
    cases z : H3 x with
    | none => rfl
    | some o => exact absurd n (k4.tr_ x (by rw [z]; exact fun y => by cases y))
  have k35 : Kp [] H3 H5 := Kp.drop ne (k4.of0.tr k5)
  have dropE : ∀ {wq : Addr} {Hx}, H3 wq = none → Kp [e, wq, l, r] H3 Hx → Kp [] H3 Hx := fun {wq Hx} nwq k => Kp.drop (free40 nr) (Kp.drop (S := [r]) (free40 nl) (Kp.drop (S := [l, r]) nwq (Kp.drop (S := [wq, l, r]) ne k)))
  have dropG : ∀ {Hx}, Kp [e, l, r] H3 Hx → Kp [] H3 Hx := fun {Hx} k => Kp.drop (free40 nr) (Kp.drop (S := [r]) (free40 nl) (Kp.drop (S := [l, r]) ne k))
  -- ended = False; for at in range(150)
  refine ⟨150, rfl, by decide, by decide, for_range (n := 150) (fun i σ H' => ∃ (o5 o6 : Option V) (ended : Bool) (wq : Addr) (L : List Lt) (R : List Em.Row), σ = [some (.ref p), some (.ref ad), some (.ref kp), some (.ref e), some (.bl ended), o5, o6, none, none] ∧
      Emb a.c_Embers H' e wq l r ⟨N, i, (if b < i then 1 else 0), [], L, R⟩ ∧ SoloAt N b x i L R ended ∧ R.length ≤ i ∧ H3 wq = none ∧ Kp [] H3 H') ⟨none, none, false, w0, _, _, rfl, hE5, .inl ⟨Nat.zero_le _, rfl, rfl, rfl⟩, Nat.le_refl _, free40 nw0, k35⟩ (fun i σ H6 hi hP => ?_) (fun σ H6 hP => ?_)⟩
  · obtain ⟨o5, o6, ended, wq, L, R, rfl, hE6, hS, hRl, nwq, k6⟩ := hP
    rw [show (0 + (i : Int)) = (i : Int) by omega]
    have hkp6 := k6.kt0 _ _ hkp3
    obtain ⟨B, eB, hSR, hS', hstand, hendn⟩ := solo_step ok hx hS
    -- if at == start[0]
    refine ⟨fun σ' H' => σ' = [some (.ref p), some (.ref ad), some (.ref kp), some (.ref e), some (.bl ended), some (.int i), o6, none, none] ∧ Emb a.c_Embers H' e wq l r ⟨N, i, (if b < i + 1 then 1 else 0), (if i = b then [(0, x)] else []), L, R⟩ ∧ Kp [] H3 H', ?_, fun σ' H7 hM => ?_⟩
    · refine ⟨.int i, rfl, .ref kp, rfl, kp, _, 0, .int (b : Nat), rfl, rfl, SqT.of hkp6, atI_nat (j := 0) rfl, rfl, _, rfl, ?_⟩
      by_cases hb : i = b
      · have hd : decide (V.int (i : Nat) = V.int (b : Nat)) = true := decide_eq_true (by rw [hb])
        rw [hd]
        obtain ⟨⟨dx6, v6, q16, _⟩, _⟩ := id hE6
        refine iteT ⟨.ref e, rfl, e, dx6, _, rfl, q16, em_no (by decide +kernel), .ref kp, rfl, kp, _, 1, .int (x : Nat), rfl, rfl, SqT.of hkp6, atI_nat (j := 1) rfl, e, wq, l, r, _, x, rfl, hE6, hx, by show 0 < 1000; decide, fun H8 hE8 k8 => ?_⟩
        refine ⟨rfl, ?_, dropE nwq (k6.of0.tr k8)⟩
        rw [if_neg (by omega)] at hE8
        rw [if_pos (by omega), if_pos hb]
        exact hE8
      · have hd : decide (V.int (i : Nat) = V.int (b : Nat)) = false := decide_eq_false fun z => hb (by have := V.int.inj z; omega)
        rw [hd]
        refine iteF ⟨rfl, ?_, k6⟩
        rw [if_neg hb]
        have : (if b < i + 1 then 1 else 0) = (if b < i then 1 else 0) := by
          by_cases h1 : b < i
          · rw [if_pos h1, if_pos (by omega)]
          · rw [if_neg h1, if_neg (by omega)]
        rw [this]
        exact hE6
    obtain ⟨rfl, hE7, k7⟩ := hM
    obtain ⟨⟨dx7, v7, q17, _⟩, _⟩ := id hE7
    obtain ⟨Wl, eWl⟩ : ∃ W, W = (if i = b then [(0, x)] else [] : List (Nat × Nat)) := ⟨_, rfl⟩
    rw [← eWl] at hE7 eB
    have hWl : Wl.length ≤ 1 := by rw [eWl]; split <;> simp
    obtain ⟨n1, en1⟩ : ∃ n1 : Nat, n1 = (if b < i + 1 then 1 else 0) := ⟨_, rfl⟩
    rw [← en1] at hE7
    -- for row in ember.go()
    refine ⟨.ref e, rfl, e, dx7, _, rfl, q17, em_no (by decide +kernel), e, wq, l, r, _, 1, rfl, hE7, by decide, by decide, by show Wl.length ≤ 500; omega, by show R.length ≤ 10000000; omega, fun w' pB xsB HB nw' npB pw' hBp tBp hEB kB => ?_⟩
    have nw3 : H3 w' = none := by
      cases z : H3 w' with
      | none => rfl
      | some o => exact absurd nw' (k7.tr_ w' (by rw [z]; exact fun y => by cases y))
    have k3B : Kp [] H3 HB := dropG (k7.of0.tr kB)
    have hEB' : Emb a.c_Embers HB e w' l r ⟨N, i + 1, n1, [], B.L, R ++ B.rows⟩ := by
      have e11 : (⟨N, i + 1, n1, [], B.L, R ++ B.rows⟩ : EmS) = { ((⟨N, i, n1, Wl, L, R⟩ : EmS).goN 1).1 with R := R ++ ((⟨N, i, n1, Wl, L, R⟩ : EmS).goN 1).2 } := by
        rw [eB]
        rfl
      rw [e11]
      exact hEB
    have tB' : TuA HB xsB (B.rows.map rowD) := by
      have e12 : ((⟨N, i, n1, Wl, L, R⟩ : EmS).goN 1).2 = B.rows := by
        rw [eB]
        rfl
      rw [e12] at tBp
      exact tBp
    have hBl : B.rows.length ≤ 1 := by
      match B.rows, hSR with
      | [], _ => decide
      | [.lit _ _ 0], _ => exact Nat.le_refl 1
      | [.ended _ _ 0], _ => exact Nat.le_refl 1
    refine ⟨pB, rfl, ⟨_, SqL.of hBp⟩, for_list (xs := xsB) (fun j σ H' => ∃ (o6 : Option V), σ = [some (.ref p), some (.ref ad), some (.ref kp), some (.ref e), some (.bl (ended || (B.rows.take j).any endedB)), some (.int i), o6, none, none] ∧ H' = HB) ⟨o6, by rw [List.take_zero]; show _ = [_, _, _, _, some (V.bl (ended || false)), _, _, _, _]; rw [Bool.or_false], rfl⟩ (fun j σ H' _ hP => ?_) (fun j z σ H8 hz hP => ?_) (fun σ H8 hP => ?_)⟩
    · obtain ⟨_, _, rfl⟩ := hP
      exact SqL.of hBp
    · obtain ⟨o6, rfl, rfl⟩ := hP
      obtain ⟨d, hd1', hd2'⟩ := tB'.get hz
      obtain ⟨row, hrow, rfl⟩ : ∃ row, B.rows[j]? = some row ∧ d = rowD row := by
        rw [List.getElem?_map] at hd1'
        cases q1 : B.rows[j]? with
        | none => rw [q1] at hd1'; cases hd1'
        | some u => rw [q1] at hd1'; exact ⟨u, rfl, (Option.some.inj hd1').symm⟩
      have hrr := solo_row hSR (List.mem_of_getElem? hrow)
      obtain ⟨rq, rfl, hrq⟩ := row0_at hd2' hrr
      have etk : (B.rows.take (j + 1)).any endedB = ((B.rows.take j).any endedB || endedB row) := by
        rw [List.take_add_one, hrow, List.any_append]
        show _ = (_ || _)
        simp
      have hne : wordR row ≠ ("lost" : Str) := by
        rcases hrr with ⟨_, _, rfl⟩ | ⟨_, _, rfl⟩
        · exact (show ("lit" : Str) ≠ "lost" by decide +kernel)
        · exact (show ("ended" : Str) ≠ "lost" by decide +kernel)
      -- what is left: the row is right
      have rest : ∀ c : Bool, c = (ended || (B.rows.take (j + 1)).any endedB) → ∀ (X : Prop), ((∃ (o6 : Option V), [some (V.ref p), some (.ref ad), some (.ref kp), some (.ref e), some (.bl c), some (.int (i : Int)), some (.ref rq), none, none] = [some (V.ref p), some (.ref ad), some (.ref kp), some (.ref e), some (.bl (ended || (B.rows.take (j + 1)).any endedB)), some (.int (i : Int)), o6, none, none] ∧ H8 = H8) → X) → X := fun c hc X hX => hX ⟨some (.ref rq), by rw [hc], rfl⟩
      cases hc0 : (ended || (B.rows.take j).any endedB) with
      | true =>
        refine ⟨.bl true, rfl, true, rfl, iteT ?_⟩
        refine ⟨.ref rq, rfl, rq, _, 0, .str (wordR row), rfl, rfl, SqT.of hrq, atI_nat (j := 0) rfl, rfl, _, rfl, ?_⟩
        rw [no_str hne]
        refine iteF ⟨.ref rq, rfl, rq, _, 3, .int 0, rfl, rfl, SqT.of hrq, atI_nat (j := 3) rfl, rfl, _, rfl, ?_⟩
        refine iteF ?_
        exact rest true (by rw [etk, ← Bool.or_assoc, hc0]; rfl) _ fun h => h
      | false =>
        refine ⟨.bl false, rfl, false, rfl, iteF ?_⟩
        refine ⟨.ref rq, rfl, rq, _, 0, .str (wordR row), rfl, rfl, SqT.of hrq, atI_nat (j := 0) rfl, rfl, ?_⟩
        refine ⟨.ref rq, rfl, rq, _, 0, .str (wordR row), rfl, rfl, SqT.of hrq, atI_nat (j := 0) rfl, rfl, _, rfl, ?_⟩
        rw [no_str hne]
        refine iteF ⟨.ref rq, rfl, rq, _, 3, .int 0, rfl, rfl, SqT.of hrq, atI_nat (j := 3) rfl, rfl, _, rfl, ?_⟩
        refine iteF ?_
        exact rest (decide (V.str (wordR row) = V.str ("ended" : Str))) (by rw [etk, ← Bool.or_assoc, hc0, word_end]; rfl) _ fun h => h
    obtain ⟨o6', rfl, rfl⟩ := hP
    have etk : (B.rows.take xsB.length).any endedB = B.rows.any endedB := by
      have : xsB.length = B.rows.length := by rw [tB'.len, List.length_map]
      rw [this, List.take_length]
    rw [etk]
    obtain ⟨en, een⟩ : ∃ en, en = (ended || B.rows.any endedB) := ⟨_, rfl⟩
    rw [← een] at hS' hendn ⊢
    obtain ⟨⟨dxB, vB, q1B, _⟩, _⟩ := id hEB'
    -- if ember.burning() != _law_stand(..)
    refine ⟨.ref e, rfl, e, dxB, _, rfl, q1B, em_no (by decide +kernel), e, w', l, r, _, rfl, hEB', fun pC xsC HC npC hCp tCp kC => ?_⟩
    have k3C := k3B.tr kC
    have tC1 : TuA HC xsC (standD N.length (placeL N (i : Int) (lightsL N b x))) := by
      rw [← hstand]
      have := tCp
      rwa [show ((((⟨N, i + 1, n1, [], B.L, R ++ B.rows⟩ : EmS).b : Nat) : Int) - 1) = (i : Int) by show ((i + 1 : Nat) : Int) - 1 = _; omega] at this
    refine ⟨.ref ad, rfl, .ref kp, rfl, .int i, rfl, .ref ad, .ref kp, i, N, b, x, rfl, hd3.kt k3C.kt0, ok, hu3.kt k3C.kt0, by omega, hx, by omega, k3C.tab _ ht3, k3C.tab _ ht23, fun pS wsS HS hSp tSp kS => ?_⟩
    have k3S := k3C.tr kS
    obtain ⟨sl1, sl2⟩ := stand_ok N.length (placeL N (i : Int) (lightsL N b x))
    have dC : Dx [] HS (.ref pC) (.list (standD N.length (placeL N (i : Int) (lightsL N b x)))) := .lst (by simp) (kS.lst (by simp) hCp) (tC1.kt kS.kt0).dx0
    have dS : Dx [] HS (.ref pS) (.list (standD N.length (placeL N (i : Int) (lightsL N b x)))) := .lst (by simp) hSp tSp.dx0
    refine ⟨_, _, dC.dp (PyData.hasDict_of_canLay _ sl1), dS.dp (PyData.hasDict_of_canLay _ sl1), sl2, sl2, _, rfl, ?_⟩
    rw [SeqAt.eqv_refl _ sl1]
    refine iteF ?_
    have hES := hEB'.kp (kC.tr kS) (kC.tr kS).kt0 fun _ _ => by simp
    -- if ended and place_alone(..) is not None
    cases hen : en with
    | false =>
      refine ⟨.bl false, rfl, false, rfl, iteF (iteF ?_)⟩
      rw [hen] at hS'
      exact ⟨_, _, false, w', B.L, R ++ B.rows, rfl, by rw [← en1]; exact hES, hS', by rw [List.length_append]; omega, nw3, k3S⟩
    | true =>
      refine ⟨.bl true, rfl, true, rfl, iteT ?_⟩
      refine ⟨.ref ad, rfl, .ref kp, rfl, .int i, rfl, .ref ad, .ref kp, i, N, b, x, rfl, hd3.kt k3S.kt0, ok, hu3.kt k3S.kt0, by omega, hx, by omega, k3S.tab _ ht3, k3S.tab _ ht23, fun vp HP tp kP => ?_⟩
      rw [hendn hen] at tp
      cases tp
      refine ⟨rfl, _, rfl, iteF ?_⟩
      rw [hen] at hS'
      exact ⟨_, _, true, w', B.L, R ++ B.rows, rfl, by rw [← en1]; exact hES.kp kP kP.kt0 fun _ _ => by simp, hS', by rw [List.length_append]; omega, nw3, k3S.tr kP⟩
  · obtain ⟨o5, o6, ended, wq, L, R, rfl, hE6, hS, hRl, nwq, k6⟩ := hP
    obtain ⟨g, tl, T', eR, htl, hlit⟩ := solo_fin (show b < 150 by omega) hS
    -- for k in range(len(land))
    refine ⟨.ref ad, rfl, ad, xs, rfl, .inr (SqT.of (k6.kt0 _ _ ((k13.kt j1.nt) _ _ hx1))), N.length, by rw [hln], by omega, by omega, for_range (n := N.length) (fun k σ H' => ∃ (o7 o8 : Option V), σ = [some (.ref p), some (.ref ad), some (.ref kp), some (.ref e), some (.bl ended), o5, o6, o7, o8] ∧ Kp [] H6 H') ⟨none, none, rfl, .rfl'⟩ (fun k σ H7 hk hP => ?_) (fun σ H7 hP => ?_)⟩
    rotate_left
    · obtain ⟨_, _, rfl, k7⟩ := hP
      exact q H7 (k03.tr (k6.tr k7).of0)
    obtain ⟨o7, o8, rfl, k7⟩ := hP
    rw [show (0 + (k : Int)) = (k : Int) by omega]
    have hE7 := hE6.kp k7 k7.kt0 fun _ _ => by simp
    obtain ⟨⟨dx7, v7, q17, _⟩, _⟩ := id hE7
    -- lit = [..]
    refine ⟨.ref e, rfl, e, dx7, _, rfl, q17, em_no (by decide +kernel), e, wq, l, r, _, rfl, hE7, fun pH xsH H8 npH hHp tHp k8 => ?_⟩
    have tH : TuA H8 xsH (R.map rowD) := tHp
    refine ⟨pH, rfl, ⟨_, SqL.of hHp⟩, fun D nD => lc_list (xs := xsH) (fun j H' => H' = upd H8 D (.lst (((R.take j).filterMap (litB k)).map V.int))) rfl (fun j H' _ e => ?_) (fun j zv H' hz e => ?_) (fun H9 e => ?_)⟩
    · rw [e]
      exact SqL.of ((Kp.new (S := []) nD).lst (by simp) hHp)
    · obtain ⟨d, hd1', hd2'⟩ := tH.get hz
      obtain ⟨row, hrow, rfl⟩ : ∃ row, R[j]? = some row ∧ d = rowD row := by
        rw [List.getElem?_map] at hd1'
        cases q1 : R[j]? with
        | none => rw [q1] at hd1'; cases hd1'
        | some u => rw [q1] at hd1'; exact ⟨u, rfl, (Option.some.inj hd1').symm⟩
      have hrr : (∃ b k, row = .lit b k 0) ∨ ∃ b k, row = .ended b k 0 := by
        have hm := List.mem_of_getElem? hrow
        rw [eR] at hm
        rcases List.mem_append.mp hm with hm | hm
        · obtain ⟨r0, _, rfl⟩ := List.mem_map.mp hm
          exact .inl ⟨_, _, rfl⟩
        · obtain ⟨T1, z1, rfl⟩ := htl _ hm
          exact .inr ⟨_, _, rfl⟩
      obtain ⟨rq, rfl, hrq⟩ := row0_at hd2' hrr
      have hrq' : H' rq = some (.tup [.str (wordR row), .int (row.at_ : Nat), .int (lampR row : Nat), .int 0]) := by rw [e]; exact (Kp.new (S := []) nD).kt0 _ _ hrq
      have etk : (R.take (j + 1)).filterMap (litB k) = (R.take j).filterMap (litB k) ++ (litB k row).toList := by
        rw [List.take_add_one, hrow, List.filterMap_append]
        congr 1
      refine ⟨rfl, .ref rq, rfl, rq, _, 0, .str (wordR row), rfl, rfl, SqT.of hrq', atI_nat (j := 0) rfl, rfl, _, rfl, ?_⟩
      rcases hrr with ⟨tb, kb, rfl⟩ | ⟨tb, kb, rfl⟩
      · have hw1 : decide (V.str (wordR (.lit tb kb 0)) = V.str ("lit" : Str)) = true := yes_str _
        rw [hw1]
        refine iteT ⟨.ref rq, rfl, rq, _, 2, .int (kb : Nat), rfl, rfl, SqT.of hrq', atI_nat (j := 2) rfl, .int k, rfl, rfl, _, rfl, ?_⟩
        by_cases ek : kb = k
        · have hk1 : decide (V.int (kb : Nat) = V.int (k : Nat)) = true := decide_eq_true (by rw [ek])
          rw [hk1]
          refine iteT ⟨.ref rq, rfl, rq, _, 1, .int (tb : Nat), rfl, rfl, SqT.of hrq', atI_nat (j := 1) rfl, _, by rw [e]; exact upd_same, ?_, ?_⟩
          · rw [List.length_map]
            refine Nat.lt_of_le_of_lt (m := 150) (Nat.le_trans (List.length_filterMap_le _ _) ?_) (by decide)
            rw [List.length_take]
            omega
          · have : litB k (.lit tb kb 0) = some (tb : Int) := by show (if kb = k then _ else _) = _; rw [if_pos ek]
            rw [e, upd_upd, etk, this, List.map_append]
            rfl
        · have hk1 : decide (V.int (kb : Nat) = V.int (k : Nat)) = false := decide_eq_false fun z => ek (by have := V.int.inj z; omega)
          rw [hk1]
          refine iteF ?_
          have : litB k (.lit tb kb 0) = none := by show (if kb = k then _ else _) = _; rw [if_neg ek]
          rw [e, etk, this]
          show _ = upd H8 D (.lst ((_ ++ []).map V.int))
          rw [List.append_nil]
      · have hw1 : decide (V.str (wordR (.ended tb kb 0)) = V.str ("lit" : Str)) = false := no_str (show ("ended" : Str) ≠ "lit" by decide +kernel)
        rw [hw1]
        refine iteF (iteF ?_)
        rw [e, etk]
        show _ = upd H8 D (.lst ((_ ++ []).map V.int))
        rw [List.append_nil]
    have hlen : xsH.length = R.length := by rw [tH.len, List.length_map]
    rw [hlen, List.take_length] at e
    have efil : R.filterMap (litB k) = dueL N b x k 150 := by
      have h1 : tl.filterMap (litB k) = [] := List.filterMap_eq_nil_iff.mpr fun r hr => by
        obtain ⟨_, _, rfl⟩ := htl r hr
        rfl
      rw [eR, List.filterMap_append, h1, List.append_nil, lit_list]
      exact lit_due ok hx hlit
    rw [efil] at e
    have k9 : Kp [] H8 H9 := e ▸ Kp.new nD
    have hD9 : H9 D = some (.lst ((dueL N b x k 150).map V.int)) := by rw [e]; exact upd_same
    clear e
    have k39 := k6.tr (k7.tr (k8.tr k9))
    -- if lit != _law_lit_beats(..)
    refine ⟨.ref D, rfl, .ref ad, rfl, .ref kp, rfl, .int k, rfl, .ref ad, .ref kp, N, b, x, k, rfl, hd3.kt k39.kt0, ok, hsz, hu3.kt k39.kt0, by omega, hx, hk, k39.tab _ ht3, k39.tab _ ht23, fun pL HL hLp kL => ?_⟩
    refine ⟨.list ((dueL N b x k 150).map PyData.int), .list ((dueL N b x k 150).map PyData.int), Dp.lst (SqL.of (kL.lst (by simp) hD9)) (dp_ints _), Dp.lst (SqL.of hLp) (dp_ints _), ints_shaped _, ints_shaped _, _, rfl, ?_⟩
    rw [SeqAt.eqv_refl (.list ((dueL N b x k 150).map PyData.int)) (all_lay (f := PyData.int) (fun _ => rfl) (dueL N b x k 150))]
    refine iteF ?_
    exact ⟨_, _, rfl, k7.tr (k8.tr (k9.tr kL))⟩
end

/-! ### the law over its cells -/
section
variable {P : Program} {w : World} {K : PySem.W.Frag} {mg : Str → Option Value} {base : Heap} {a : Ad}
def spLaw (TB TB2 : Addr) : Sp := fun vs H Q _ => ∃ (l : Addr) (ns : List Int), vs = [.ref l] ∧ SqL K H l (ns.map V.int) ∧ ns.length ≤ 63 ∧ GxR.TabG H TB ∧ GxR.TabG H TB2 ∧ ∀ H', Q (.bl true) H'
theorem ok_law (T : Tx K mg a) (TB : GxR.TabB base mg a.cd_is_net a.tb_is_net) (TB2 : GxR.TabB base mg a.cd_lights_of a.tb_lights_of) : FnOk P w K mg base CX0 15 a.a_law a.f_law ["script"] (spLaw (K := K) a.tb_is_net a.tb_lights_of) := by
  have G_law_cells := ok_law_cells (P := P) (w := w) (base := base) T
  have G_law_jar := ok_law_jar (P := P) (w := w) (base := base) T
  have G_law_right := ok_law_right (P := P) (w := w) (base := base) T TB TB2
  refine T.law.F.ok sc_law (fun vs H Q E h => ?_) (fun cdv A outer s H vs Q E hr h => ?_)
  · obtain ⟨l, ns, rfl, _⟩ := h
    rfl
  obtain ⟨l, ns, rfl, hl, hn, ht, ht2, q⟩ := h
  refine ⟨_, (pss_cons (ps_set (i := 1) sc_law.nd rfl (by first | exact .inl rfl | exact .inr rfl) (pe_call G_law_cells (hr.mono (by decide)) (by rfl) T.law_cells.g T.law_cells.F.kp T.law_cells.b .nil pass0 (pa_cons (pv 0) (pa_cons pe_int pa_nil))))
      (pss_cons (ps_for PassesOwn.never rfl (pi_range1 (by rfl) T.n_range (pa_cons (pe_callB call_len_seq (by rfl) T.n_len (by decide +kernel) (pa_cons (pv 1) pa_nil)) pa_nil)) (pg_name (i := 2) sc_law.nd rfl (by first | exact .inl rfl | exact .inr rfl)) (pss_one (ps_if (pt_not (pt_val (pe_call G_law_right (hr.mono (by decide)) (by rfl) T.law_right.g T.law_right.F.kp T.law_right.b .nil pass0 (pa_cons (pe_call G_law_jar (hr.mono (by decide)) (by rfl) T.law_jar.g T.law_jar.F.kp T.law_jar.b .nil pass0 (pa_cons (pe_ix ix_list (pv 1) (pv 2) (fun _ _ => rfl)) (pa_cons (pv 2) pa_nil))) pa_nil)))) (pss_one (ps_ret pe_bl)) pss_nil)))
      (pss_one (ps_ret pe_bl)))), ?_⟩
  -- cells = _law_cells(script, ..)
  refine ⟨.ref l, rfl, l, ns, 5, rfl, hl, hn, by decide, fun u cs H1 hu hcs k1 => ?_⟩
  have ht1 := k1.tab _ ht
  have ht21 := k1.tab _ ht2
  have lcs : (cs.map V.int).length = cs.length := List.length_map _
  -- for k in range(len(cells))
  refine ⟨.ref u, rfl, u, _, rfl, .inl (SqL.of hu), cs.length, by rw [lcs], by omega, by omega, for_range (n := cs.length) (fun i σ H' => ∃ (o2 : Option V), σ = [some (.ref l), some (.ref u), o2] ∧ Kp [] H1 H') ⟨none, rfl, .rfl'⟩ (fun i σ H2 hi hP => ?_) (fun σ H2 hP => ?_)⟩
  · obtain ⟨o2, rfl, k2⟩ := hP
    rw [show (0 + (i : Int)) = (i : Int) by omega]
    have hu2 := k2.lst (by simp) hu
    obtain ⟨cell, hc⟩ : ∃ cell, cs[i]? = some cell := ⟨cs[i], List.getElem?_eq_getElem hi⟩
    have hcv : (cs.map V.int)[i]? = some (.int cell) := by rw [List.getElem?_map, hc]; rfl
    refine ⟨.ref u, rfl, .int i, rfl, u, _, i, .int cell, rfl, rfl, SqL.of hu2, atI_nat hcv, .int i, rfl, cell, i, rfl, by omega, fun p np H3 k3 j3 => ?_⟩
    refine ⟨p, rfl, j3, k3.tab _ (k2.tab _ ht1), k3.tab _ (k2.tab _ ht21), fun H4 k4 => ⟨true, rfl, iteF ?_⟩⟩
    exact ⟨_, rfl, k2.tr (Kp.drop np (k3.of0.tr k4))⟩
  · obtain ⟨o2, rfl, k2⟩ := hP
    exact q H2
end

/-! ### the head -/
def hex (_ : PySem.W.Frag) : Bool := true
def hd_is_whole : He.DefD := ⟨("is_whole", none), "is_whole", "is_whole", defArgs s_is_whole, defBody s_is_whole, defScope s_is_whole, [], []⟩
def hd_is_pair : He.DefD := ⟨("is_pair", none), "is_pair", "is_pair", defArgs s_is_pair, defBody s_is_pair, defScope s_is_pair, [], []⟩
def hd_is_number_of_many : He.DefD := ⟨("is_number_of_many", none), "is_number_of_many", "is_number_of_many", defArgs s_is_number_of_many, defBody s_is_number_of_many, defScope s_is_number_of_many, [], []⟩
def hd_is_lamp_of_many : He.DefD := ⟨("is_lamp_of_many", none), "is_lamp_of_many", "is_lamp_of_many", defArgs s_is_lamp_of_many, defBody s_is_lamp_of_many, defScope s_is_lamp_of_many, [], []⟩
def hd_is_net : He.DefD := ⟨("is_net", none), "is_net", "is_net", defArgs s_is_net, defBody s_is_net, defScope s_is_net, [], []⟩
def hd_need_net : He.DefD := ⟨("need_net", none), "need_net", "need_net", defArgs s_need_net, defBody s_need_net, defScope s_need_net, [], []⟩
def hd_need_lamp : He.DefD := ⟨("need_lamp", none), "need_lamp", "need_lamp", defArgs s_need_lamp, defBody s_need_lamp, defScope s_need_lamp, [], []⟩
def hd_is_kindling_of_many : He.DefD := ⟨("is_kindling_of_many", none), "is_kindling_of_many", "is_kindling_of_many", defArgs s_is_kindling_of_many, defBody s_is_kindling_of_many, defScope s_is_kindling_of_many, [], []⟩
def hd_way_of : He.DefD := ⟨("way_of", none), "way_of", "way_of", defArgs s_way_of, defBody s_way_of, defScope s_way_of, [], []⟩
def hd_need_kindling : He.DefD := ⟨("need_kindling", none), "need_kindling", "need_kindling", defArgs s_need_kindling, defBody s_need_kindling, defScope s_need_kindling, [], []⟩
def hd_need_beat : He.DefD := ⟨("need_beat", none), "need_beat", "need_beat", defArgs s_need_beat, defBody s_need_beat, defScope s_need_beat, [], []⟩
def hd_lights_of : He.DefD := ⟨("lights_of", none), "lights_of", "lights_of", defArgs s_lights_of, defBody s_lights_of, defScope s_lights_of, [], []⟩
def hd_place_by_lights : He.DefD := ⟨("place_by_lights", none), "place_by_lights", "place_by_lights", defArgs s_place_by_lights, defBody s_place_by_lights, defScope s_place_by_lights, [], []⟩
def hd_place_alone : He.DefD := ⟨("place_alone", none), "place_alone", "place_alone", defArgs s_place_alone, defBody s_place_alone, defScope s_place_alone, [], []⟩
def hd_lights_alone : He.DefD := ⟨("lights_alone", none), "lights_alone", "lights_alone", defArgs s_lights_alone, defBody s_lights_alone, defScope s_lights_alone, [], []⟩
def hd_Embers___init__ : He.DefD := ⟨("Embers", some "__init__"), "__init__", "Embers.__init__", defArgs s_Embers___init__, defBody s_Embers___init__, defScope s_Embers___init__, [], []⟩
def hd_Embers_kindle : He.DefD := ⟨("Embers", some "kindle"), "kindle", "Embers.kindle", defArgs s_Embers_kindle, defBody s_Embers_kindle, defScope s_Embers_kindle, [], []⟩
def hd_Embers_go : He.DefD := ⟨("Embers", some "go"), "go", "Embers.go", defArgs s_Embers_go, defBody s_Embers_go, defScope s_Embers_go, [], [("beats", .int 1)]⟩
def hd_Embers_coming : He.DefD := ⟨("Embers", some "coming"), "coming", "Embers.coming", defArgs s_Embers_coming, defBody s_Embers_coming, defScope s_Embers_coming, [], []⟩
def hd_Embers_burning : He.DefD := ⟨("Embers", some "burning"), "burning", "Embers.burning", defArgs s_Embers_burning, defBody s_Embers_burning, defScope s_Embers_burning, [], []⟩
def hd_Embers_happened : He.DefD := ⟨("Embers", some "happened"), "happened", "Embers.happened", defArgs s_Embers_happened, defBody s_Embers_happened, defScope s_Embers_happened, [], []⟩
def hd_Embers__go_on : He.DefD := ⟨("Embers", some "_go_on"), "_go_on", "Embers._go_on", defArgs s_Embers__go_on, defBody s_Embers__go_on, defScope s_Embers__go_on, [], []⟩
def hd_Embers__darken : He.DefD := ⟨("Embers", some "_darken"), "_darken", "Embers._darken", defArgs s_Embers__darken, defBody s_Embers__darken, defScope s_Embers__darken, [], []⟩
def hd_Embers__meet : He.DefD := ⟨("Embers", some "_meet"), "_meet", "Embers._meet", defArgs s_Embers__meet, defBody s_Embers__meet, defScope s_Embers__meet, [], []⟩
def hd_law_jar : He.DefD := ⟨("_law_jar", none), "_law_jar", "_law_jar", defArgs s_law_jar, defBody s_law_jar, defScope s_law_jar, [], []⟩
def hd_law_pull : He.DefD := ⟨("_law_pull", none), "_law_pull", "_law_pull", defArgs s_law_pull, defBody s_law_pull, defScope s_law_pull, [], []⟩
def hd_law_cells : He.DefD := ⟨("_law_cells", none), "_law_cells", "_law_cells", defArgs s_law_cells, defBody s_law_cells, defScope s_law_cells, [], []⟩
def hd_law_next : He.DefD := ⟨("_law_next", none), "_law_next", "_law_next", defArgs s_law_next, defBody s_law_next, defScope s_law_next, [], []⟩
def hd_law_net : He.DefD := ⟨("_law_net", none), "_law_net", "_law_net", defArgs s_law_net, defBody s_law_net, defScope s_law_net, [], []⟩
def hd_law_lit_beats : He.DefD := ⟨("_law_lit_beats", none), "_law_lit_beats", "_law_lit_beats", defArgs s_law_lit_beats, defBody s_law_lit_beats, defScope s_law_lit_beats, [], []⟩
def hd_law_stand : He.DefD := ⟨("_law_stand", none), "_law_stand", "_law_stand", defArgs s_law_stand, defBody s_law_stand, defScope s_law_stand, [], []⟩
def hd_law_right : He.DefD := ⟨("_law_right", none), "_law_right", "_law_right", defArgs s_law_right, defBody s_law_right, defScope s_law_right, [], []⟩
def hd_law : He.DefD := ⟨("law", none), "law", "law", defArgs s_law, defBody s_law, defScope s_law, [], []⟩
def hfn : List He.DefD := [hd_is_whole, hd_is_pair, hd_is_number_of_many, hd_is_lamp_of_many, hd_is_net, hd_need_net, hd_need_lamp, hd_is_kindling_of_many, hd_way_of, hd_need_kindling, hd_need_beat, hd_lights_of, hd_place_by_lights, hd_place_alone, hd_lights_alone, hd_Embers___init__, hd_Embers_kindle, hd_Embers_go, hd_Embers_coming, hd_Embers_burning, hd_Embers_happened, hd_Embers__go_on, hd_Embers__darken, hd_Embers__meet, hd_law_jar, hd_law_pull, hd_law_cells, hd_law_next, hd_law_net, hd_law_lit_beats, hd_law_stand, hd_law_right, hd_law]
def hfa : List He.Fa := [.glo "is_whole", .glo "is_pair", .glo "is_number_of_many", .glo "is_lamp_of_many", .glo "is_net", .glo "need_net", .glo "need_lamp", .glo "is_kindling_of_many", .glo "way_of", .glo "need_kindling", .glo "need_beat", .glo "lights_of", .glo "place_by_lights", .glo "place_alone", .glo "lights_alone", .glo "_law_jar", .glo "_law_pull", .glo "_law_cells", .glo "_law_next", .glo "_law_net", .glo "_law_lit_beats", .glo "_law_stand", .glo "_law_right", .glo "law", .free "all", .free "bool", .free "enumerate", .free "int", .free "isinstance", .free "len", .free "list", .free "max", .free "range", .free "sorted", .free "sum", .free "tuple", .int "MOST_LAMPS" 12, .int "MOST_BEATS" 400, .glo "EmberError", .glo "NoNet", .glo "NoKindlings", .glo "NoLamp", .glo "NoBeat", .glo "Embers", .cls "Embers", .mkr "Embers", .noat "Embers" "_net", .noat "Embers" "_beat", .noat "Embers" "_flames", .noat "Embers" "_waiting", .noat "Embers" "_lights", .noat "Embers" "_rows", .meth "Embers" "__init__", .meth "Embers" "kindle", .meth "Embers" "go", .meth "Embers" "coming", .meth "Embers" "burning", .meth "Embers" "happened", .meth "Embers" "_go_on", .meth "Embers" "_darken", .meth "Embers" "_meet"]
def htf : List (Str × Option Str) := [("is_net", none), ("lights_of", none)]
abbrev hR : PySem.W.OpenRow := PySem.W.OpenLaw.row PySem.Challenge.rw_emberlane_k24_whole_alone_in_an_embers
abbrev hk : PySem.W.Hook := He.hookX 5 hfa hfn [] htf hex
def hob (s : PySem.W.SharedT) : He.AlX := He.obsX 5 hfa hfn [] htf hex (HandSHeadRun.getT s)
theorem hob_eq (s : PySem.W.SharedT) : hob s = hk.obs s.abs := He.obsX_eq (HandSHeadRun.getT_eq s)
def hloose : List PySem.Str := ["EmberError", "Embers", "MOST_BEATS", "MOST_LAMPS", "NoBeat", "NoKindlings", "NoLamp", "NoNet", "_law_cells", "_law_jar", "_law_lit_beats", "_law_net", "_law_next", "_law_pull", "_law_right", "_law_stand", "is_kindling_of_many", "is_lamp_of_many", "is_net", "is_number_of_many", "is_pair", "is_whole", "lights_alone", "lights_of", "need_beat", "need_kindling", "need_lamp", "need_net", "place_alone", "place_by_lights", "way_of"]
theorem hrun (w : World) : HandSHeadRun.RunEq hR (PySem.W.view hR.prog [37]) hk hob 40000 hloose w := by
  intro os
  kernel_rfl
theorem hfacts {w : World} {K : PySem.W.Frag} {h : Heap} {mg : Str → Option Value} {f : Addr} (X : K.In h) (G : h.Ns mainGlobals mg) (hfa_ : mg ("law" : Str) = some (.ref f)) (c : He.SaysX hfa hfn [] htf hex w h K) :
    ∃ a : Ad, Tx K mg a ∧ a.a_law = f ∧ (a.cd_is_net, a.tb_is_net) = He.cT K ("is_net", none) ∧ (a.cd_lights_of, a.tb_lights_of) = He.cT K ("lights_of", none) := by
  have cd : He.SaysD hfa hfn K := c.t.d
  obtain ⟨d0, F0⟩ := cd.def_ 0 (d := hd_is_whole) rfl
  obtain ⟨d1, F1⟩ := cd.def_ 1 (d := hd_is_pair) rfl
  obtain ⟨d2, F2⟩ := cd.def_ 2 (d := hd_is_number_of_many) rfl
  obtain ⟨d3, F3⟩ := cd.def_ 3 (d := hd_is_lamp_of_many) rfl
  obtain ⟨d4, F4⟩ := cd.def_ 4 (d := hd_is_net) rfl
  obtain ⟨d5, F5⟩ := cd.def_ 5 (d := hd_need_net) rfl
  obtain ⟨d6, F6⟩ := cd.def_ 6 (d := hd_need_lamp) rfl
  obtain ⟨d7, F7⟩ := cd.def_ 7 (d := hd_is_kindling_of_many) rfl
  obtain ⟨d8, F8⟩ := cd.def_ 8 (d := hd_way_of) rfl
  obtain ⟨d9, F9⟩ := cd.def_ 9 (d := hd_need_kindling) rfl
  obtain ⟨d10, F10⟩ := cd.def_ 10 (d := hd_need_beat) rfl
  obtain ⟨d11, F11⟩ := cd.def_ 11 (d := hd_lights_of) rfl
  obtain ⟨d12, F12⟩ := cd.def_ 12 (d := hd_place_by_lights) rfl
  obtain ⟨d13, F13⟩ := cd.def_ 13 (d := hd_place_alone) rfl
  obtain ⟨d14, F14⟩ := cd.def_ 14 (d := hd_lights_alone) rfl
  obtain ⟨d15, F15⟩ := cd.def_ 15 (d := hd_Embers___init__) rfl
  obtain ⟨d16, F16⟩ := cd.def_ 16 (d := hd_Embers_kindle) rfl
  obtain ⟨d17, F17⟩ := cd.def_ 17 (d := hd_Embers_go) rfl
  obtain ⟨d18, F18⟩ := cd.def_ 18 (d := hd_Embers_coming) rfl
  obtain ⟨d19, F19⟩ := cd.def_ 19 (d := hd_Embers_burning) rfl
  obtain ⟨d20, F20⟩ := cd.def_ 20 (d := hd_Embers_happened) rfl
  obtain ⟨d21, F21⟩ := cd.def_ 21 (d := hd_Embers__go_on) rfl
  obtain ⟨d22, F22⟩ := cd.def_ 22 (d := hd_Embers__darken) rfl
  obtain ⟨d23, F23⟩ := cd.def_ 23 (d := hd_Embers__meet) rfl
  obtain ⟨d24, F24⟩ := cd.def_ 24 (d := hd_law_jar) rfl
  obtain ⟨d25, F25⟩ := cd.def_ 25 (d := hd_law_pull) rfl
  obtain ⟨d26, F26⟩ := cd.def_ 26 (d := hd_law_cells) rfl
  obtain ⟨d27, F27⟩ := cd.def_ 27 (d := hd_law_next) rfl
  obtain ⟨d28, F28⟩ := cd.def_ 28 (d := hd_law_net) rfl
  obtain ⟨d29, F29⟩ := cd.def_ 29 (d := hd_law_lit_beats) rfl
  obtain ⟨d30, F30⟩ := cd.def_ 30 (d := hd_law_stand) rfl
  obtain ⟨d31, F31⟩ := cd.def_ 31 (d := hd_law_right) rfl
  obtain ⟨d32, F32⟩ := cd.def_ 32 (d := hd_law) rfl
  have e0 : f = He.ga K "law" := by
    have e := hfa_.symm.trans (He.glo_ok X G (cd.fact 23 (f := .glo "law") rfl))
    cases e
    rfl
  refine ⟨{ a_is_whole := He.fAd K hd_is_whole.at_, f_is_whole := d0, a_is_pair := He.fAd K hd_is_pair.at_, f_is_pair := d1, a_is_number_of_many := He.fAd K hd_is_number_of_many.at_, f_is_number_of_many := d2, a_is_lamp_of_many := He.fAd K hd_is_lamp_of_many.at_, f_is_lamp_of_many := d3, a_is_net := He.fAd K hd_is_net.at_, f_is_net := d4, a_need_net := He.fAd K hd_need_net.at_, f_need_net := d5, a_need_lamp := He.fAd K hd_need_lamp.at_, f_need_lamp := d6, a_is_kindling_of_many := He.fAd K hd_is_kindling_of_many.at_, f_is_kindling_of_many := d7, a_way_of := He.fAd K hd_way_of.at_, f_way_of := d8, a_need_kindling := He.fAd K hd_need_kindling.at_, f_need_kindling := d9, a_need_beat := He.fAd K hd_need_beat.at_, f_need_beat := d10, a_lights_of := He.fAd K hd_lights_of.at_, f_lights_of := d11, a_place_by_lights := He.fAd K hd_place_by_lights.at_, f_place_by_lights := d12, a_place_alone := He.fAd K hd_place_alone.at_, f_place_alone := d13, a_lights_alone := He.fAd K hd_lights_alone.at_, f_lights_alone := d14, a_Embers___init__ := He.fAd K hd_Embers___init__.at_, f_Embers___init__ := d15, a_Embers_kindle := He.fAd K hd_Embers_kindle.at_, f_Embers_kindle := d16, a_Embers_go := He.fAd K hd_Embers_go.at_, f_Embers_go := d17, a_Embers_coming := He.fAd K hd_Embers_coming.at_, f_Embers_coming := d18, a_Embers_burning := He.fAd K hd_Embers_burning.at_, f_Embers_burning := d19, a_Embers_happened := He.fAd K hd_Embers_happened.at_, f_Embers_happened := d20, a_Embers__go_on := He.fAd K hd_Embers__go_on.at_, f_Embers__go_on := d21, a_Embers__darken := He.fAd K hd_Embers__darken.at_, f_Embers__darken := d22, a_Embers__meet := He.fAd K hd_Embers__meet.at_, f_Embers__meet := d23, a_law_jar := He.fAd K hd_law_jar.at_, f_law_jar := d24, a_law_pull := He.fAd K hd_law_pull.at_, f_law_pull := d25, a_law_cells := He.fAd K hd_law_cells.at_, f_law_cells := d26, a_law_next := He.fAd K hd_law_next.at_, f_law_next := d27, a_law_net := He.fAd K hd_law_net.at_, f_law_net := d28, a_law_lit_beats := He.fAd K hd_law_lit_beats.at_, f_law_lit_beats := d29, a_law_stand := He.fAd K hd_law_stand.at_, f_law_stand := d30, a_law_right := He.fAd K hd_law_right.at_, f_law_right := d31, a_law := He.fAd K hd_law.at_, f_law := d32, c_EmberError := He.ga K "EmberError", c_NoNet := He.ga K "NoNet", c_NoKindlings := He.ga K "NoKindlings", c_NoLamp := He.ga K "NoLamp", c_NoBeat := He.ga K "NoBeat", c_Embers := He.ga K "Embers", cd_is_net := He.codeOf K ("is_net", none), tb_is_net := (He.cT K ("is_net", none)).2, cd_lights_of := He.codeOf K ("lights_of", none), tb_lights_of := (He.cT K ("lights_of", none)).2 }, ?_, e0.symm, rfl, rfl⟩
  exact ⟨Df.mk' F0 (He.glo_ok X G (cd.fact 0 (f := .glo "is_whole") rfl)) (fun _ _ _ _ _ _ us hl => match us, hl with | [_], _ => rfl),
    Df.mk' F1 (He.glo_ok X G (cd.fact 1 (f := .glo "is_pair") rfl)) (fun _ _ _ _ _ _ us hl => match us, hl with | [_], _ => rfl),
    Df.mk' F2 (He.glo_ok X G (cd.fact 2 (f := .glo "is_number_of_many") rfl)) (fun _ _ _ _ _ _ us hl => match us, hl with | [_, _], _ => rfl),
    Df.mk' F3 (He.glo_ok X G (cd.fact 3 (f := .glo "is_lamp_of_many") rfl)) (fun _ _ _ _ _ _ us hl => match us, hl with | [_, _], _ => rfl),
    Df.mk' F4 (He.glo_ok X G (cd.fact 4 (f := .glo "is_net") rfl)) (fun _ _ _ _ _ _ us hl => match us, hl with | [_], _ => rfl),
    Df.mk' F5 (He.glo_ok X G (cd.fact 5 (f := .glo "need_net") rfl)) (fun _ _ _ _ _ _ us hl => match us, hl with | [_], _ => rfl),
    Df.mk' F6 (He.glo_ok X G (cd.fact 6 (f := .glo "need_lamp") rfl)) (fun _ _ _ _ _ _ us hl => match us, hl with | [_, _], _ => rfl),
    Df.mk' F7 (He.glo_ok X G (cd.fact 7 (f := .glo "is_kindling_of_many") rfl)) (fun _ _ _ _ _ _ us hl => match us, hl with | [_, _], _ => rfl),
    Df.mk' F8 (He.glo_ok X G (cd.fact 8 (f := .glo "way_of") rfl)) (fun _ _ _ _ _ _ us hl => match us, hl with | [_, _], _ => rfl),
    Df.mk' F9 (He.glo_ok X G (cd.fact 9 (f := .glo "need_kindling") rfl)) (fun _ _ _ _ _ _ us hl => match us, hl with | [_, _], _ => rfl),
    Df.mk' F10 (He.glo_ok X G (cd.fact 10 (f := .glo "need_beat") rfl)) (fun _ _ _ _ _ _ us hl => match us, hl with | [_], _ => rfl),
    Df.mk' F11 (He.glo_ok X G (cd.fact 11 (f := .glo "lights_of") rfl)) (fun _ _ _ _ _ _ us hl => match us, hl with | [_, _], _ => rfl),
    Df.mk' F12 (He.glo_ok X G (cd.fact 12 (f := .glo "place_by_lights") rfl)) (fun _ _ _ _ _ _ us hl => match us, hl with | [_, _, _], _ => rfl),
    Df.mk' F13 (He.glo_ok X G (cd.fact 13 (f := .glo "place_alone") rfl)) (fun _ _ _ _ _ _ us hl => match us, hl with | [_, _, _], _ => rfl),
    Df.mk' F14 (He.glo_ok X G (cd.fact 14 (f := .glo "lights_alone") rfl)) (fun _ _ _ _ _ _ us hl => match us, hl with | [_, _, _], _ => rfl),
    Df.mk' F24 (He.glo_ok X G (cd.fact 15 (f := .glo "_law_jar") rfl)) (fun _ _ _ _ _ _ us hl => match us, hl with | [_, _], _ => rfl),
    Df.mk' F25 (He.glo_ok X G (cd.fact 16 (f := .glo "_law_pull") rfl)) (fun _ _ _ _ _ _ us hl => match us, hl with | [_, _], _ => rfl),
    Df.mk' F26 (He.glo_ok X G (cd.fact 17 (f := .glo "_law_cells") rfl)) (fun _ _ _ _ _ _ us hl => match us, hl with | [_, _], _ => rfl),
    Df.mk' F27 (He.glo_ok X G (cd.fact 18 (f := .glo "_law_next") rfl)) (fun _ _ _ _ _ _ us hl => match us, hl with | [_, _, _, _], _ => rfl),
    Df.mk' F28 (He.glo_ok X G (cd.fact 19 (f := .glo "_law_net") rfl)) (fun _ _ _ _ _ _ us hl => match us, hl with | [_, _], _ => rfl),
    Df.mk' F29 (He.glo_ok X G (cd.fact 20 (f := .glo "_law_lit_beats") rfl)) (fun _ _ _ _ _ _ us hl => match us, hl with | [_, _, _, _], _ => rfl),
    Df.mk' F30 (He.glo_ok X G (cd.fact 21 (f := .glo "_law_stand") rfl)) (fun _ _ _ _ _ _ us hl => match us, hl with | [_, _, _], _ => rfl),
    Df.mk' F31 (He.glo_ok X G (cd.fact 22 (f := .glo "_law_right") rfl)) (fun _ _ _ _ _ _ us hl => match us, hl with | [_], _ => rfl),
    Df.mk' F32 (He.glo_ok X G (cd.fact 23 (f := .glo "law") rfl)) (fun _ _ _ _ _ _ us hl => match us, hl with | [_], _ => rfl),
    He.free_ok X G (cd.fact 24 (f := .free "all") rfl),
    He.free_ok X G (cd.fact 25 (f := .free "bool") rfl),
    He.free_ok X G (cd.fact 26 (f := .free "enumerate") rfl),
    He.free_ok X G (cd.fact 27 (f := .free "int") rfl),
    He.free_ok X G (cd.fact 28 (f := .free "isinstance") rfl),
    He.free_ok X G (cd.fact 29 (f := .free "len") rfl),
    He.free_ok X G (cd.fact 30 (f := .free "list") rfl),
    He.free_ok X G (cd.fact 31 (f := .free "max") rfl),
    He.free_ok X G (cd.fact 32 (f := .free "range") rfl),
    He.free_ok X G (cd.fact 33 (f := .free "sorted") rfl),
    He.free_ok X G (cd.fact 34 (f := .free "sum") rfl),
    He.free_ok X G (cd.fact 35 (f := .free "tuple") rfl),
    He.int_ok X G (cd.fact 36 (f := .int "MOST_LAMPS" 12) rfl),
    He.int_ok X G (cd.fact 37 (f := .int "MOST_BEATS" 400) rfl),
    codeIs_of (p := hd_is_net.at_) (x := "is_net") (qual := "is_net") (st := s_is_net) (funOf F4),
    codeIs_of (p := hd_lights_of.at_) (x := "lights_of") (qual := "lights_of") (st := s_lights_of) (funOf F11),
    He.cls_ok (cd.fact 44 (f := .cls "Embers") rfl),
    He.mkr_ok (cd.fact 45 (f := .mkr "Embers") rfl),
    He.noat_ok (cd.fact 46 (f := .noat "Embers" "_net") rfl),
    He.noat_ok (cd.fact 47 (f := .noat "Embers" "_beat") rfl),
    He.noat_ok (cd.fact 48 (f := .noat "Embers" "_flames") rfl),
    He.noat_ok (cd.fact 49 (f := .noat "Embers" "_waiting") rfl),
    He.noat_ok (cd.fact 50 (f := .noat "Embers" "_lights") rfl),
    He.noat_ok (cd.fact 51 (f := .noat "Embers" "_rows") rfl),
    He.glo_ok X G (cd.fact 38 (f := .glo "EmberError") rfl),
    He.glo_ok X G (cd.fact 39 (f := .glo "NoNet") rfl),
    He.glo_ok X G (cd.fact 40 (f := .glo "NoKindlings") rfl),
    He.glo_ok X G (cd.fact 41 (f := .glo "NoLamp") rfl),
    He.glo_ok X G (cd.fact 42 (f := .glo "NoBeat") rfl),
    He.glo_ok X G (cd.fact 43 (f := .glo "Embers") rfl),
    funOf F15,
    F15.bindsN (fun _ _ _ _ _ _ us hl => match us, hl with | [_, _], _ => rfl),
    He.meth_ok (cd.fact 52 (f := .meth "Embers" "__init__") rfl),
    funOf F16,
    F16.bindsN (fun _ _ _ _ _ _ us hl => match us, hl with | [_, _], _ => rfl),
    He.meth_ok (cd.fact 53 (f := .meth "Embers" "kindle") rfl),
    F17,
    He.meth_ok (cd.fact 54 (f := .meth "Embers" "go") rfl),
    funOf F18,
    F18.bindsN (fun _ _ _ _ _ _ us hl => match us, hl with | [_], _ => rfl),
    He.meth_ok (cd.fact 55 (f := .meth "Embers" "coming") rfl),
    funOf F19,
    F19.bindsN (fun _ _ _ _ _ _ us hl => match us, hl with | [_], _ => rfl),
    He.meth_ok (cd.fact 56 (f := .meth "Embers" "burning") rfl),
    funOf F20,
    F20.bindsN (fun _ _ _ _ _ _ us hl => match us, hl with | [_], _ => rfl),
    He.meth_ok (cd.fact 57 (f := .meth "Embers" "happened") rfl),
    funOf F21,
    F21.bindsN (fun _ _ _ _ _ _ us hl => match us, hl with | [_], _ => rfl),
    He.meth_ok (cd.fact 58 (f := .meth "Embers" "_go_on") rfl),
    funOf F22,
    F22.bindsN (fun _ _ _ _ _ _ us hl => match us, hl with | [_, _], _ => rfl),
    He.meth_ok (cd.fact 59 (f := .meth "Embers" "_darken") rfl),
    funOf F23,
    F23.bindsN (fun _ _ _ _ _ _ us hl => match us, hl with | [_, _, _], _ => rfl),
    He.meth_ok (cd.fact 60 (f := .meth "Embers" "_meet") rfl)⟩
theorem law_all {w : World} {K : PySem.W.Frag} {h : Heap} {mg : Str → Option Value} {f : Addr} (X : K.In h) (G : h.Ns mainGlobals mg) (hm : mg ("law" : Str) = some (.ref f)) (c : He.SaysX hfa hfn [] htf hex w h K) : LawG PySem.Challenge.rw_emberlane_k24_whole_alone_in_an_embers w K 15 63 "script" mg f h := by
  obtain ⟨a, T, rfl, ec, ec2⟩ := hfacts X G hm c
  have m : (("is_net", none) : Str × Option Str) ∈ htf := by simp [htf]
  have m2 : (("lights_of", none) : Str × Option Str) ∈ htf := by simp [htf]
  refine ⟨a.f_law, [(a.cd_is_net, a.tb_is_net), (a.cd_lights_of, a.tb_lights_of)], spLaw (K := K) a.tb_is_net a.tb_lights_of, fun p hp => ?_, fun s u => ?_, fun H b ns hn _ hT hS => ?_, fun base XB GB TB => FnG.of (ok_law T (TB (a.cd_is_net, a.tb_is_net) (by simp)) (TB (a.cd_lights_of, a.tb_lights_of) (by simp)))⟩
  · simp only [List.mem_cons, List.not_mem_nil, or_false] at hp
    rcases hp with rfl | rfl
    · rw [ec]
      exact ⟨c.empty _ m, c.out _ m, PySem.W.codeHd_of_K X (c.hd _ m)⟩
    · rw [ec2]
      exact ⟨c.empty _ m2, c.out _ m2, PySem.W.codeHd_of_K X (c.hd _ m2)⟩
  · obtain ⟨oc, od, kV, doc, pm, an, cdv, ct, osl, e, lk, hcd⟩ := T.law.F.ex
    rw [e]
    exact BindsTo.of_eq rfl
  · exact ⟨b, ns, rfl, hS, hn, ⟨#[], hT (a.cd_is_net, a.tb_is_net) (by simp), by simp [TriplesOk]⟩, ⟨#[], hT (a.cd_lights_of, a.tb_lights_of) (by simp), by simp [TriplesOk]⟩, fun H' => rfl⟩
end K24
open PySem PySem.W PySem.Calls PyProof.Rows
set_option maxRecDepth 100000 in
set_option maxHeartbeats 0 in
theorem PySem.Challenge.cw_emberlane_k24_whole_alone_in_an_embers_holds : PySem.Challenge.rw_emberlane_k24_whole_alone_in_an_embers.Holds := by
  w_on; o_law
  refine HandSHeadRun.head_any (r := OpenLaw.row PySem.Challenge.rw_emberlane_k24_whole_alone_in_an_embers) (q := view (OpenLaw.row PySem.Challenge.rw_emberlane_k24_whole_alone_in_an_embers).prog [37]) (H := K24.hk) (ob := K24.hob) (M := 40000) (loose := K24.hloose) (d := HandSHeadRun.topDef (OpenLaw.row PySem.Challenge.rw_emberlane_k24_whole_alone_in_an_embers).prog 37) (kwd := []) K24.hob_eq
    (by kernel_rfl) (fun s => by kernel_rfl) K24.hrun (by kernel_rfl) (by kernel_rfl) (by kernel_rfl) (by rfl) (by first | assumption | decide +kernel) (by decide +kernel) ⟨rfl, rfl, rfl, rfl, rfl, by decide +kernel⟩ ?hw ?hc
  case hw => w_witness2
  case hc =>
    refine Em.walkG (l := PySem.Challenge.rw_emberlane_k24_whole_alone_in_an_embers) (n := 63) (k := 15) (x := "script") rfl (by decide) (by kernel_rfl) ⟨rfl, by decide, by decide⟩ ?F
    intro w mg fa h Y G hmg0
    obtain ⟨K, KX, c⟩ := Y
    have hmg : mg ("law" : PySem.Str) = some (.ref fa) := by
      have e : (HandSHeadRun.topDef (OpenLaw.row PySem.Challenge.rw_emberlane_k24_whole_alone_in_an_embers).prog 37).name = ("law" : PySem.Str) := by kernel_rfl
      rw [← e]
      exact hmg0
    exact ⟨K, KX, K24.law_all KX G hmg c⟩


