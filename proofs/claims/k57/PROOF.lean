import PyProof.Rows.All
import Wide.All
import OpenK.AllK
import Wide.FinOn
import HandS.ForMost
import HandS.ForExc
import HandS.IsInst
import HandS.AnyAll
import HandS.Nested
import HandS.Wide
import HandS.TupAny
import HandS.Flow
import HandS.Conv
import HandS.HeadHook4
import HandS.HeadWalk
import HandS.EndTab
import HandS.Walk
import HandS.SortRule
import HandS.Zip
import HandS.Iter
import KE.GoesEnum
import KE.GoesMore
import HandS.TupMul
import HandS.Dict
import HandS.Style
import HandS.MapSum
import HandS.SortKw
import HandS.Codes
import HandS.Evl
import HandS.Defaults
import HandS.SortInts
import HandS.DictComp
import HandS.WordsDict
import HandS.SetKeys
import HandS.Head0
import HandS.Head1
import HandS.Head2
import PySem.Challenge.RW_emberlane_k57_where_none_is_lost
set_option Elab.async false
set_option linter.all false
set_option maxRecDepth 100000
set_option maxHeartbeats 4000000
/-! Quiet code: small defs that only read, so that a generator expression may call them. -/
namespace Qt
open PySem PySem.Spec PyProof.Rows L2

abbrev Up (h g : Heap) : Prop := ∀ b o, h.get? b = some o → g.get? b = some o
theorem Up.rfl' {h : Heap} : Up h h := fun _ _ e => e
theorem Up.tr {h g k : Heap} (a : Up h g) (b : Up g k) : Up h k := fun c o e => b c o (a c o e)
theorem up_lt {h g : Heap} (a : Up h g) {L : Addr} (hL : g.objs.size ≤ L) : h.get? L = none := by
  cases q : h.get? L with
  | none => rfl
  | some o => exact absurd (Nat.lt_of_lt_of_le (Heap.lt_size (a _ _ q)) hL) (Nat.lt_irrefl _)

/-- where quiet code stands: the program, the written part, the things that are read, a heap that stays -/
structure Qc where
  prog : Program
  w : World
  K : PySem.W.Frag
  mg : Str → Option Value
  H : Hp
  hd : Heap

structure Qc.Ok (c : Qc) : Prop where
  kin : c.K.In c.hd
  glo : c.hd.Ns mainGlobals c.mg
  bui : ∃ mb, c.hd.Ns builtinsNs mb ∧ ∀ x : Str, x ≠ "__name__" → mb x = bootBuiltins x
  lim : c.hd.NoLimit
  hok : HOk c.prog c.w c.H c.hd

/-- the names of a frame -/
abbrev Nm := List (Str × V)
structure At (c : Qc) (env : Env) (N : Nm) (h : Heap) : Prop where
  up : Up c.hd h
  kd : env.scope.kind = .function
  gl : env.globals = mainGlobals
  bl : env.builtins = builtinsNs
  nm : ∃ m, h.Ns env.locals m ∧ ∀ x v, N.lookup x = some v → ∃ u, RelV v u ∧ Look env h m x u
theorem look_up {env : Env} {h g : Heap} {m : Str → Option Value} {x : Str} {u : Value} (k : Up h g) (l : Look env h m x u) : Look env g m x u := by
  rcases l with l | ⟨l, a, e, i⟩
  · exact .inl l
  · exact .inr ⟨l, a, e, i.keeps k⟩
theorem At.more {c : Qc} {env : Env} {N : Nm} {h g : Heap} (a : At c env N h) (k : Up h g) : At c env N g :=
  ⟨a.up.tr k, a.kd, a.gl, a.bl, let ⟨m, n, q⟩ := a.nm; ⟨m, n.keeps k, fun x v e => let ⟨u, r, l⟩ := q x v e; ⟨u, r, look_up k l⟩⟩⟩

structure Rm (k : Nat) (A : Around) : Prop where
  hd : A.handled = none
  dp : A.depth + k < recursionLimit
theorem Rm.mono {j k : Nat} {A : Around} (r : Rm k A) (h : j ≤ k) : Rm j A := ⟨r.hd, by have := r.dp; omega⟩
theorem Rm.deeper {k : Nat} {A : Around} (r : Rm (k + 1) A) (env : Env) : Rm k (A.deeper env) := ⟨r.hd, by have := r.dp; show A.depth + 1 + k < _; omega⟩

section
variable (c : Qc) (k : Nat) (env : Env) (N : Nm)
/-- an expression that gives v and leaves all as it was -/
def QE (e : Expr) (v : V) : Prop := ∀ (A : Around) (E : Value → Shared → Prop) (Q : Value → Shared → Prop) (s : Shared), Rm k A → At c env N s.heap →
  (∀ u g tk, RelV v u → Up s.heap g → Q u { s with heap := g, toks := tk }) → wpAny (model c.prog c.w) A (eval e env) Q E s
/-- a test -/
def QT (e : Expr) (b : Bool) : Prop := ∀ (A : Around) (E : Value → Shared → Prop) (Q : Bool → Shared → Prop) (s : Shared), Rm k A → At c env N s.heap →
  (∀ g tk, Up s.heap g → Q b { s with heap := g, toks := tk }) → wpAny (model c.prog c.w) A (isTrue e env (eval e env)) Q E s
/-- arguments -/
def QA (es : List Expr) (vs : List V) : Prop := ∀ (pos : Pos) (A : Around) (E : Value → Shared → Prop) (Q : List Value → Shared → Prop) (s : Shared), Rm k A → At c env N s.heap →
  (∀ us g tk, Vals vs us → Up s.heap g → Q us { s with heap := g, toks := tk }) → wpAny (model c.prog c.w) A (spliced (backTo pos (starEach es env))) Q E s
/-- a block that returns v -/
def QB (st : List Stmt) (v : V) : Prop := ∀ (A : Around) (E : Value → Shared → Prop) (Q : Flow → Shared → Prop) (s : Shared), Rm k A → At c env N s.heap → c.hd.get? env.locals = none →
  (∀ u g tk, RelV v u → (∀ b o, b ≠ env.locals → s.heap.get? b = some o → g.get? b = some o) → Q (.ret u) { s with heap := g, toks := tk }) → wpAny (model c.prog c.w) A (execs st env) Q E s
end
/-- a def called -/
def QF (c : Qc) (k : Nat) (f : Addr) (fd : FuncData) (ps : List Str) (vs : List V) (v : V) : Prop := ∀ (A : Around) (R : Result → Shared → Prop) (args : Args) (us : List Value) (s : Shared), Rm k A → Up c.hd s.heap → BindsTo s fd args (ps.zip us) → Vals vs us →
  (∀ u g tk, RelV v u → Up s.heap g → R (.ok (.ret u)) { s with heap := g, toks := tk }) → codeAny (model c.prog c.w) A (.call (.ref f) args) R s

section
variable {c : Qc} {k : Nat} {env : Env} {N : Nm} {x : Str} {v : V} {e a b : Expr} {es : List Expr} {pos p : Pos}

theorem q_name (hN : N.lookup x = some v) (hd : (x == ("__debug__" : Str)) = false := by decide) (hcd : (x == ("__classdict__" : Str)) = false := by decide) : QE c k env N (.Name x pos) v := by
  intro A E Q s r i h
  obtain ⟨m, n, q⟩ := i.nm
  obtain ⟨u, ru, l⟩ := q x v hN
  have fin : Q u s := h u s.heap s.toks ru Up.rfl'
  rcases l with ⟨l1, l2⟩ | ⟨l1 | l1, ad, l2, l3⟩
  · exact wpAny_Name (wpAny_loadName_local i.kd l1 n l2 fin) hd
  · exact wpAny_Name (wpAny_loadName_cell i.kd l1 l2 l3 fin) hd
  · exact wpAny_Name (wpAny_loadName_free i.kd l1 l2 l3 fin hcd) hd
theorem q_int {i : Int} {j : Nat} : QE c k env N (.Constant (.int i) j pos) (.int i) := fun A E Q s r _ h =>
  wpAny_Constant_int (h _ s.heap _ ⟨_, rfl⟩ Up.rfl')
theorem q_bool {t : Bool} {j : Nat} : QE c k env N (.Constant (.bool t) j pos) (.bl t) := fun A E Q s r _ h =>
  Constant_bool (h _ s.heap s.toks rfl Up.rfl')
theorem q_none {j : Nat} : QE c k env N (.Constant .none j pos) .non := fun A E Q s r _ h =>
  Constant_none (h _ s.heap s.toks rfl Up.rfl')
/-- a module's own name, a built-in's name -/
theorem q_glob {u : Value} (O : c.Ok) (hg : env.kindOf x = some .globalImplicit) (hm : c.mg x = some u) (r : RelV v u) (hd : (x == ("__debug__" : Str)) = false := by decide) : QE c k env N (.Name x pos) v := fun A E Q s _ i h =>
  Calls.Name_function_global i.kd hg (Calls.loadGlobal_global (by rw [i.gl]; exact O.glo.keeps i.up) hm (h u s.heap s.toks r Up.rfl')) hd
theorem ld_b {A : Around} {E : Value → Shared → Prop} {Q : Value → Shared → Prop} {s : Shared} {u : Value} (O : c.Ok) (i : At c env N s.heap) (hg : env.kindOf x = some .globalImplicit) (hm : c.mg x = none) (hv : bootBuiltins x = some u) (h : Q u s)
    (hn : x ≠ "__name__") (hd : (x == ("__debug__" : Str)) = false) : wpAny (model c.prog c.w) A (eval (.Name x pos) env) Q E s := by
  obtain ⟨mb, n1, n2⟩ := O.bui
  exact Calls.Name_function_global i.kd hg (Calls.loadGlobal_builtin (by rw [i.gl]; exact O.glo.keeps i.up) hm (by rw [i.bl]; exact n1.keeps i.up) ((n2 x hn).trans hv) h) hd
theorem q_blt {u : Value} (O : c.Ok) (hg : env.kindOf x = some .globalImplicit) (hm : c.mg x = none) (hv : bootBuiltins x = some u) (r : RelV v u) (hn : x ≠ "__name__" := by decide) (hd : (x == ("__debug__" : Str)) = false := by decide) :
    QE c k env N (.Name x pos) v := fun A E Q s _ i h => ld_b O i hg hm hv (h u s.heap s.toks r Up.rfl') hn hd

/-! ### arguments, calls -/
theorem qa_nil : QA c k env N [] [] := fun _ _ _ _ s _ _ h => Calls.spliced_nil (h _ s.heap s.toks .nil Up.rfl')
theorem qa_cons {vs : List V} (he : QE c k env N e v) (hs : QA c k env N es vs) (st : starEach (e :: es) env = (false, eval e env) :: starEach es env := by rfl) : QA c k env N (e :: es) (v :: vs) := by
  intro pos A E Q s r i h
  rw [st]
  show wpAny _ A (spliced ((false, eval e env) :: backTo pos (starEach es env))) Q E s
  refine Calls.spliced_cons (he A E _ s r i fun u g tk ru up => ?_)
  exact hs pos A E _ _ r (i.more up) fun us g2 tk2 rus up2 => h (u :: us) g2 tk2 (.cons ru rus) (up.tr up2)

/-- a built-in function that reads -/
def QC (c : Qc) (id : String) (vs : List V) (v : V) : Prop := ∀ (A : Around) (E : Value → Shared → Prop) (Q : Value → Shared → Prop) (us : List Value) (s : Shared), Up c.hd s.heap → Vals vs us →
  (∀ u g tk, RelV v u → Up s.heap g → Q u { s with heap := g, toks := tk }) → wpAny (model c.prog c.w) A (call (.builtin id) us) Q E s
theorem q_callB {id : String} {vs : List V} (O : c.Ok) (hc : QC c id vs v) (hg : env.kindOf x = some .globalImplicit) (hm : c.mg x = none) (hv : bootBuiltins x = some (.builtin id)) (ha : QA c k env N (e :: es) vs)
    (hn : x ≠ "__name__" := by decide) (hd : (x == ("__debug__" : Str)) = false := by decide) (st : starEach (e :: es) env = (false, eval e env) :: starEach es env := by rfl) (hpl : (backTo pos (starEach es env)).any (·.1) = false := by rfl) :
    QE c k env N (.Call (.Name x p) (e :: es) [] pos) v := by
  intro A E Q s r i h
  refine wpAny_Call_Name_kw (ld_b O i hg hm hv ?_ hn hd)
  refine PyProof.Rows.callWith_builtin1 (ha pos A E _ s r i fun us g tk rus up => ?_) st hpl
  exact hc A E Q us _ (i.up.tr up) rus fun u g2 tk2 ru up2 => h u g2 tk2 ru (up.tr up2)
theorem q_call {f : Addr} {fd : FuncData} {ps : List Str} {vs : List V} (O : c.Ok) (F : QF c k f fd ps vs v) (hbd : Binds c.K fd ps []) (hl : vs.length = ps.length) (hg : env.kindOf x = some .globalImplicit) (hm : c.mg x = some (.ref f)) (hk : PySem.W.keepIn c.K (.ref f) = true) (ha : QA c k env N (e :: es) vs)
    (hd : (x == ("__debug__" : Str)) = false := by decide) (st : starEach (e :: es) env = (false, eval e env) :: starEach es env := by rfl) (hpl : (backTo pos (starEach es env)).any (·.1) = false := by rfl) :
    QE c k env N (.Call (.Name x p) (e :: es) [] pos) v := by
  intro A E Q s r i h
  refine wpAny_Call_Name_kw (Calls.Name_function_global i.kd hg (Calls.loadGlobal_global (by rw [i.gl]; exact O.glo.keeps i.up) hm ?_) hd)
  refine PySem.W.callWith_K (h₀ := c.hd) O.kin hk (ha pos A E _ s r i fun us g tk rus up => ⟨O.kin.keeps (i.up.tr up), ?_⟩) st hpl
  refine wpAny_call (F A _ ⟨us, []⟩ us _ r (i.up.tr up) (by simpa using hbd _ us (O.kin.keeps (i.up.tr up)) (by simpa [rus.length] using hl)) rus fun u g2 tk2 ru up2 => ?_)
  exact h u g2 tk2 ru (up.tr up2)

/-! ### and, or, not, comparisons -/
theorem q_andF {rest : List Expr} (ha : QE c k env N a (.bl false)) : QE c k env N (.BoolOp .And (a :: b :: rest) pos) (.bl false) := by
  intro A E Q s r i h
  refine BoolOp_and (ha A E _ s r i fun u g tk ru up => ?_)
  cases ru
  exact wpAny_truthy_bool (h _ g tk rfl up)
theorem q_andT {rest : List Expr} (ha : QE c k env N a (.bl true)) (hb : QE c k env N (.BoolOp .And (b :: rest) p) v) : QE c k env N (.BoolOp .And (a :: b :: rest) p) v := by
  intro A E Q s r i h
  refine BoolOp_and (ha A E _ s r i fun u g tk ru up => ?_)
  cases ru
  exact wpAny_truthy_bool (hb A E Q _ r (i.more up) fun u2 g2 tk2 r2 up2 => h u2 g2 tk2 r2 (up.tr up2))
theorem q_orT {rest : List Expr} (ha : QE c k env N a (.bl true)) : QE c k env N (.BoolOp .Or (a :: b :: rest) pos) (.bl true) := by
  intro A E Q s r i h
  refine BoolOp_or (ha A E _ s r i fun u g tk ru up => ?_)
  cases ru
  exact wpAny_truthy_bool (h _ g tk rfl up)
theorem q_orF {rest : List Expr} (ha : QE c k env N a (.bl false)) (hb : QE c k env N (.BoolOp .Or (b :: rest) p) v) : QE c k env N (.BoolOp .Or (a :: b :: rest) p) v := by
  intro A E Q s r i h
  refine BoolOp_or (ha A E _ s r i fun u g tk ru up => ?_)
  cases ru
  exact wpAny_truthy_bool (hb A E Q _ r (i.more up) fun u2 g2 tk2 r2 up2 => h u2 g2 tk2 r2 (up.tr up2))
theorem q_one {op : BoolOp} (ha : QE c k env N a v) : QE c k env N (.BoolOp op [a] pos) v := fun A E Q s r i h => BoolOp_one (ha A E Q s r i h)
theorem q_and2 {p1 p2 : Bool} (ha : QE c k env N a (.bl p1)) (hb : p1 = true → QE c k env N b (.bl p2)) : QE c k env N (.BoolOp .And [a, b] pos) (.bl (p1 && p2)) := by
  cases p1 with
  | false => exact q_andF ha
  | true => exact q_andT ha (q_one (hb rfl))
theorem q_or2 {p1 p2 : Bool} (ha : QE c k env N a (.bl p1)) (hb : p1 = false → QE c k env N b (.bl p2)) : QE c k env N (.BoolOp .Or [a, b] pos) (.bl (p1 || p2)) := by
  cases p1 with
  | true => exact q_orT ha
  | false => exact q_orF ha (q_one (hb rfl))
theorem q_not {t : Bool} (ha : QE c k env N a (.bl t)) : QE c k env N (.UnaryOp .Not a pos) (.bl (!t)) := by
  intro A E Q s r i h
  refine UnaryOp_ (ha A E _ s r i fun u g tk ru up => ?_)
  cases ru
  exact PyProof.Rows.not_of (wpAny_truthy_bool (h _ g tk rfl up))
/-- an operator on two ints -/
def QO (c : Qc) (op : CmpOp) (p : Int → Int → Bool) : Prop := ∀ (A : Around) (E : Value → Shared → Prop) (Q : Value → Shared → Prop) (i j : Int) (t u : Tok) (s : Shared), Q (.bool (p i j)) s → wpAny (model c.prog c.w) A (compareOp op (.int i t) (.int j u)) Q E s
theorem qo_lt : QO c .Lt fun i j => decide (i < j) := fun A E Q i j t u s h => PyProof.Rows.lt_int h
theorem qo_le : QO c .LtE fun i j => decide (i ≤ j) := fun A E Q i j t u s h => PyProof.Rows.le_int h
theorem qo_gt : QO c .Gt fun i j => decide (j < i) := fun A E Q i j t u s h => PyProof.Rows.gt_int h
theorem qo_ge : QO c .GtE fun i j => decide (j ≤ i) := fun A E Q i j t u s h => PyProof.Rows.ge_int h
theorem qo_eq : QO c .Eq fun i j => i == j := fun A E Q i j t u s h => PyProof.Rows.eq_int h
theorem q_cmp {op : CmpOp} {pr : Int → Int → Bool} {i j : Int} (ho : QO c op pr) (ha : QE c k env N a (.int i)) (hb : QE c k env N b (.int j)) (hm : behindInMarks op b = false) : QE c k env N (.Compare a [op] [b] pos) (.bl (pr i j)) := by
  intro A E Q s r i0 h
  refine wpAny_Compare1 (ha A E _ s r i0 fun u g tk ru up => hb A E _ _ r (i0.more up) fun u2 g2 tk2 r2 up2 => ?_) hm
  obtain ⟨t1, rfl⟩ := ru
  obtain ⟨t2, rfl⟩ := r2
  exact ho A E Q i j t1 t2 _ (h _ g2 tk2 rfl (up.tr up2))
theorem q_isN (ha : QE c k env N a v) {j : Nat} {p2 : Pos} : QE c k env N (.Compare a [.Is] [.Constant .none j p2] pos) (.bl (decide (v = .non))) := by
  intro A E Q s r i0 h
  refine wpAny_Compare1 (ha A E _ s r i0 fun u g tk ru up => Constant_none (PyProof.Rows.is_none_gen ?_)) rfl
  refine h _ g tk ?_ up
  show Value.bool (u == .none) = Value.bool (decide (v = .non))
  cases v <;> first
    | (cases ru; rfl)
    | (obtain ⟨t, rfl⟩ := ru; rfl)
/-- a < b < c on ints -/
theorem q_chain {op op' : CmpOp} {pr pr' : Int → Int → Bool} {i j m : Int} {d : Expr} (ho : QO c op pr) (ho' : QO c op' pr') (ha : QE c k env N a (.int i)) (hb : QE c k env N b (.int j)) (hd : QE c k env N d (.int m))
    (hm : lastMarks [op, op'] [b, d] = false := by with_unfolding_all rfl) : QE c k env N (.Compare a [op, op'] [b, d] pos) (.bl (pr i j && pr' j m)) := by
  intro A E Q s r i0 h
  refine Compare_chain (ha A E _ s r i0 fun u g tk ru up => chain_link (hb A E _ _ r (i0.more up) fun u2 g2 tk2 r2 up2 => ?_)) hm
  obtain ⟨t1, rfl⟩ := ru
  obtain ⟨t2, rfl⟩ := r2
  refine ho A E _ i j t1 t2 _ (wpAny_truthy_bool ?_)
  cases q : pr i j with
  | false =>
    rw [q] at h
    exact ite_ff (h _ g2 tk2 rfl (up.tr up2))
  | true =>
    rw [q] at h
    refine ite_tt (chain_last (hd A E _ _ r (i0.more (up.tr up2)) fun u3 g3 tk3 r3 up3 => ?_))
    obtain ⟨t3, rfl⟩ := r3
    refine ho' A E Q j m t2 t3 _ ?_
    have := h (.bool (pr' j m)) g3 tk3 rfl ((up.tr up2).tr up3)
    exact this

/-! ### tests -/
theorem qt_val {t : Bool} (ha : QE c k env N a (.bl t)) (he : ∀ whole, isTrue a env whole = (do let v ← whole; standAt a.pos; holding [v] (truthy v)) := by intro _; rfl) : QT c k env N a t := by
  intro A E Q s r i h
  refine isTrue_plain (ha A E _ s r i fun u g tk ru up => ?_) (he _)
  cases ru
  exact wpAny_truthy_bool (h g tk up)
theorem qt_cmp {op : CmpOp} {pr : Int → Int → Bool} {i j : Int} (ho : QO c op pr) (ha : QE c k env N a (.int i)) (hb : QE c k env N b (.int j)) (hm : behindInMarks op b = false) : QT c k env N (.Compare a [op] [b] pos) (pr i j) := by
  intro A E Q s r i0 h
  refine wpAny_isTrue_Compare1 (ha A E _ s r i0 fun u g tk ru up => hb A E _ _ r (i0.more up) fun u2 g2 tk2 r2 up2 => ?_) hm
  obtain ⟨t1, rfl⟩ := ru
  obtain ⟨t2, rfl⟩ := r2
  exact ho A E _ i j t1 t2 _ (wpAny_truthy_bool (h g2 tk2 (up.tr up2)))
theorem qt_not {t : Bool} (ha : QT c k env N a t) : QT c k env N (.UnaryOp .Not a pos) (!t) := fun A E Q s r i h =>
  isTrue_not (ha A E _ s r i fun g tk up => h g tk up)
theorem qt_orT {rest : List Expr} (ha : QT c k env N a true) : QT c k env N (.BoolOp .Or (a :: rest) pos) true := fun A E Q s r i h =>
  isTrue_or (ha A E _ s r i fun g tk up => ite_tt (h g tk up))
theorem qt_or2 {t : Bool} (ha : QT c k env N a false) (hb : QT c k env N b t) : QT c k env N (.BoolOp .Or [a, b] pos) t := fun A E Q s r i h => by
  refine isTrue_or (ha A E _ s r i fun g tk up => ite_ff ?_)
  refine isTrue_or (hb A E _ _ r (i.more up) fun g2 tk2 up2 => ?_)
  cases t with
  | true => exact ite_tt (h g2 tk2 (up.tr up2))
  | false => exact ite_ff (isTrue_or_nil (h g2 tk2 (up.tr up2)))
theorem qt_andF {rest : List Expr} (ha : QT c k env N a false) : QT c k env N (.BoolOp .And (a :: rest) pos) false := fun A E Q s r i h =>
  isTrue_and (ha A E _ s r i fun g tk up => ite_ff (h g tk up))
theorem qt_and2 {t : Bool} (ha : QT c k env N a true) (hb : QT c k env N b t) : QT c k env N (.BoolOp .And [a, b] pos) t := fun A E Q s r i h => by
  refine isTrue_and (ha A E _ s r i fun g tk up => ite_tt ?_)
  refine isTrue_and (hb A E _ _ r (i.more up) fun g2 tk2 up2 => ?_)
  cases t with
  | true => exact ite_tt (isTrue_and_nil (h g2 tk2 (up.tr up2)))
  | false => exact ite_ff (h g2 tk2 (up.tr up2))

/-! ### blocks -/
theorem qb_ret {rest : List Stmt} (he : QE c k env N e v) : QB c k env N (.Return (some e) pos :: rest) v := by
  intro A E Q s r i _ h
  refine wpAny_execs_cons (wpAny_Return_some (he A E _ s r i fun u g tk ru up => ?_))
  exact h u g tk ru fun b o _ q => up b o q
theorem qb_ifT {body orelse rest : List Stmt} (ht : QT c k env N e true) (hb : QB c k env N body v) : QB c k env N (.If e body orelse pos :: rest) v := by
  intro A E Q s r i hL h
  refine wpAny_execs_cons (wpAny_If (ht A E _ s r i fun g tk up => ite_tt ?_))
  refine hb A E _ _ r (i.more up) hL fun u g2 tk2 ru k2 => ?_
  exact h u g2 tk2 ru fun b o nb q => k2 b o nb (up b o q)
theorem qb_ifF {body rest : List Stmt} (ht : QT c k env N e false) (hb : QB c k env N rest v) : QB c k env N (.If e body [] pos :: rest) v := by
  intro A E Q s r i hL h
  refine wpAny_execs_cons (wpAny_If (ht A E _ s r i fun g tk up => ite_ff (wpAny_execs_nil ?_)))
  refine hb A E _ _ r (i.more up) hL fun u g2 tk2 ru k2 => ?_
  exact h u g2 tk2 ru fun b o nb q => k2 b o nb (up b o q)
end
end Qt

namespace Qt
open PySem PySem.Spec PyProof.Rows L2

/-! ### kinds, sizes -/
/-- the class of a thing that is read -/
inductive Knd (c : Qc) : V → String → Prop where
  | non : Knd c .non "NoneType"
  | bl (b : Bool) : Knd c (.bl b) "bool"
  | int (i : Int) : Knd c (.int i) "int"
  | str (z : Str) : Knd c (.str z) "str"
  | lst {a : Addr} (h : PySem.W.KitAt a "list" c.hd) : Knd c (.ref a) "list"
  | tup {a : Addr} (h : PySem.W.KitAt a "tuple" c.hd) : Knd c (.ref a) "tuple"
  | dic {a : Addr} (h : PySem.W.KitAt a "dict" c.hd) : Knd c (.ref a) "dict"
theorem kitAt_up {a : Addr} {T : String} {h g : Heap} (k : Up h g) (x : PySem.W.KitAt a T h) : PySem.W.KitAt a T g :=
  let ⟨o, e, q⟩ := x; ⟨o, k _ _ e, q⟩
theorem qc_isi {c : Qc} {x : V} {T C : String} {b : Bool} (O : c.Ok) (ky : Knd c x T) (e : PySem.W.kitOne c.K (.type T) (.type C) = some b) : QC c "isinstance" [x, .ty C] (.bl b) := by
  intro A E Q us s up r h
  cases r with
  | @cons _ u1 _ _ r1 r' =>
    cases r' with
    | @cons _ u2 _ _ r2 r'' =>
      cases r''
      obtain rfl : u2 = Value.type C := r2
      have fin : ∀ tk, Q (.bool b) { s with toks := tk } := fun tk => h _ s.heap tk rfl Up.rfl'
      have kin := O.kin.keeps up
      cases ky with
      | non => cases r1; exact PySem.W.kia_one PySem.W.kitx_none kin trivial e (fun z => by cases z) fin
      | bl y => cases r1; exact PySem.W.kia_one PySem.W.kitx_bool kin trivial e (fun z => by cases z) fin
      | int i => obtain ⟨t, rfl⟩ := r1; exact PySem.W.kia_one PySem.W.kitx_int kin trivial e (fun z => by cases z) fin
      | str z => obtain ⟨t, rfl⟩ := r1; exact PySem.W.kia_one PySem.W.kitx_str kin trivial e (fun z => by cases z) fin
      | lst p => cases r1; exact PySem.W.kia_one PySem.W.kitx_list kin (kitAt_up up p) e (fun z => by cases z) fin
      | tup p => cases r1; exact PySem.W.kia_one PySem.W.kitx_tuple kin (kitAt_up up p) e (fun z => by cases z) fin
      | dic p => cases r1; exact PySem.W.kia_one PySem.W.kitx_dict kin (kitAt_up up p) e (fun z => by cases z) fin
/-- a tuple that is read -/
def TupQ (c : Qc) (a : Addr) (xs : List V) : Prop := ∃ its : List Value, Vals xs its ∧ IsTup c.hd a its.toArray ∧ xs.length ≤ sizeLine
theorem TupQ.kit {c : Qc} {a : Addr} {xs : List V} (t : TupQ c a xs) : Knd c (.ref a) "tuple" := by
  obtain ⟨its, _, ⟨o, e, q, _⟩, _⟩ := t
  exact .tup ⟨o, e, q⟩
theorem isTup_up {h g : Heap} {a : Addr} {vs : Array Value} (k : Up h g) (t : IsTup h a vs) : IsTup g a vs :=
  let ⟨o, e, q⟩ := t; ⟨o, k _ _ e, q⟩
theorem qc_lenT {c : Qc} {a : Addr} {xs : List V} (t : TupQ c a xs) : QC c "len" [.ref a] (.int xs.length) := by
  intro A E Q us s up r h
  obtain ⟨its, rv, ht, hz⟩ := t
  cases r with
  | @cons _ u1 _ _ r1 r' =>
    cases r'
    obtain rfl : u1 = Value.ref a := r1
    have hl := rv.length
    have h63 := line63
    refine PyProof.Rows.len_tuple (isTup_up up ht) (by simp only [List.size_toArray]; omega) ?_
    exact h _ s.heap _ ⟨_, by rw [List.size_toArray, hl]⟩ Up.rfl'
/-! ### a, b = t -/
theorem qb_two {c : Qc} {k : Nat} {env : Env} {N : Nm} {x y : Str} {a : Addr} {v1 v2 v : V} {e : Expr} {rest : List Stmt} {pos p1 p2 p3 : Pos} {kt : Nat} (he : QE c k env N e (.ref a)) (ht : TupQ c a [v1, v2]) (hx : env.kindOf x = some .local) (hy : env.kindOf y = some .local)
    (hN : ∀ z, N.lookup z ≠ none → env.kindOf z = some .local) (hb : QB c k env ((y, v2) :: (x, v1) :: N) rest v)
    (hs : swapsWithSole [.Tuple [.Name x p1, .Name y p2] kt p3] e pos.line env = pure false := by rfl) (hw : swappedStores [.Tuple [.Name x p1, .Name y p2] kt p3] e env = pure none := by rfl)
    (h1 : (assignEach [.Tuple [.Name x p1, .Name y p2] kt p3] env).map (·.2) = [assign (.Tuple [.Name x p1, .Name y p2] kt p3) env] := by rfl)
    (h2 : (assignEach [.Name x p1, .Name y p2] env).map (·.2) = [assign (.Name x p1) env, assign (.Name y p2) env] := by rfl)
    (hn : (assignEach [.Name x p1, .Name y p2] env).length = 2 := by rfl) (hst : (assignEach [.Name x p1, .Name y p2] env).findIdx? (·.1) = none := by rfl) :
    QB c k env N (.Assign [.Tuple [.Name x p1, .Name y p2] kt p3] e pos :: rest) v := by
  intro A E Q s r i hL h
  obtain ⟨its, rv, ht, hz⟩ := ht
  obtain ⟨w1, w2, rfl, r1, r2⟩ := vals2 rv
  have hpl : (env.scope.kind == .class || (env.scope.kind == .module && env.locals != env.globals)) = false := by rw [i.kd]; rfl
  refine wpAny_execs_cons (wpAny_Assign_stores (he A E _ s r i fun u g tk ru up => ?_) hs hw)
  obtain rfl : u = Value.ref a := ru
  have i1 := i.more up
  rw [h1]
  show wpAny _ A (assign (.Tuple [.Name x p1, .Name y p2] kt p3) env (.ref a)) _ _ _
  refine assign_Tuple_tuple r.hd (isTup_up i1.up ht) (by rw [hn]; rfl) hst fun g1 hx1 => ?_
  rw [h2]
  have up1 : Up g g1 := fun b o q => hx1 b o (Nat.ne_of_lt (Heap.lt_size q)) q
  have i2 := i1.more up1
  obtain ⟨m, n, q⟩ := i2.nm
  refine assignInOrder_cons (wpAny_assign_Name (wpAny_storeName_local hx n (fun g2 n2 sb2 => ?_) hpl))
  refine assignInOrder_cons (wpAny_assign_Name (wpAny_storeName_local hy n2 (fun g3 n3 sb3 => assignInOrder_nil ?_) hpl))
  have k13 : ∀ b o, b ≠ env.locals → g1.get? b = some o → g3.get? b = some o := fun b o nb q => sb3.extBut b o nb (sb2.extBut b o nb q)
  have nL : ∀ b o, c.hd.get? b = some o → b ≠ env.locals := fun b o q z => by
    rw [z, hL] at q
    cases q
  have i3 : At c env ((y, v2) :: (x, v1) :: N) g3 := by
    refine ⟨fun b o q => k13 b o (nL b o q) (i2.up b o q), i.kd, i.gl, i.bl, _, n3, fun z vz hz2 => ?_⟩
    by_cases ez : z = y
    · subst ez
      have e2 : v2 = vz := by simpa [List.lookup] using hz2
      exact ⟨w2, e2 ▸ r2, .inl ⟨hy, if_pos rfl⟩⟩
    · have ez' : (z == y) = false := by simpa using ez
      by_cases ex : z = x
      · subst ex
        have e2 : v1 = vz := by simpa [List.lookup, ez'] using hz2
        exact ⟨w1, e2 ▸ r1, .inl ⟨hx, by show (if z = y then _ else (if z = z then _ else _)) = _; rw [if_neg ez, if_pos rfl]⟩⟩
      · have ex' : (z == x) = false := by simpa using ex
        have e2 : N.lookup z = some vz := by simpa [List.lookup, ez', ex'] using hz2
        obtain ⟨u, ru, l⟩ := q z vz e2
        refine ⟨u, ru, .inl ?_⟩
        rcases l with ⟨l1, l2⟩ | ⟨l1, _⟩
        · exact ⟨l1, by show (if z = y then _ else (if z = x then _ else m z)) = _; rw [if_neg ez, if_neg ex]; exact l2⟩
        · have l3 := hN z (by rw [e2]; simp)
          rw [l3] at l1
          rcases l1 with l1 | l1 <;> cases l1
  refine hb A E Q _ r i3 hL fun u g4 tk4 ru k4 => ?_
  exact h u g4 tk4 ru fun b o nb q => k4 b o nb (k13 b o nb (up1 b o (up b o q)))

/-! ### a def entered -/
theorem zip_look {α : Type} {x : Str} {v : α} : ∀ {ps : List Str} {vs : List α}, (ps.zip vs).lookup x = some v → ∃ i : Nat, ps[i]? = some x ∧ vs[i]? = some v
  | [], _, h => by simp [List.lookup] at h
  | _ :: _, [], h => by simp [List.lookup] at h
  | p :: ps, w :: vs, h => by
    by_cases e : x = p
    · subst e
      refine ⟨0, rfl, ?_⟩
      simpa [List.lookup] using h
    · have e' : (x == p) = false := by simpa using e
      have h2 : (ps.zip vs).lookup x = some v := by simpa [List.lookup, e'] using h
      obtain ⟨i, h3, h4⟩ := zip_look h2
      exact ⟨i + 1, h3, h4⟩
theorem q_fun {c : Qc} {k : Nat} {x qual : Str} {st : Stmt} {f : Addr} {fd : FuncData} {N0 ps : List Str} {vs : List V} {v : V} (O : c.Ok) (F : Fun c.K x qual st f fd) (S : FnScope N0 ps (defScope st))
    (loc : ∀ p ∈ ps, (defScope st).names.lookup p = some .local) (hl : vs.length = ps.length) (body : ∀ (L : Addr) (cdv : Value), QB c k (envOfC qual (defScope st) L f cdv) (ps.zip vs) (defBody st) v) : QF c (k + 1) f fd ps vs v := by
  intro A R args us s r up bt rv h
  obtain ⟨oc, od, kV, doc, pm, an, cdv, ct, osl, e, lk, hcd⟩ := F.ex
  have kin := O.kin.keeps up
  have ndP : ps.Nodup := by rw [← S.pre]; exact S.nd.sublist (List.take_sublist _ _)
  rw [e] at bt lk
  refine Att.call_fn (binds := ps.zip us) kin (O.lim.keeps up) lk hcd (by have := r.dp; omega) bt ?_ (fun s1 IC => ?_) S.co S.gen S.kind
  · rw [List.all_eq_true]
    intro y hy
    have q := loc y.1 (List.of_mem_zip hy).1
    rw [q]
    rfl
  · obtain ⟨g, tk, rfl, hk⟩ := IC.done
    have hL : c.hd.get? s.heap.objs.size = none := up_lt up (Nat.le_refl _)
    have i : At c (envOfC qual (defScope st) s.heap.objs.size f cdv) (ps.zip vs) g := by
      refine ⟨up.tr hk, S.kind, rfl, rfl, _, IC.toInCall.ns, fun z vz hz => ?_⟩
      obtain ⟨j, h3, h4⟩ := zip_look hz
      obtain ⟨u, h5, h6⟩ := rv.get h4
      have kz := loc z (List.mem_of_getElem? h3)
      exact ⟨u, h6, .inl ⟨kz, bindL_get ndP h3 h5 kz⟩⟩
    refine body s.heap.objs.size cdv _ _ _ _ (r.deeper _) i hL fun u g2 tk2 ru k2 => ?_
    refine h u g2 tk2 ru fun b o q => k2 b o (Nat.ne_of_lt (Heap.lt_size q)) (hk b o q)
/-- a quiet def, called as any other -/
theorem fn_ofQ {P : Program} {w : World} {K : PySem.W.Frag} {mg : Str → Option Value} {base : Heap} {CX : CXT} {k : Nat} {f : Addr} {fd : FuncData} {ps : List Str} {sp : Sp} (len : ∀ vs H Q E, sp vs H Q E → vs.length = ps.length)
    (h : ∀ vs H Q E, sp vs H Q E → ∃ v, Q v H ∧ ∀ hd, (Qc.mk P w K mg H hd).Ok → QF ⟨P, w, K, mg, H, hd⟩ (3 * k) f fd ps vs v) : FnOk P w K mg base CX k f fd ps sp := by
  refine ⟨len, fun A outer s H args us vs Q E rm e0 bt rv hs => ?_⟩
  obtain ⟨v, q, hQ⟩ := h vs H Q E hs
  have up0 : ∀ b o, base.get? b = some o → s.heap.get? b = some o := fun b o e => (e0.bs b o e).1
  have OK : (Qc.mk P w K mg H s.heap).Ok := ⟨e0.mod.kin.keeps up0, e0.mod.glob.keeps up0, let ⟨mb, q1, q2⟩ := e0.mod.blt; ⟨mb, q1.keeps up0, q2⟩, e0.mod.nolimit.keeps up0, e0.hok⟩
  have hd := rm.dp
  refine hQ s.heap OK A _ args us s ⟨rm.hd, by omega⟩ Up.rfl' bt rv fun u g tk ru up => ?_
  exact ⟨v, H, rfl, e0.bare, Un.kept up, e0.hok.kept up, ru, q⟩
end Qt

namespace Qt
open PySem PySem.Spec PyProof.Rows L2

/-- what is held, the tables of code left out -/
def wipe (H : Hp) (P : Addr) : Hp := fun a => if a = P then none else H a
theorem wipe_of {H : Hp} {P a : Addr} {o : HO} (h : wipe H P a = some o) : a ≠ P ∧ H a = some o := by
  unfold wipe at h
  by_cases e : a = P
  · rw [if_pos e] at h
    cases h
  · rw [if_neg e] at h
    exact ⟨e, h⟩
theorem wipe_at {H : Hp} {P a : Addr} {o : HO} (e : a ≠ P) (h : H a = some o) : wipe H P a = some o := by
  unfold wipe
  rw [if_neg e]
  exact h
/-- a thing that a generator goes over: a tuple or a list, of the values its -/
structure Src (pr : Program) (w : World) (h1 : Heap) (ad : Addr) (its : Array Value) (o : Obj) (St : Addr → Nat → Heap → Prop) : Prop where
  lt : ad < h1.objs.size
  iter : ∀ (A : Around) (E Q : Value → Shared → Prop) (s : Shared), s.heap = h1 → Q (.ref h1.objs.size) { s with heap := h1.push o } → wpAny (model pr w) A (pyIter (.ref ad)) Q E s
  walks : ∀ (A : Around) (I : Addr), A.handled = none → ad ≠ I → Walks pr w A I [I, ad] [I] its.size (fun i v => its[i]? = some v) (St I)
  st0 : ∀ g : Heap, (∀ b u, (b = ad ∨ b = h1.objs.size) → (h1.push o).get? b = some u → g.get? b = some u) → St h1.objs.size 0 g
theorem src_list {pr : Program} {w : World} {h1 : Heap} {ad : Addr} {its : Array Value} (hl : h1.IsList ad its) :
    Src pr w h1 ad its { cls := .type "list_iterator", data := .fields #[.ref ad, .int 0 0] } (fun I i h => h.IsListIter I ad i ∧ h.IsList ad its) where
  lt := by
    obtain ⟨_, e, _⟩ := id hl
    exact Heap.lt_size e
  iter := fun A E Q s es h => by
    subst es
    exact wpAny_pyIter_list hl h
  walks := fun A I hh ne => Walks.list hh I ad ne its
  st0 := fun g k => ⟨⟨_, k _ _ (.inr rfl) (Heap.get?_push_size _ rfl), rfl, rfl⟩, by
    obtain ⟨ob, e, r⟩ := id hl
    exact ⟨ob, k _ _ (.inl rfl) (Heap.get?_push_of_some _ e), r⟩⟩
theorem src_tup {pr : Program} {w : World} {h1 : Heap} {ad : Addr} {its : Array Value} (hl : IsTup h1 ad its) :
    Src pr w h1 ad its { cls := .type "tuple_iterator", data := .fields #[.ref ad, .int 0 0] } (fun I i h => h.IsTupleIter I ad i ∧ h.IsTuple ad its) where
  lt := by
    obtain ⟨_, e, _⟩ := id hl
    exact Heap.lt_size e
  iter := fun A E Q s es h => by
    subst es
    exact wpAny_pyIter_tuple hl h
  walks := fun A I hh ne => Walks.tuple hh I ad ne its
  st0 := fun g k => ⟨⟨_, k _ _ (.inr rfl) (Heap.get?_push_size _ rfl), rfl, rfl⟩, by
    obtain ⟨ob, e, r⟩ := id hl
    exact ⟨ob, k _ _ (.inl rfl) (Heap.get?_push_of_some _ e), r⟩⟩

section
variable {X : Cx} {pins : List (Addr × Obj)} {σ : L2.St} {H : Hp} {s : Shared}
theorem seq_src (I : Inv X pins σ H s) {ad : Addr} {xs : List V} (h : SqT X.K H ad xs ∨ SqL X.K H ad xs) :
    ∃ (its : List Value) (o : Obj) (St : Addr → Nat → Heap → Prop), Vals xs its ∧ Src X.prog X.w s.heap ad its.toArray o St ∧ (∀ ps, o.data ≠ .fields ps ∨ o.cls ≠ .none) := by
  rcases h with h | h
  · obtain ⟨its, rv, ht, _⟩ := I.tuple h
    exact ⟨its, _, _, rv, src_tup ht, fun ps => .inr fun z => by cases z⟩
  · obtain ⟨its, rv, hl, _⟩ := I.list h
    exact ⟨its, _, _, rv, src_list hl.isList, fun ps => .inr fun z => by cases z⟩

/-- what the element of a generator expression is, for the item xv: a truth -/
def Elt (X : Cx) (kk : Nat) (scope : Scope) (x : Str) (elt : Expr) (caps : Nm) (Hw : Hp) (xs : List V) (bs : List Bool) : Prop :=
  bs.length = xs.length ∧ ∀ (hd : Heap) (env : Env), (Qc.mk X.prog X.w X.K X.mg Hw hd).Ok → env.scope = scope → ∀ (j : Nat) (xv : V) (b : Bool), xs[j]? = some xv → bs[j]? = some b → QE ⟨X.prog, X.w, X.K, X.mg, Hw, hd⟩ kk env ((x, xv) :: caps) elt (.bl b)
/-- the captured names' values -/
def Caps (X : Cx) (scope : Scope) (x : Str) (σ : L2.St) (caps : Nm) : Prop := ∀ y v, caps.lookup y = some v → y ≠ x ∧ (y, NameKind.free) ∈ scope.names ∧ scope.names.lookup y = some .free ∧ ∃ i : Nat, X.N[i]? = some y ∧ σ[i]? = some (some v) ∧ X.env.scope.names.lookup y = some .cell

/-- the truth at place j -/
def trB (bs : List Bool) (j : Nat) : Bool := bs.getD j false
theorem trB_some {bs : List Bool} {j : Nat} {b : Bool} (h : bs[j]? = some b) : trB bs j = b := by
  unfold trB
  rw [List.getD_eq_getElem?_getD, h]
  rfl
theorem trB_all (bs : List Bool) : (List.range bs.length).all (trB bs) = bs.all id := by
  rw [Bool.eq_iff_iff, List.all_eq_true, List.all_eq_true]
  refine ⟨fun h b hb => ?_, fun h j hj => ?_⟩
  · obtain ⟨j, hj, e⟩ := List.getElem_of_mem hb
    have q := h j (List.mem_range.mpr hj)
    rwa [trB_some (List.getElem?_eq_getElem hj), e] at q
  · have hj' := List.mem_range.mp hj
    rw [trB_some (List.getElem?_eq_getElem hj')]
    exact h _ (List.getElem_mem hj')
theorem trB_any (bs : List Bool) : (List.range bs.length).any (trB bs) = bs.any id := by
  rw [Bool.eq_iff_iff, List.any_eq_true, List.any_eq_true]
  refine ⟨fun ⟨j, hj, h⟩ => ?_, fun ⟨b, hb, h⟩ => ?_⟩
  · have hj' := List.mem_range.mp hj
    rw [trB_some (List.getElem?_eq_getElem hj')] at h
    exact ⟨_, List.getElem_mem hj', h⟩
  · obtain ⟨j, hj, e⟩ := List.getElem_of_mem hb
    exact ⟨j, List.mem_range.mpr hj, by rw [trB_some (List.getElem?_eq_getElem hj), e]; exact h⟩

/-- the generator g is made, to be gone through -/
def Made (X : Cx) (pins : List (Addr × Obj)) (σ : L2.St) (H1 : Hp) (P : Addr) (xs : List V) (bs : List Bool) (g : Addr) (s5 : Shared) : Prop :=
  ∃ (fp wr : List Addr) (G : Array GenState → Array GenState → Prop) (F : Nat → Value → Prop) (St : Nat → Shared → Prop),
    WalksS X.prog X.w X.A.in1 g fp wr G bs.length F St ∧ St 0 s5 ∧ TruthOf X.prog X.w X.A.in1 F (trB bs) ∧ ∀ s', Moved wr G s5 s' → ∃ H2, GxR.Tabbed P H1 H2 ∧ Inv X pins σ H2 s'

theorem gen_made {c P : Addr} {elt iter : Expr} {x : Str} {px gpos : Pos} {scope : Scope} {te : TE} {k : Nat} {Z : Value → Shared → Prop} {R : List V → List Bool → Hp → Prop}
    (rm : Room (k + 2) X.A) (TB : GxR.TabB X.base X.mg c P) (hcode : X.env.code = .ref c) (GS : GxR.GenS X.env scope x) (hi : PE X iter te)
    (hs : ∀ v, genFold iter X.env v = pure v) (I : Inv X pins σ H s)
    (h : te σ H fun v H1 => ∃ (ad : Addr) (xs : List V) (bs : List Bool) (caps : Nm), v = .ref ad ∧ (SqT X.K H1 ad xs ∨ SqL X.K H1 ad xs) ∧ GxR.TabG H1 P ∧ Caps X scope x σ caps ∧ Elt X (3 * k) scope x elt caps (wipe H1 P) xs bs ∧ R xs bs H1)
    (hZ : ∀ xs bs H1 g s5, R xs bs H1 → Made X pins σ H1 P xs bs g s5 → Z (.ref g) s5) :
    wpAny (model X.prog X.w) X.A (eval (.GeneratorExp elt [⟨.Name x px, iter, [], 0⟩] scope gpos) X.env) Z X.xe s := by
  have hdp := rm.dp
  refine wpAny_GeneratorExp_walksQD rm.hd GS.co (closure_ok GS.free) GS.cell GS.dot GS.loc GS.kind rm.depth ?_ hs
  refine thn (hi.run pins s σ H _ I h) fun xv s1 hx => ?_
  obtain ⟨v, H1, I1, r1, ad, xs, bs, caps, ev, hsq, ⟨ps, hP, htr⟩, hcap, hel, hR⟩ := hx
  subst ev
  obtain rfl : xv = Value.ref ad := r1
  obtain ⟨its, o, St, rv, S, hno⟩ := seq_src I1 hsq
  have hlen : its.length = xs.length := rv.length.symm
  have hPs : s1.heap.get? P = some { cls := .none, data := .fields ps } := I1.hok P _ hP
  have hPlt : P < s1.heap.objs.size := Heap.lt_size hPs
  have adP : ad ≠ P := by
    rintro rfl
    rcases hsq with hq | hq
    · obtain ⟨_, _, ⟨ob, e, ec, _⟩, _⟩ := I1.tuple hq
      rw [hPs] at e
      cases e
      cases ec
    · obtain ⟨_, _, hl, _⟩ := I1.list hq
      obtain ⟨ob, _, e, ec, _⟩ := id hl
      rw [hPs] at e
      cases e
      cases ec
  refine S.iter _ _ _ _ rfl ?_
  have push_ok : ∀ b u, s1.heap.get? b = some u → (s1.heap.push o).get? b = some u := fun b u e => Heap.get?_push_of_some _ e
  have hPo := push_ok P _ hPs
  have lim2 : (s1.heap.push o).NoLimit := I1.nolimit.push o
  have cd : PySem.W.CodeHd (s1.heap.push o) c P := TB.code.keeps fun b u e => push_ok b u (I1.bk b u e)
  have go : ∀ (code : Value) (h3 : Heap) (tk : Nat) (ps' : Array Value), Heap.ExtBut P (s1.heap.push o) h3 → (s1.heap.push o).objs.size ≤ h3.objs.size → h3.get? P = some { cls := .none, data := .fields ps' } → (∃ more, ps' = ps ++ more) → TriplesOk ps'.toList →
      wpAny (model X.prog X.w) X.A (builtinsFor X.env.globals X.env.builtins) (fun bi s₄ =>
        ∃ Ia fp wr n₀ Pf St₀ pz F, Value.ref s1.heap.objs.size = .ref Ia ∧ (∀ A' : Around, A'.handled = none → Walks X.prog X.w A' Ia fp wr n₀ Pf St₀) ∧ St₀ 0 s₄.heap ∧ (∀ b ∈ fp, b < s₄.heap.objs.size) ∧ s₄.heap.NoLimit ∧ cStatics ∉ wr ∧
          (∀ hr : Heap, (∀ b u, s₄.heap.get? b = some u → hr.get? b = some u) →
            QuietGenD X.prog X.w (genEnv scope (cloFrom X.env.cells scope.names []) s₄.heap.objs.size code bi X.env) x [] elt (List.range s₄.heap.objs.size) wr Pf pz F hr (X.A.depth + 1) (X.A.units + 8)) ∧
          (∀ a h₅ tk gs, gs.bare = true → s₄.heap.objs.size < a → h₅.objs.size = a + 1 → (∀ b u, s₄.heap.get? b = some u → h₅.get? b = some u) →
            WalksS X.prog X.w X.A.in4 a (a :: s₄.heap.objs.size :: List.range s₄.heap.objs.size) (s₄.heap.objs.size :: wr) (GenOnlyQ s₄.gens.size) (passing pz n₀ 0).length
              (fun j y => ∃ i, (passing pz n₀ 0)[j]? = some i ∧ F i y) (GenAt X.prog X.w X.A.in4 a s₄.gens.size s₄.heap.objs.size (List.range s₄.heap.objs.size) wr pz n₀ F) →
            GenAt X.prog X.w X.A.in4 a s₄.gens.size s₄.heap.objs.size (List.range s₄.heap.objs.size) wr pz n₀ F 0 { s₄ with gens := s₄.gens.push gs, toks := tk, heap := h₅ } →
            Z (.ref a) { s₄ with gens := s₄.gens.push gs, toks := tk, heap := h₅ })) X.xe { s1 with heap := h3, toks := tk } := by
    intro code h3 tk ps' hx hsz hP3 hmore ht3
    obtain ⟨bm, ob, e1, e2, e3, e4, e5, e6, e7, e8⟩ := TB.bm
    have szo : (s1.heap.push o).objs.size = s1.heap.objs.size + 1 := Heap.size_push ..
    have k3 : ∀ b u, b ≠ P → s1.heap.get? b = some u → h3.get? b = some u := fun b u hb e => hx b u hb (push_ok b u e)
    have hcP : cStatics ≠ P := by
      rintro rfl
      obtain ⟨_, hns, _⟩ := I1.nolimit
      obtain ⟨o', es, ep, ho, hd, _⟩ := hns
      rw [hPs] at ho
      cases ho
      cases hd
    have hcl : cStatics < s1.heap.objs.size := let ⟨_, hns, _⟩ := I1.nolimit; hns.lt
    refine wpAny_builtinsFor (m := X.mg) (by rw [I1.ok.glob]; exact ((I1.mod.glob.keeps I1.bk).push o).extBut hx TB.gP) e1 e2 (k3 _ _ e4 (I1.bk _ _ e5)) e6 e7 e8 ?_
    have hi3 : s1.heap.objs.size < h3.objs.size := by omega
    refine ⟨s1.heap.objs.size, [s1.heap.objs.size, ad], [s1.heap.objs.size], its.toArray.size, (fun i v => its.toArray[i]? = some v), St s1.heap.objs.size, (fun _ => true), (fun i y => ∃ b, bs[i]? = some b ∧ y = .bool b), rfl,
      fun A' hA => S.walks A' _ hA (Nat.ne_of_lt S.lt), ?_, ?_, lim2.extBut hx hcP, ?_, ?_, ?_⟩
    · refine S.st0 h3 fun b u hb e => hx b u (fun z => ?_) e
      rcases hb with hb | hb
      · exact adP (hb.symm.trans z)
      · exact Nat.ne_of_gt hPlt (hb.symm.trans z)
    · intro b hb
      simp only [List.mem_cons, List.not_mem_nil, or_false] at hb
      rcases hb with hb | hb
      · rw [hb]; exact hi3
      · rw [hb]; exact Nat.lt_trans S.lt hi3
    · intro z
      simp only [List.mem_cons, List.not_mem_nil, or_false] at z
      exact Nat.ne_of_lt hcl z
    · intro hr hhr
      obtain ⟨hd, g1, g2⟩ := restrict h3 fun b => decide (b ≠ s1.heap.objs.size)
      have old : ∀ b u, b ≠ P → s1.heap.get? b = some u → hd.get? b = some u := fun b u nb e => by
        rw [g1 b (decide_eq_true (Nat.ne_of_lt (Heap.lt_size e)))]
        exact k3 b u nb e
      have up3 : Up hd h3 := fun b u e => by
        by_cases hb : b = s1.heap.objs.size
        · rw [g2 b (by simp [hb])] at e
          cases e
        · rw [g1 b (decide_eq_true hb)] at e
          exact e
      have bP : ∀ b u, X.base.get? b = some u → b ≠ P := fun b u e z => by
        have q := (I1.bs b u e).2
        rw [z, hP] at q
        cases q
      have bup : ∀ b u, X.base.get? b = some u → hd.get? b = some u := fun b u e => old b u (bP b u e) (I1.bk b u e)
      have OK : (Qc.mk X.prog X.w X.K X.mg (wipe H1 P) hd).Ok := by
        obtain ⟨mb, q1, q2⟩ := I1.mod.blt
        refine ⟨I1.mod.kin.keeps bup, I1.mod.glob.keeps bup, ⟨mb, q1.keeps bup, q2⟩, I1.mod.nolimit.keeps bup, fun a u e => ?_⟩
        obtain ⟨na, e⟩ := wipe_of e
        have noP : ∀ b, H1 b = some (.own a) → b ≠ P := fun b q z => by
          rw [z, hP] at q
          cases q
        refine (I1.hok a u e).stay (fun b u' hb q => old b u' ?_ q) (fun b q => wipe_at (noP b q) q) (fun b ys q => wipe_at (fun z => ?_) q)
        · rcases hb with hb | hb
          · rw [hb]; exact na
          · exact noP b hb
        · rw [z, hP] at q
          cases q
      have seen : ∀ s₂ : Shared, (∀ b ∈ List.range h3.objs.size, b ∉ [s1.heap.objs.size] → ∀ u, hr.get? b = some u → s₂.heap.get? b = some u) → Up hd s₂.heap := fun s₂ hk b u e => by
        have h3e := up3 b u e
        refine hk b (List.mem_range.mpr (Heap.lt_size h3e)) (fun z => ?_) u (hhr b u h3e)
        have hb : b = s1.heap.objs.size := by simpa using z
        rw [g2 b (by simp [hb])] at e
        cases e
      refine ⟨fun A' E' i v s₂ m₂ hA _ _ hPv hn hm hk => ?_, fun A' E' i v s₂ m₂ hA hAd _ hPv hp hn hm hk => ?_⟩
      · simp only [List.forIn_nil]
        exact wpAny_pure ⟨rfl, GxR.keeps_refl _⟩
      · have hv2 : its[i]? = some v := by simpa using hPv
        have hix : i < xs.length := by rw [← hlen]; exact (List.getElem?_eq_some_iff.mp hv2).1
        obtain ⟨xv, hxv⟩ : ∃ xv, xs[i]? = some xv := ⟨xs[i], List.getElem?_eq_getElem hix⟩
        obtain ⟨u, hu, ru⟩ := rv.get hxv
        rw [hv2] at hu
        cases hu
        have at2 : At ⟨X.prog, X.w, X.K, X.mg, wipe H1 P, hd⟩ (genEnv scope (cloFrom X.env.cells scope.names []) h3.objs.size code builtinsNs X.env) ((x, xv) :: caps) s₂.heap := by
          have upS := seen s₂ hk
          refine ⟨upS, GS.kind, I1.ok.glob, rfl, m₂, hn, fun y vy hy => ?_⟩
          by_cases ey : y = x
          · subst ey
            have e9 : xv = vy := by simpa [List.lookup] using hy
            exact ⟨v, e9 ▸ ru, .inl ⟨GS.loc, hm⟩⟩
          · have ey' : (y == x) = false := by simpa using ey
            have hy2 : caps.lookup y = some vy := by simpa [List.lookup, ey'] using hy
            obtain ⟨_, hmem, hfr, j, hj, hσ, hcl2⟩ := hcap y vy hy2
            obtain ⟨m1, hn1, hloc⟩ := I1.loc
            obtain ⟨u9, r9, l9⟩ := hloc j y vy hj hσ (.inr (.inl hcl2))
            refine ⟨u9, r9, .inr ⟨.inr hfr, ?_⟩⟩
            rcases l9 with ⟨l9, _⟩ | ⟨_, ca, hca, hic⟩
            · have l8 : X.env.scope.names.lookup y = some .local := l9
              rw [hcl2] at l8
              cases l8
            · refine ⟨ca, NdefX.clo_has GS.free hmem hca, ?_⟩
              obtain ⟨oc, ec, rc⟩ := hic
              have nP : ca ≠ P := fun z => by
                have q := I1.freeC y ca hca
                rw [z, hP] at q
                cases q
              exact ⟨oc, upS _ _ (old _ _ nP ec), rc⟩
        obtain ⟨b, hb⟩ : ∃ b, bs[i]? = some b := ⟨bs[i]'(by rw [hel.1]; exact hix), List.getElem?_eq_getElem _⟩
        refine hel.2 hd _ OK rfl i xv b hxv hb A' E' _ s₂ ⟨hA, by omega⟩ at2 fun u9 g9 tk9 r9 up9 => ?_
        exact ⟨⟨b, hb, r9⟩, g9, tk9, rfl, up9⟩
    · intro g h5 tk5 gs hgb hag hsz5 hk5 W5 hgat
      simp only [GxR.passing_true, List.length_range] at W5
      have hn5 : its.toArray.size = bs.length := by rw [List.size_toArray, hlen, hel.1]
      rw [hn5] at W5 hgat
      refine hZ xs bs H1 g _ hR ⟨_, _, _, _, _, W5.in4_1, hgat, ?_, fun s' hm => ?_⟩
      · intro j y sj Qj Ej hy hQj
        obtain ⟨i, hij, b, hxv, rfl⟩ := hy
        obtain ⟨hj, ej⟩ := List.getElem?_eq_some_iff.mp hij
        rw [List.getElem_range] at ej
        subst ej
        have hQ2 : Qj (trB bs j) sj := hQj
        rw [trB_some hxv] at hQ2
        exact wpAny_truthy_bool hQ2
      · obtain ⟨more, em⟩ := hmore
        have nwr : ∀ b u, s1.heap.get? b = some u → b ∉ h3.objs.size :: [s1.heap.objs.size] := fun b u e hb => by
          have hl := Heap.lt_size e
          simp only [List.mem_cons, List.not_mem_nil, or_false] at hb
          rcases hb with hb | hb
          · rw [hb] at hl
            exact absurd (Nat.lt_trans hl hi3) (Nat.lt_irrefl _)
          · rw [hb] at hl
            exact Nat.lt_irrefl _ hl
        have J := GxR.inv_tab (more := more) (h' := s'.heap) (g' := s'.gens) (d' := s'.drawn) (t' := s'.toks) I1 hP (fun b u hb e => hm.heap b u (nwr b u e) (hk5 b u (k3 b u hb e)))
          (by rw [← em]; exact hm.heap P _ (nwr P _ hPs) (hk5 P _ hP3)) (AllBare.movedS (I1.bare.push hgb) hm)
        rw [GxR.sh_eta s1 s' hm.os] at J
        exact ⟨upd H1 P (.tbl (ps ++ more)), ⟨⟨ps ++ more, upd_same, by rw [← em]; exact ht3⟩, fun b hb => upd_ne hb⟩, J⟩
  refine ⟨lim2, ?_⟩
  cases hf : codeAmong gpos ps.toList with
  | none =>
    refine wpAny_genexprCodeX hcode (cd.code hPo htr) (cd.tab hPo) hf fun c' h' tk hx hge hlt hco' _ htab' _ => ?_
    obtain ⟨_, _, _, _, _, _, _, _, _, _, _, _, _, _, _, _, _, _, _, htr', _⟩ := hco'
    exact go _ h' tk _ hx (Nat.le_trans hge (Nat.le_of_lt hlt)) htab'.2 ⟨_, rfl⟩ htr'
  | some cv =>
    refine wpAny_genexprCode_hit hcode (cd.code hPo htr) hf ?_
    exact go cv (s1.heap.push o) s1.toks ps (Heap.ExtBut.refl _ _) (Nat.le_refl _) hPo ⟨#[], by simp⟩ htr

/-- all(.. for x in e), e a tuple or a list, the element a quiet truth -/
def tAllQ (X : Cx) (P : Addr) (k : Nat) (scope : Scope) (x : Str) (elt : Expr) (te : TE) : TE := fun σ H Q => te σ H fun v H1 => ∃ (ad : Addr) (xs : List V) (bs : List Bool) (caps : Nm), v = .ref ad ∧ (SqT X.K H1 ad xs ∨ SqL X.K H1 ad xs) ∧
  GxR.TabG H1 P ∧ Caps X scope x σ caps ∧ Elt X (3 * k) scope x elt caps (wipe H1 P) xs bs ∧ ∀ H2, GxR.Tabbed P H1 H2 → Q (.bl (bs.all id)) H2
theorem pe_allQ {c P : Addr} {elt iter : Expr} {x : Str} {px p pos gpos : Pos} {scope : Scope} {te : TE} {k : Nat}
    (rm : Room (k + 2) X.A) (hg : Gl X "all") (hm : X.mg "all" = none) (TB : GxR.TabB X.base X.mg c P) (hcode : X.env.code = .ref c) (GS : GxR.GenS X.env scope x) (hi : PE X iter te)
    (hs : ∀ v, genFold iter X.env v = pure v) (hb : bootBuiltins "all" = some (.builtin "all") := by decide +kernel)
    (he : starEach [.GeneratorExp elt [⟨.Name x px, iter, [], 0⟩] scope gpos] X.env = (false, eval (.GeneratorExp elt [⟨.Name x px, iter, [], 0⟩] scope gpos) X.env) :: starEach [] X.env := by rfl) :
    PE X (.Call (.Name "all" p) [.GeneratorExp elt [⟨.Name x px, iter, [], 0⟩] scope gpos] [] pos) (tAllQ X P k scope x elt te) := by
  refine ⟨fun pins s σ H Q I h => ?_⟩
  refine wpAny_Call_Name_kw (ld_blt I hg hm hb (PyProof.Rows.callWith_builtin1 ?_ he (by rfl)))
  rw [he]
  show wpAny _ X.A (spliced ((false, eval (.GeneratorExp elt [⟨.Name x px, iter, [], 0⟩] scope gpos) X.env) :: backTo pos (starEach [] X.env))) _ X.xe s
  refine Calls.spliced_cons (gen_made (R := fun xs bs H1 => ∀ H2, GxR.Tabbed P H1 H2 → Q (.bl (bs.all id)) H2) rm TB hcode GS hi hs I h fun xs bs H1 g s5 hR hG => Calls.spliced_nil ?_)
  obtain ⟨fp, wr, G, F, St, W, hst, htr, hI⟩ := hG
  refine call_all_walkS (W.self 0 _ _ _ hst ⟨g, fp, wr, G, _, F, St, _, rfl, W, hst, htr, fun s' hmv => ?_⟩)
  obtain ⟨H2, hT, J⟩ := hI s' hmv
  exact ⟨.bl _, H2, J, rfl, by rw [trB_all bs]; exact hR H2 hT⟩
end
end Qt

namespace Em
open PySem PySem.Spec PyProof.Rows L2 Qt

/-! ### defs that may show things: nothing is being shown around them -/
structure FnG (P : Program) (w : World) (K : PySem.W.Frag) (mg : Str → Option Value) (base : Heap) (CX : CXT) (k : Nat) (f : Addr) (fd : FuncData) (ps : List Str) (sp : Sp) : Prop where
  len : ∀ vs H Q E, sp vs H Q E → vs.length = ps.length
  go : ∀ (A : Around) (outer : List Env) (s : Shared) (H : Hp) (args : Args) (us : List Value) (vs : List V) (Q : VK) (E : XK), A.guards = some [] → Room k A → Env0 P w K mg base A outer s H → BindsTo s fd args (ps.zip us) → Vals vs us → sp vs H Q E →
    codeAny (model P w) A (.call (.ref f) args) (CR CX outer P w H s Q E) s
section
variable {P : Program} {w : World} {K : PySem.W.Frag} {mg : Str → Option Value} {base : Heap} {CX : CXT} {k : Nat} {f : Addr} {fd : FuncData} {ps : List Str} {sp : Sp}
theorem FnG.of (F : FnOk P w K mg base CX k f fd ps sp) : FnG P w K mg base CX k f fd ps sp := ⟨F.len, fun A o s H a us vs Q E _ => F.run A o s H a us vs Q E⟩
theorem FnG.mono {j : Nat} (F : FnG P w K mg base CX j f fd ps sp) (h : j ≤ k) : FnG P w K mg base CX k f fd ps sp := ⟨F.len, fun A o s H a us vs Q E hg hr => F.go A o s H a us vs Q E hg (hr.mono h)⟩
/-- a def's body, nothing being shown around it -/
theorem okG {x qual : Str} {st : Stmt} {N : List Str} (F : Fun K x qual st f fd) (S : FnScope N ps (defScope st)) (len : ∀ vs H Q E, sp vs H Q E → vs.length = ps.length)
    (hbody : ∀ (cdv : Value) (A : Around) (outer : List Env) (s : Shared) (H : Hp) (vs : List V) (Q : VK) (E : XK), (A.deeper (envOfC qual (defScope st) s.heap.objs.size f cdv)).guards = some [] → Room k (A.deeper (envOfC qual (defScope st) s.heap.objs.size f cdv)) → sp vs H Q E →
      ∃ t, PSs (cxOf CX P w K mg base N qual (defScope st) f cdv A outer s H E) (defBody st) t ∧ t { nx := fun _ H' => Q .non H', rt := Q } (start N vs) H) : FnG P w K mg base CX (k + 1) f fd ps sp := by
  refine ⟨len, fun A outer s H args us vs Q E hg hr e0 hb rv hs => ?_⟩
  -- the same def, told of a promise that holds of this call alone
  obtain ⟨oc, od, kV, doc, pm, an, cdv, ct, osl, rfl, lk, hcd⟩ := F.ex
  have KX : K.In s.heap := e0.mod.kin.keeps fun b o e => (e0.bs b o e).1
  have LX : s.heap.NoLimit := e0.mod.nolimit.keeps fun b o e => (e0.bs b o e).1
  have hkind : ∀ y ∈ ps.zip us, (defScope st).names.lookup y.1 = some .local ∨ ((defScope st).names.lookup y.1 = some .cell ∧ ((cellsFrom (s.heap.objs.size + 1) (defScope st).names []).lookup y.1).isSome = true) := fun y hy => by
    rcases S.par y.1 (List.of_mem_zip hy).1 with q | q
    · exact .inl q
    · exact .inr ⟨q, PySem.W.cellsFrom_some _ _ _ (.inl q)⟩
  refine codeAny_call_function hr.depth (KX _ _ lk) rfl S.co S.gen rfl (PySem.W.codeRec_of KX hcd) (hb _ _ _ _ (wpAny_newFunctionEnv_cells S.kind hkind fun env he s1 x => ?_))
  subst he
  refine ⟨LX.keeps x.toInCall.keep, codeAny_func ?_⟩
  obtain ⟨t, ht, hq⟩ := hbody cdv A outer s H vs Q E hg (hr.deeper _) hs
  have I := inv_start (CX := CX) (E := E) S hr.hd e0 (len _ _ _ _ hs) rv x
  refine wpAny_mono (ht.run [] s1 (start N vs) H _ I hq) (fun fl s' z => ?_) fun e s' z => z
  cases fl with
  | ret u =>
    obtain ⟨v, σ', H', J, r1, q⟩ := z
    exact ⟨v, H', J.os, J.bare, J.base, J.hok, r1, q⟩
  | next =>
    obtain ⟨σ', H', J, q⟩ := z
    exact ⟨V.non, H', J.os, J.bare, J.base, J.hok, rfl, q⟩
  | brk =>
    obtain ⟨_, _, _, q⟩ := z
    exact q.elim
  | cont =>
    obtain ⟨_, _, _, q⟩ := z
    exact q.elim
theorem okG0 {x qual : Str} {st : Stmt} {N : List Str} (F : Fun K x qual st f fd) (S : FnScope N ps (defScope st)) (len : ∀ vs H Q E, sp vs H Q E → vs.length = ps.length)
    (hbody : ∀ (cdv : Value) (A : Around) (outer : List Env) (s : Shared) (H : Hp) (vs : List V) (Q : VK) (E : XK), (A.deeper (envOfC qual (defScope st) s.heap.objs.size f cdv)).guards = some [] → Room k (A.deeper (envOfC qual (defScope st) s.heap.objs.size f cdv)) → sp vs H Q E →
      ∃ t, PSs (cxOf CX0 P w K mg base N qual (defScope st) f cdv A outer s H E).nox (defBody st) t ∧ t { nx := fun _ H' => Q .non H', rt := Q } (start N vs) H) : FnG P w K mg base CX0 (k + 1) f fd ps sp :=
  okG F S len fun cdv A outer s H vs Q E hg hr hs => let ⟨t, h, q⟩ := hbody cdv A outer s H vs Q E hg hr hs; ⟨t, h.nox, q⟩
end
section
variable {X : Cx} {CX : CXT} {k : Nat} {f : Addr} {fd : FuncData} {ps ks : List Str} {sp : Sp} {dvs : List V} {ds : List Value} {E : XK} {x : Str} {p pos : Pos} {e : Expr} {es : List Expr} {kws : List Keyword} {t tk : TA}
  {g : List Value → List Value → List Value} {gV : List V → List V → List V}
theorem endG {pins : List (Addr × Obj)} {σ : L2.St} {H : Hp} {s : Shared} {Q : VK} {args : Args} (hx : Passes CX X E) (I : Inv X pins σ H s) (h : codeAny (model X.prog X.w) X.A (.call (.ref f) args) (CR CX X.stack X.prog X.w H s Q E) s) :
    codeAny (model X.prog X.w) X.A (.call (.ref f) args) (fun r s' => match r with
      | .ok (.ret u) => EP X pins σ Q u s'
      | .ok _ => False
      | .error e => X.xe e s') s :=
  codeAny_mono h fun r s' hq => by
    cases r with
    | error e => exact hx pins σ H s e s' I hq
    | ok fl => cases fl with
      | ret u => exact I.after hq
      | next => exact hq
      | brk => exact hq
      | cont => exact hq
theorem runG {pins : List (Addr × Obj)} {σ : L2.St} {H : Hp} {s : Shared} {Q : VK} {us : List Value} {vs : List V} (F : FnG X.prog X.w X.K X.mg X.base CX k f fd ps sp) (hG : X.A.guards = some []) (hr : Room k X.A) (hb : Binds X.K fd ps ds) (hd : Vals dvs ds) (hx : Passes CX X E)
    (I : Inv X pins σ H s) (r : Vals vs us) (h : sp (vs ++ dvs) H Q E) : wpAny (model X.prog X.w) X.A (call (.ref f) us) (EP X pins σ Q) X.xe s := by
  have r2 := r.append hd
  have hl : (us ++ ds).length = ps.length := r2.length.symm.trans (F.len _ _ _ _ h)
  refine wpAny_call (codeAny_mono (endG (Q := Q) hx I (F.go X.A X.stack s H ⟨us, []⟩ (us ++ ds) (vs ++ dvs) Q E hG hr I.env0 (hb s us I.kIn hl) r2 h)) fun r s' hq => ?_)
  cases r with
  | error e => exact hq
  | ok fl => cases fl with
    | ret u => exact hq
    | next => exact hq.elim
    | brk => exact hq.elim
    | cont => exact hq.elim
theorem pe_callG (F : FnG X.prog X.w X.K X.mg X.base CX k f fd ps sp) (hG : X.A.guards = some []) (hr : Room k X.A) (hg : Gl X x) (hm : X.mg x = some (.ref f)) (hk : PySem.W.keepIn X.K (.ref f) = true) (hb : Binds X.K fd ps ds) (hd : Vals dvs ds) (hx : Passes CX X E)
    (ha : PA X (e :: es) t) (hdb : (x == ("__debug__" : Str)) = false := by decide) (st : starEach (e :: es) X.env = (false, eval e X.env) :: starEach es X.env := by rfl) (pl : (backTo pos (starEach es X.env)).any (·.1) = false := by rfl) :
    PE X (.Call (.Name x p) (e :: es) [] pos) (tCall sp dvs E t) :=
  ⟨fun pins s σ H Q I h => wpAny_Call_Name_kw (ld_glob I hg hm (PySem.W.callWith_K (h₀ := X.base) I.ok.mod.kin hk (thn (ha.run pos pins s σ H _ I h) fun us s1 ⟨vs, H1, I1, r, q⟩ => ⟨I1.kIn, runG F hG hr hb hd hx I1 r q⟩) st pl) hdb)⟩
/-- f(k = v, ..), keywords alone; the promise is of the parameters in the def's order -/
theorem pe_kwG (F : FnG X.prog X.w X.K X.mg X.base CX k f fd ps sp) (hG : X.A.guards = some []) (hr : Room k X.A) (hg : Gl X x) (hm : X.mg x = some (.ref f)) (hk : PySem.W.keepIn X.K (.ref f) = true) (hb : KBinds X.K fd ps ks g gV) (hx : Passes CX X E)
    (hkw : PK X kws tk) (hall : (backToKw pos (keywordEach kws X.env)).all (·.1.isSome) = true := by rfl) (hks : (backToKw pos (keywordEach kws X.env)).filterMap (·.1) = ks := by rfl)
    (hdb : (x == ("__debug__" : Str)) = false := by decide) (pl : ((backTo pos (starEach [] X.env)).any (·.1) || (backToKw pos (keywordEach kws X.env)).any (·.1.isNone)) = false := by rfl) :
    PE X (.Call (.Name x p) [] kws pos) (tCallK sp gV E tNil tk) := by
  refine ⟨fun pins s σ H Q I h => wpAny_Call_Name_kw (ld_glob I hg hm ?_ hdb)⟩
  refine PySem.W.callWith_KW0 (h₀ := X.base) I.ok.mod.kin hk hall (thn (hkw.run pos pins s σ H _ I h) fun ws s1 ⟨zs, H1, I1, rz, q⟩ => ⟨I1.kIn, ?_⟩) pl
  rw [hks]
  have r2 := hb.rel .nil rz
  have hl : (g [] ws).length = ps.length := r2.length.symm.trans (F.len _ _ _ _ q)
  refine wpAny_call (codeAny_mono (endG (Q := Q) hx I1 (F.go X.A X.stack _ H1 ⟨[], ks.zip ws⟩ (g [] ws) (gV [] zs) Q E hG hr I1.env0 (hb.to _ [] ws I1.kIn hl) r2 q)) fun r s' hq => ?_)
  cases r with
  | error e => exact hq
  | ok fl => cases fl with
    | ret u => exact hq
    | next => exact hq.elim
    | brk => exact hq.elim
    | cont => exact hq.elim
end

/-! ### what a piece of code leaves as it was: all but the things in S; tables of code grow -/
structure Kp (S : List Addr) (H H' : Hp) : Prop where
  at_ : ∀ b o, b ∉ S → H b = some o → (∀ ps, o ≠ .tbl ps) → H' b = some o
  tab : ∀ b, GxR.TabG H b → GxR.TabG H' b
  tr_ : ∀ b, H b ≠ none → H' b ≠ none
theorem Kp.rfl' {S : List Addr} {H : Hp} : Kp S H H := ⟨fun _ _ _ h _ => h, fun _ h => h, fun _ h => h⟩
theorem Kp.tr {S : List Addr} {H H1 H2 : Hp} (a : Kp S H H1) (b : Kp S H1 H2) : Kp S H H2 := ⟨fun c o n h t => b.at_ c o n (a.at_ c o n h t) t, fun c h => b.tab c (a.tab c h), fun c h => b.tr_ c (a.tr_ c h)⟩
theorem Kp.wk {S S' : List Addr} {H H1 : Hp} (a : Kp S H H1) (h : ∀ x ∈ S, x ∈ S') : Kp S' H H1 := ⟨fun c o n q t => a.at_ c o (fun z => n (h c z)) q t, a.tab, a.tr_⟩
theorem Kp.of0 {S : List Addr} {H H1 : Hp} (a : Kp [] H H1) : Kp S H H1 := a.wk fun _ h => by cases h
theorem upd_tr {H : Hp} {p b : Addr} {o : HO} (h : H b ≠ none) : upd H p o b ≠ none := by
  by_cases e : b = p
  · rw [e, upd_same]; exact fun z => by cases z
  · rw [upd_ne e]; exact h
/-- a new thing -/
theorem Kp.new {S : List Addr} {H : Hp} {p : Addr} {o : HO} (n : H p = none) : Kp S H (upd H p o) :=
  ⟨fun b u _ h _ => by rw [upd_ne (ne_of_none h n)]; exact h, fun b ⟨ps, h, t⟩ => ⟨ps, by rw [upd_ne (ne_of_none h n)]; exact h, t⟩, fun b h => upd_tr h⟩
/-- a list (or another thing that is no table) of S is written -/
theorem Kp.put {S : List Addr} {H : Hp} {p : Addr} {o u : HO} (hp : p ∈ S) (h : H p = some u) (nt : ∀ ps, u ≠ .tbl ps) : Kp S H (upd H p o) :=
  ⟨fun b v n q _ => by rw [upd_ne (fun z => n (by rw [z]; exact hp))]; exact q, fun b ⟨ps, q, t⟩ => ⟨ps, by rw [upd_ne (fun z => by rw [z, h] at q; exact nt ps (Option.some.inj q))]; exact q, t⟩, fun b h => upd_tr h⟩
/-- a new thing that was written again is still new to what stood before -/
theorem Kp.drop {S : List Addr} {H H1 : Hp} {p : Addr} (n : H p = none) (k : Kp (p :: S) H H1) : Kp S H H1 :=
  ⟨fun b o nb h t => k.at_ b o (fun z => by
    rcases List.mem_cons.mp z with z | z
    · rw [z, n] at h; cases h
    · exact nb z) h t, k.tab, k.tr_⟩
theorem Kp.tabbed {S : List Addr} {H H1 : Hp} {P : Addr} (h0 : GxR.TabG H P) (h : GxR.Tabbed P H H1) : Kp S H H1 :=
  ⟨fun b o _ q t => by
    have nb : b ≠ P := fun z => by
      obtain ⟨ps, e, _⟩ := h0
      rw [z, e] at q
      exact t ps (Option.some.inj q).symm
    rw [h.2 b nb]
    exact q, fun b ⟨ps, q, t⟩ => by
    by_cases nb : b = P
    · rw [nb]; exact h.1
    · exact ⟨ps, by rw [h.2 b nb]; exact q, t⟩, fun b q => by
    by_cases nb : b = P
    · obtain ⟨ps, e, _⟩ := h.1
      rw [nb, e]; exact fun z => by cases z
    · rw [h.2 b nb]; exact q⟩
theorem Kp.lst {S : List Addr} {H H1 : Hp} (k : Kp S H H1) {b : Addr} {xs : List V} (nb : b ∉ S) (h : H b = some (.lst xs)) : H1 b = some (.lst xs) := k.at_ b _ nb h fun ps z => by cases z
theorem Kp.tup {S : List Addr} {H H1 : Hp} (k : Kp S H H1) {b : Addr} {xs : List V} (nb : b ∉ S) (h : H b = some (.tup xs)) : H1 b = some (.tup xs) := k.at_ b _ nb h fun ps z => by cases z
theorem Kp.ins {S : List Addr} {H H1 : Hp} (k : Kp S H H1) {b C dx : Addr} {fs : List (Str × V)} (nb : b ∉ S) (h : H b = some (.ins C dx fs)) : H1 b = some (.ins C dx fs) := k.at_ b _ nb h fun ps z => by cases z
theorem Kp.seq {S : List Addr} {K : PySem.W.Frag} {H H1 : Hp} (k : Kp S H H1) {b : Addr} {xs : List V} (nb : b ∉ S) (h : SqL K H b xs) : SqL K H1 b xs := by
  rcases h with (h | ⟨o, h⟩) | h
  · exact .inl (.inl (k.lst nb h))
  · exact .inl (.inr ⟨o, k.at_ b _ nb h fun ps z => by cases z⟩)
  · exact .inr h
theorem Kp.free {S : List Addr} {H H1 : Hp} (k : Kp S H H1) {b : Addr} (nb : b ∉ S) (h : H1 b = none) (ht : ¬ GxR.TabG H b) (hn : ∀ ps, H b ≠ some (.tbl ps)) : H b = none := by
  cases q : H b with
  | none => rfl
  | some o =>
    rw [k.at_ b o nb q (fun ps z => hn ps (by rw [q, z]))] at h
    cases h

/-! ### data in the heap, none of it in S -/
mutual
inductive Dx (S : List Addr) (H : Hp) : V → PyData → Prop
  | non : Dx S H .non .none
  | bl (b : Bool) : Dx S H (.bl b) (.bool b)
  | int (i : Int) : Dx S H (.int i) (.int i)
  | str (z : Str) : Dx S H (.str z) (.str z)
  | lst {a : Addr} {xs : List V} {ds : List PyData} (n : a ∉ S) (h : H a = some (.lst xs)) (r : DxA S H xs ds) : Dx S H (.ref a) (.list ds)
  | tup {a : Addr} {xs : List V} {ds : List PyData} (n : a ∉ S) (h : H a = some (.tup xs)) (r : DxA S H xs ds) : Dx S H (.ref a) (.tuple ds)
  | dic {a : Addr} (n : a ∉ S) (h : H a = some (.dK [])) : Dx S H (.ref a) (.dict [])
inductive DxA (S : List Addr) (H : Hp) : List V → List PyData → Prop
  | nil : DxA S H [] []
  | cons {v : V} {vs : List V} {d : PyData} {ds : List PyData} (h : Dx S H v d) (t : DxA S H vs ds) : DxA S H (v :: vs) (d :: ds)
end
mutual
theorem Dx.kp {S S' : List Addr} {H H1 : Hp} (k : Kp S H H1) (hs : ∀ x ∈ S, x ∈ S') : ∀ {v : V} {d : PyData}, Dx S' H v d → Dx S' H1 v d
  | _, _, .non => .non
  | _, _, .bl b => .bl b
  | _, _, .int i => .int i
  | _, _, .str z => .str z
  | _, _, .lst n h r => .lst n (k.lst (fun z => n (hs _ z)) h) (DxA.kp k hs r)
  | _, _, .tup n h r => .tup n (k.tup (fun z => n (hs _ z)) h) (DxA.kp k hs r)
  | _, _, .dic n h => .dic n (k.at_ _ _ (fun z => n (hs _ z)) h fun ps z => by cases z)
theorem DxA.kp {S S' : List Addr} {H H1 : Hp} (k : Kp S H H1) (hs : ∀ x ∈ S, x ∈ S') : ∀ {v : List V} {d : List PyData}, DxA S' H v d → DxA S' H1 v d
  | _, _, .nil => .nil
  | _, _, .cons h t => .cons (Dx.kp k hs h) (DxA.kp k hs t)
end
mutual
/-- what is there is none of what is new -/
theorem Dx.ap {S : List Addr} {H : Hp} {p : Addr} (n : H p = none) : ∀ {v : V} {d : PyData}, Dx S H v d → Dx (p :: S) H v d
  | _, _, .non => .non
  | _, _, .bl b => .bl b
  | _, _, .int i => .int i
  | _, _, .str z => .str z
  | _, _, .lst m h r => .lst (by simpa using ⟨ne_of_none h n, m⟩) h (DxA.ap n r)
  | _, _, .tup m h r => .tup (by simpa using ⟨ne_of_none h n, m⟩) h (DxA.ap n r)
  | _, _, .dic m h => .dic (by simpa using ⟨ne_of_none h n, m⟩) h
theorem DxA.ap {S : List Addr} {H : Hp} {p : Addr} (n : H p = none) : ∀ {v : List V} {d : List PyData}, DxA S H v d → DxA (p :: S) H v d
  | _, _, .nil => .nil
  | _, _, .cons h t => .cons (Dx.ap n h) (DxA.ap n t)
end
mutual
theorem Dx.wk {S S' : List Addr} {H : Hp} (hs : ∀ x ∈ S', x ∈ S) : ∀ {v : V} {d : PyData}, Dx S H v d → Dx S' H v d
  | _, _, .non => .non
  | _, _, .bl b => .bl b
  | _, _, .int i => .int i
  | _, _, .str z => .str z
  | _, _, .lst m h r => .lst (fun z => m (hs _ z)) h (DxA.wk hs r)
  | _, _, .tup m h r => .tup (fun z => m (hs _ z)) h (DxA.wk hs r)
  | _, _, .dic m h => .dic (fun z => m (hs _ z)) h
theorem DxA.wk {S S' : List Addr} {H : Hp} (hs : ∀ x ∈ S', x ∈ S) : ∀ {v : List V} {d : List PyData}, DxA S H v d → DxA S' H v d
  | _, _, .nil => .nil
  | _, _, .cons h t => .cons (Dx.wk hs h) (DxA.wk hs t)
end
theorem DxA.len {S : List Addr} {H : Hp} : ∀ {vs : List V} {ds : List PyData}, DxA S H vs ds → vs.length = ds.length
  | _, _, .nil => rfl
  | _, _, .cons _ t => by rw [List.length_cons, List.length_cons, DxA.len t]
theorem DxA.get {S : List Addr} {H : Hp} : ∀ {vs : List V} {ds : List PyData} {i : Nat} {v : V}, DxA S H vs ds → vs[i]? = some v → ∃ d, ds[i]? = some d ∧ Dx S H v d
  | _, _, _, _, .nil, h => by cases h
  | _, _, 0, _, .cons a _, h => by cases h; exact ⟨_, rfl, a⟩
  | _, _, i + 1, _, .cons _ t, h => DxA.get (i := i) t (by simpa using h)
theorem DxA.get' {S : List Addr} {H : Hp} : ∀ {vs : List V} {ds : List PyData} {i : Nat} {d : PyData}, DxA S H vs ds → ds[i]? = some d → ∃ v, vs[i]? = some v ∧ Dx S H v d
  | _, _, _, _, .nil, h => by cases h
  | _, _, 0, _, .cons a _, h => by cases h; exact ⟨_, rfl, a⟩
  | _, _, i + 1, _, .cons _ t, h => DxA.get' (i := i) t (by simpa using h)
theorem DxA.app {S : List Addr} {H : Hp} : ∀ {vs ws : List V} {ds es : List PyData}, DxA S H vs ds → DxA S H ws es → DxA S H (vs ++ ws) (ds ++ es)
  | _, _, _, _, .nil, h => h
  | _, _, _, _, .cons a t, h => .cons a (DxA.app t h)
mutual
/-- what the layer calls data: no dict in it -/
theorem Dx.dp {S : List Addr} {K : PySem.W.Frag} {H : Hp} : ∀ {v : V} {d : PyData}, Dx S H v d → d.hasDict = false → Dp K H v d
  | _, _, .non, _ => .non
  | _, _, .bl b, _ => .bl b
  | _, _, .int i, _ => .int i
  | _, _, .str z, _ => .str z
  | _, _, .lst n h r, e => .lst (SqL.of h) (DxA.dp r (by simpa [PyData.hasDict] using e))
  | _, _, .tup n h r, e => .tup (SqT.of h) (DxA.dp r (by simpa [PyData.hasDict] using e))
  | _, _, .dic n h, e => by simp [PyData.hasDict] at e
theorem DxA.dp {S : List Addr} {K : PySem.W.Frag} {H : Hp} : ∀ {v : List V} {d : List PyData}, DxA S H v d → PyData.hasDictAll d = false → DpAll K H v d
  | _, _, .nil, _ => .nil
  | _, _, @DxA.cons _ _ v vs d ds h t, e => by
    have e2 : PyData.hasDict d = false ∧ PyData.hasDictAll ds = false := by simpa [PyData.hasDictAll] using e
    exact .cons (Dx.dp h e2.1) (DxA.dp t e2.2)
end

/-- new data: none of it stood in H -/
def Nw (H H' : Hp) (v : V) (d : PyData) : Prop := ∀ S : List Addr, (∀ s ∈ S, H s ≠ none) → Dx S H' v d
def NwA (H H' : Hp) (vs : List V) (ds : List PyData) : Prop := ∀ S : List Addr, (∀ s ∈ S, H s ≠ none) → DxA S H' vs ds
theorem Nw.tup {H H1 : Hp} {p : Addr} {xs : List V} {ds : List PyData} (k : ∀ b, H b ≠ none → H1 b ≠ none) (n : H1 p = none) (h : NwA H H1 xs ds) : Nw H (upd H1 p (.tup xs)) (.ref p) (.tuple ds) := fun S t =>
  .tup (fun z => k p (t p z) n) upd_same ((h S t).kp (Kp.new (S := []) n) fun _ z => by cases z)
theorem Nw.lst {H H1 : Hp} {p : Addr} {xs : List V} {ds : List PyData} (k : ∀ b, H b ≠ none → H1 b ≠ none) (n : H1 p = none) (h : NwA H H1 xs ds) : Nw H (upd H1 p (.lst xs)) (.ref p) (.list ds) := fun S t =>
  .lst (fun z => k p (t p z) n) upd_same ((h S t).kp (Kp.new (S := []) n) fun _ z => by cases z)
theorem NwA.nil {H H1 : Hp} : NwA H H1 [] [] := fun _ _ => .nil
theorem NwA.cons {H H1 : Hp} {v : V} {vs : List V} {d : PyData} {ds : List PyData} (h : Nw H H1 v d) (t : NwA H H1 vs ds) : NwA H H1 (v :: vs) (d :: ds) := fun S z => .cons (h S z) (t S z)
theorem Nw.int {H H1 : Hp} (i : Int) : Nw H H1 (.int i) (.int i) := fun _ _ => .int i
theorem Nw.non {H H1 : Hp} : Nw H H1 .non .none := fun _ _ => .non
theorem Nw.bl {H H1 : Hp} (b : Bool) : Nw H H1 (.bl b) (.bool b) := fun _ _ => .bl b
theorem Nw.str {H H1 : Hp} (z : Str) : Nw H H1 (.str z) (.str z) := fun _ _ => .str z
theorem Nw.kp {H H1 H2 : Hp} {v : V} {d : PyData} (h : Nw H H1 v d) (k : Kp [] H1 H2) : Nw H H2 v d := fun S t => (h S t).kp k fun _ z => by cases z
theorem NwA.kp {H H1 H2 : Hp} {v : List V} {d : List PyData} (h : NwA H H1 v d) (k : Kp [] H1 H2) : NwA H H2 v d := fun S t => (h S t).kp k fun _ z => by cases z
/-- what was written stood before -/
theorem Nw.kpS {H H1 H2 : Hp} {S0 : List Addr} {v : V} {d : PyData} (h : Nw H H1 v d) (k : Kp S0 H1 H2) (hs : ∀ s ∈ S0, H s ≠ none) : Nw H H2 v d := fun S t =>
  ((h (S0 ++ S) fun s z => by rcases List.mem_append.mp z with z | z <;> first | exact hs s z | exact t s z).kp k fun x z => List.mem_append_left _ z).wk fun x z => List.mem_append_right _ z
theorem NwA.kpS {H H1 H2 : Hp} {S0 : List Addr} {v : List V} {d : List PyData} (h : NwA H H1 v d) (k : Kp S0 H1 H2) (hs : ∀ s ∈ S0, H s ≠ none) : NwA H H2 v d := fun S t =>
  ((h (S0 ++ S) fun s z => by rcases List.mem_append.mp z with z | z <;> first | exact hs s z | exact t s z).kp k fun x z => List.mem_append_left _ z).wk fun x z => List.mem_append_right _ z
theorem Nw.old {H0 H H1 : Hp} {v : V} {d : PyData} (k : ∀ b, H0 b ≠ none → H b ≠ none) (h : Nw H H1 v d) : Nw H0 H1 v d := fun S t => h S fun s z => k s (t s z)
theorem NwA.old {H0 H H1 : Hp} {v : List V} {d : List PyData} (k : ∀ b, H0 b ≠ none → H b ≠ none) (h : NwA H H1 v d) : NwA H0 H1 v d := fun S t => h S fun s z => k s (t s z)
theorem NwA.app {H H1 : Hp} {v w : List V} {d e : List PyData} (h : NwA H H1 v d) (h2 : NwA H H1 w e) : NwA H H1 (v ++ w) (d ++ e) := fun S t => (h S t).app (h2 S t)
theorem NwA.ints {H H1 : Hp} : ∀ ns : List Int, NwA H H1 (ns.map V.int) (ns.map PyData.int)
  | [] => .nil
  | n :: r => .cons (.int n) (NwA.ints r)

/-! ### repr of data -/
section
variable {X : Cx}
theorem call_repr {j : Nat} (hG : X.A.guards = some []) (rm : Room j X.A) : CallR X (.builtin "repr") (fun xs H Q => ∃ (x : V) (d : PyData), xs = [x] ∧ Dp X.K H x d ∧ d.showable = true ∧ d.hasDict = false ∧ d.depth < 150 ∧ d.shown.length ≤ sizeLine ∧ (∃ a, x = .ref a) ∧ Q (.str d.shown) H) := by
  intro pins s σ H xs us Q I r h
  obtain ⟨x, d, rfl, hd, h1, h2, h3, h4, ⟨a, rfl⟩, q⟩ := h
  obtain ⟨u, rfl, ru⟩ := vals1 r
  obtain ⟨as, hr⟩ := hd.reads I d _ u ru
  obtain rfl : u = Value.ref a := ru
  have hu := rm.un
  refine repr_of_reads' hr h1 (fun e => by rw [h2] at e; cases e) hG (by omega) (fun _ _ e => e) (fun h' u tk hk => ?_) h4
  exact ⟨.str d.shown, H, I.kept (t' := tk) hk, ⟨u, rfl⟩, q⟩
/-- as call_isi, the written part told (in a comprehension's block it can't be read off) -/
theorem call_isiK {K : PySem.W.Frag} (h : X.K = K) : CallR X (.builtin "isinstance") (rIsi K) := h ▸ call_isi
theorem ix_tupK {K : PySem.W.Frag} (h : X.K = K) : IxR X (rIxT K) := h ▸ ix_tup
theorem ix_listK {K : PySem.W.Frag} (h : X.K = K) : IxR X (rIxL K) := h ▸ ix_list
/-! ### powers of great numbers; xs[i] op= e -/
def CPowW (i j : Int) : Prop := 0 ≤ j ∧ (Builtin.Int.intBits i : Int) * j ≤ 2 ^ 27
theorem op_powW : OpR X (binaryOp .Pow) (rI CPowW fun i j => .int (i ^ j.toNat)) := opI fun i j _ _ _ _ _ hc q => PyProof.Rows.pow_int hc.1 hc.2 q
def rCatL (K : PySem.W.Frag) : R2 := fun x y H Q => ∃ l b xs zs, x = .ref l ∧ y = .ref b ∧ SqL K H l xs ∧ SqL K H b zs ∧ xs.length + zs.length ≤ sizeLine ∧ ∀ p, H p = none → Q (.ref p) (upd H p (.lst (xs ++ zs)))
/-- list + list, also of a list that no one may write -/
theorem op_catL : OpR X (binaryOp .Add) (rCatL X.K) := by
  intro pins s σ H x y v u Q I rx ry h
  obtain ⟨l, b, xs, zs, rfl, rfl, hH, hB, hz, q⟩ := h
  cases rx
  cases ry
  obtain ⟨its, r, pl, _⟩ := I.list hH
  obtain ⟨its2, r2, pl2, _⟩ := I.list hB
  have hl := r.length
  have hl2 := r2.length
  obtain ⟨⟨cls, dd, data, sl⟩, ho, hc, n, hd⟩ := id pl.isList
  obtain ⟨⟨cls2, dd2, data2, sl2⟩, ho2, hc2, n2, hd2⟩ := id pl2.isList
  simp only at hc hd hc2 hd2
  subst hc hd hc2 hd2
  have e : its.toArray ++ its2.toArray = (its ++ its2).toArray := by simp
  refine concat_meets ⟨_, ho, rfl⟩ ⟨_, ho2, rfl⟩ noFill_list_add seq_list_add PySem.F.slot_list_add PySem.F.entry_list_add (PySem.F.args_list_add_2 _ _) (list_addW l b its.toArray its2.toArray n n2 dd dd2 sl sl2 (by rw [List.size_toArray, List.size_toArray]; omega)) ⟨ho, ho2, ?_⟩
  rw [e]
  exact ⟨.ref _, _, I.lnew (t' := s.toks) (r.append r2) (by rw [List.length_append]; omega), rfl, q _ I.fresh⟩
def rGetL (K : PySem.W.Frag) : V → V → Hp → VK → Prop := fun x y H Q => ∃ (p : Addr) (xs : List V) (j : Nat) (v : V), x = .ref p ∧ y = .int j ∧ SqL K H p xs ∧ xs[j]? = some v ∧ Q v H
theorem pget_list : PGet X (rGetL X.K) := by
  intro pins s σ H o i ov iv Q I r1 r2 h
  obtain ⟨p, xs, j, v, rfl, rfl, hq, hv, q⟩ := h
  obtain rfl : ov = Value.ref p := r1
  obtain ⟨t, rfl⟩ := r2
  obtain ⟨its, r, pl, hz⟩ := I.list hq
  obtain ⟨u, hu, ru⟩ := r.get hv
  have hj := (List.getElem?_eq_some_iff.mp hu).1
  have hl := r.length
  have h63 := line63
  exact getItem_listL pl.isList (by omega) (by omega) (by simpa using hu) ⟨v, H, I, ru, q⟩
end
theorem pow_ok {i : Int} {n e : Nat} (h : i.natAbs < 2 ^ n) (hn : 0 < n) (hz : n * e ≤ 2 ^ 27) : CPowW i (e : Int) := by
  refine ⟨by omega, ?_⟩
  have h1 : Builtin.Int.intBits i ≤ n := by
    have q := PySem.Flt.log2_lt_of hn h
    unfold Builtin.Int.intBits
    split <;> omega
  have h2 : Builtin.Int.intBits i * e ≤ n * e := Nat.mul_le_mul_right e h1
  have h3 : ((Builtin.Int.intBits i * e : Nat) : Int) ≤ ((2 ^ 27 : Nat) : Int) := Int.ofNat_le.mpr (Nat.le_trans h2 hz)
  rw [Int.natCast_mul] at h3
  exact h3
end Em

namespace Em
open PySem PySem.Spec PyProof.Rows L2 Qt

/-! ### a law's end: nothing is being shown around the law's call -/
def LawG (l : PySem.W.OpenLaw) (w : World) (K : PySem.W.Frag) (k n : Nat) (x : Str) (mg : Str → Option Value) (fa : Addr) (h : Heap) : Prop :=
  ∃ (fd : FuncData) (cs : List (Addr × Addr)) (sp : Sp), (∀ p ∈ cs, h.get? p.2 = some { cls := .none, data := .fields #[] } ∧ K.lookup p.2 = none ∧ PySem.W.CodeHd h p.1 p.2) ∧ (∀ (s : Shared) (u : Value), BindsTo s fd ⟨[u], []⟩ [(x, u)]) ∧
    (∀ (H : Hp) (a : Addr) (ns : List Int), ns.length ≤ n → (∀ z ∈ ns, Builtin.Int.intBits z ≤ 1048576) → (∀ p ∈ cs, H p.2 = some (.tbl #[])) → SqL K H a (ns.map V.int) → sp [.ref a] H (fun v _ => v = .bl true) fun _ _ _ => False) ∧
    ∀ base : Heap, K.In base → base.Ns mainGlobals mg → (∀ p ∈ cs, GxR.TabB base mg p.1 p.2) → FnG l.prog w K mg base CX0 k fa fd [x] sp

section
variable {P : Program} {w : World} {K : PySem.W.Frag} {mg mb : Str → Option Value} {k : Nat} {fa a : Addr} {cs : List (Addr × Addr)} {fd : FuncData} {x : Str} {sp : Sp} {s : Shared} {vs : List Value} {ns : List Int}
/-- what is tracked as the law begins: the tables, and the script if it is no written thing -/
def hp0 (K : PySem.W.Frag) (cs : List (Addr × Addr)) (a : Addr) (vs : List Value) (ns : List Int) : Hp := fun b =>
  if b ∈ cs.map (·.2) then some (.tbl #[]) else if b = a ∧ K.lookup a = none then some (.frz { cls := .type "list", data := .seq vs.toArray } (.lst (ns.map V.int))) else none
theorem hp0_tab {b : Addr} (h : b ∈ cs.map (·.2)) : hp0 K cs a vs ns b = some (.tbl #[]) := by unfold hp0; rw [if_pos h]
theorem hp0_scr (h : a ∉ cs.map (·.2)) (hk : K.lookup a = none) : hp0 K cs a vs ns a = some (.frz { cls := .type "list", data := .seq vs.toArray } (.lst (ns.map V.int))) := by
  unfold hp0; rw [if_neg h, if_pos ⟨rfl, hk⟩]
theorem hp0_cases {b : Addr} {o : HO} (h : hp0 K cs a vs ns b = some o) : (b ∈ cs.map (·.2) ∧ o = .tbl #[]) ∨ (b ∉ cs.map (·.2) ∧ b = a ∧ K.lookup a = none ∧ o = .frz { cls := .type "list", data := .seq vs.toArray } (.lst (ns.map V.int))) := by
  unfold hp0 at h
  by_cases h1 : b ∈ cs.map (·.2)
  · rw [if_pos h1] at h; exact .inl ⟨h1, (Option.some.inj h).symm⟩
  · rw [if_neg h1] at h
    by_cases h2 : b = a ∧ K.lookup a = none
    · rw [if_pos h2] at h; exact .inr ⟨h1, h2.1, h2.2, (Option.some.inj h).symm⟩
    · rw [if_neg h2] at h; cases h

theorem law_endG (KX : K.In s.heap) (n1 : s.heap.Ns mainGlobals mg) (n2 : s.heap.Ns builtinsNs mb) (n3 : ∀ x : Str, x ≠ "__name__" → mb x = bootBuiltins x) (lim : s.heap.NoLimit) (hg : s.gens = #[])
    (hT : ∀ p ∈ cs, s.heap.get? p.2 = some { cls := .none, data := .fields #[] } ∧ K.lookup p.2 = none ∧ PySem.W.CodeHd s.heap p.1 p.2)
    (hbm : ∃ (bm : Addr) (ob : Obj), mg "__builtins__" = some (.ref bm) ∧ bm ≠ builtinsNs ∧ s.heap.get? bm = some ob ∧ ob.cls = .type "module" ∧ ob.dict = some builtinsNs ∧ ob.data = .plain)
    (ha : s.heap.get? a = some { cls := .type "list", data := .seq vs.toArray }) (hi : IntsAre vs ns) (hl : ns.length ≤ sizeLine) (rm : Room k callerA)
    (F : ∀ base : Heap, K.In base → base.Ns mainGlobals mg → (∀ p ∈ cs, GxR.TabB base mg p.1 p.2) → FnG P w K mg base CX0 k fa fd [x] sp) (hb : ∀ (s : Shared) (u : Value), BindsTo s fd ⟨[u], []⟩ [(x, u)])
    (hsp : ∀ H : Hp, (∀ p ∈ cs, H p.2 = some (.tbl #[])) → SqL K H a (ns.map V.int) → sp [.ref a] H (fun v _ => v = .bl true) fun _ _ _ => False) :
    codeAny (model P w) callerA (.call (.ref fa) ⟨[.ref a], []⟩) (fun r s' => r = .ok (.ret (.bool true)) ∧ OldK s.heap s'.heap ∧ s'.os = s.os ∧ AllBare s'.gens) s := by
  have rv := vals_ints hi
  have lenV := hi.length
  obtain ⟨H, eH⟩ : ∃ H, H = hp0 K cs a vs ns := ⟨_, rfl⟩
  have memT : ∀ p ∈ cs, p.2 ∈ cs.map (·.2) := fun p hp => List.mem_map.mpr ⟨p, hp, rfl⟩
  have tabH : ∀ b, b ∈ cs.map (·.2) → s.heap.get? b = some { cls := .none, data := .fields #[] } ∧ K.lookup b = none := fun b hb => by
    obtain ⟨p, hp, e⟩ := List.mem_map.mp hb
    rw [← e]
    exact ⟨(hT p hp).1, (hT p hp).2.1⟩
  have aT : a ∉ cs.map (·.2) := fun z => by
    have q := (tabH a z).1
    rw [ha] at q
    have q2 : Data.seq vs.toArray _ = Data.fields #[] := congrArg Obj.data (Option.some.inj q)
    cases q2
  have hS : SqL K H a (ns.map V.int) := by
    cases hk : K.lookup a with
    | none => exact .inl (.inr ⟨_, by rw [eH]; exact hp0_scr aT hk⟩)
    | some o =>
      have e := KX a o hk
      rw [ha] at e
      cases e
      exact .inr ⟨_, vs.toArray, _, hk, rfl, rfl, rfl, by rw [List.size_toArray, lenV]; exact hl, by simpa using rv⟩
  have hH : ∀ p ∈ cs, H p.2 = some (.tbl #[]) := fun p hp => by rw [eH]; exact hp0_tab (memT p hp)
  have hok : HOk P w H s.heap := fun b o e => by
    rw [eH] at e
    rcases hp0_cases e with ⟨h1, rfl⟩ | ⟨h1, rfl, hk, rfl⟩
    · exact (tabH b h1).1
    · exact ⟨ha, by rw [List.length_map]; exact hl, vs, _, rv, ha⟩
  -- what is neither a sequence nor an empty table is untracked
  have out : ∀ {b : Addr} {o : Obj}, s.heap.get? b = some o → (∀ us n, o.data ≠ .seq us n) → o.data ≠ .fields #[] → H b = none := fun {b o} e h1 h2 => by
    cases q : H b with
    | none => rfl
    | some u =>
      rw [eH] at q
      rcases hp0_cases q with ⟨h3, _⟩ | ⟨_, h3, _⟩
      · rw [(tabH b h3).1] at e; cases e; exact absurd rfl h2
      · rw [h3, ha] at e; cases e; exact absurd rfl (h1 _ _)
  have keepB : ∀ {b : Addr} {o : Obj}, s.heap.get? b = some o → H b = none → (hidT s.heap H).get? b = some o := fun e n => hidT_get e n
  have nsB : ∀ {b : Addr} {m : Str → Option Value}, s.heap.Ns b m → (hidT s.heap H).Ns b m := fun {b m} ⟨o, es, ep, e, d, r⟩ =>
    ⟨o, es, ep, keepB e (out e (fun us n z => by rw [d] at z; cases z) fun z => by rw [d] at z; cases z), d, r⟩
  have KB : K.In (hidT s.heap H) := fun b o e => keepB (KX b o e) (by
    cases q : H b with
    | none => rfl
    | some u =>
      rw [eH] at q
      rcases hp0_cases q with ⟨h3, _⟩ | ⟨_, h3, h4, _⟩
      · rw [(tabH b h3).2] at e; cases e
      · rw [h3, h4] at e; cases e)
  have MB : L2.Mod K mg (hidT s.heap H) := ⟨KB, nsB n1, ⟨mb, nsB n2, n3⟩, let ⟨mc, h1, h2⟩ := lim; ⟨mc, nsB h1, h2⟩⟩
  have TB : ∀ p ∈ cs, GxR.TabB (hidT s.heap H) mg p.1 p.2 := fun p hp => by
    obtain ⟨t1, t2, o, us, file, tf, flags, tg, inF, text, tt, e1, r1, r2, r3, r4, r5, r6, r7, r8, hne⟩ := hT p hp
    obtain ⟨bm, ob, b1, b2, b3, b4, b5, b6⟩ := hbm
    refine ⟨⟨o, us, file, tf, flags, tg, inF, text, tt, keepB e1 (out e1 (fun vs n z => by rw [r2] at z; cases z) fun z => by rw [r2] at z; cases z; simp at r3), r1, r2, r3, r4, r5, r6, r7, r8, hne⟩,
      ⟨bm, ob, b1, b2, fun q => ?_, fun q => ?_, keepB b3 (out b3 (fun vs n z => by rw [b6] at z; cases z) fun z => by rw [b6] at z; cases z), b4, b5, b6⟩, fun z => ?_⟩
    · obtain ⟨o, es, ep, e, hd, _⟩ := n1
      rw [q, e] at b3; cases b3
      rw [hd] at b6; cases b6
    · rw [q, t1] at b3; cases b3; cases b6
    · obtain ⟨o, es, ep, e, hd, _⟩ := n1
      rw [z, t1] at e; cases e; cases hd
  have e0 : Env0 P w K mg (hidT s.heap H) callerA [] s H := ⟨rfl, MB, fun b o e => of_hidT e, Nat.le_of_eq (hidT_size _ _), trivial, fun b hb => absurd (show b ∈ ([] : List Addr) from hb) (by simp), hok, .of_eq hg⟩
  refine codeAny_mono ((F _ KB (nsB n1) TB).go callerA [] s H ⟨[.ref a], []⟩ [.ref a] [.ref a] _ _ rfl rm e0 (hb s (.ref a)) (.cons rfl .nil) (hsp H hH hS)) fun r s' h => ?_
  cases r with
  | error e => exact absurd (show False from h) (fun z => z)
  | ok fl =>
    cases fl with
    | next => exact absurd (show False from h) (fun z => z)
    | brk => exact absurd (show False from h) (fun z => z)
    | cont => exact absurd (show False from h) (fun z => z)
    | ret u =>
      obtain ⟨v, H', hos, bare, un, hok', r', q⟩ := h
      subst q
      obtain rfl : u = Value.bool true := r'
      have noA : ∀ b : Addr, b ∉ ([] : List Addr) := fun b => by simp
      have same : ∀ b o, b ∉ cs.map (·.2) → s.heap.get? b = some o → s'.heap.get? b = some o := fun b o nb e => by
        cases q : H b with
        | none => exact un.keep b o e q (fun z => absurd (show b ∈ ([] : List Addr) from z) (noA b)) (noA b)
        | some u =>
          have q0 := q
          rw [eH] at q
          rcases hp0_cases q with ⟨h3, _⟩ | ⟨_, h3, h4, rfl⟩
          · exact absurd h3 nb
          · obtain ⟨e1, _⟩ := hok b _ q0
            obtain ⟨e2, _⟩ := hok' b _ (un.frzs b _ _ q0)
            rw [e] at e1
            cases e1
            exact e2
      have more : ∀ b, b ∈ cs.map (·.2) → ∃ m : Array Value, s'.heap.get? b = some { cls := .none, data := .fields m } := fun b hb => by
        obtain ⟨p, hp, e⟩ := List.mem_map.mp hb
        obtain ⟨m, z⟩ := un.tbls p.2 #[] (hH p hp)
        rw [← e]
        exact ⟨_, hok' p.2 _ z⟩
      refine ⟨rfl, ⟨fun b o e => ?_, fun b o e => ?_⟩, hos, bare⟩
      · by_cases hb : b ∈ cs.map (·.2)
        · obtain ⟨m, hm⟩ := more b hb
          obtain ⟨p, hp, ep⟩ := List.mem_map.mp hb
          rw [(tabH b hb).1] at e
          cases e
          refine .inr (.inl ⟨?_, rfl, #[], m, rfl, by rw [Array.empty_append]; exact hm⟩)
          rw [← ep]
          exact ((hT p hp).2.2.tab (hT p hp).1).isCodeTable
        · exact .inl (same b o hb e)
      · by_cases hb : b ∈ cs.map (·.2)
        · obtain ⟨m, hm⟩ := more b hb
          exact ⟨_, hm⟩
        · exact ⟨o, same b o hb e⟩
end
theorem walkG {l : PySem.W.OpenLaw} {n k : Nat} {q : Program} {loose : List Str} {XP : (Str → Option Value) → Heap → Prop} {YP : World → Heap → Prop} {d : DefRec} {x : Str}
    (hn : l.most = some n) (hn2 : n ≤ sizeLine) (hdf : d.params.defaults = []) (rm : Room k callerA)
    (F : ∀ (w : World) (mg : Str → Option Value) (fa : Addr) (h : Heap), YP w h → h.Ns mainGlobals mg → mg d.name = some (.ref fa) → ∃ K : PySem.W.Frag, K.In h ∧ LawG l w K k n x mg fa h) :
    PySem.W.WalkO q loose XP YP l.row.toRowW d [] (fun f vs => PySem.call f vs) := by
  refine Att.attach_callB hn hdf fun w s0 s1 mg mb fa o pm cd doc a vs ns G Y ho hd hcd hmg hobj hints hlen hbits hg => ?_
  obtain ⟨K, KX, fd, cs, sp, hT, hb, hsp, hF⟩ := F w mg fa _ Y G.T.g hmg
  exact law_endG KX G.T.g G.T.b G.T.builtins G.T.nolimit hg hT G.T.bmain hobj hints (Nat.le_trans hlen hn2) rm hF hb fun H hH hS => hsp H a ns hlen hbits hH hS
/-! ### facts of the head -/
theorem funOf {K : PySem.W.Frag} {x qual : Str} {st : Stmt} {f : Addr} {fd : FuncData} (F : FunD K x qual (defArgs st) (defBody st) (defScope st) [] [] f fd) : Fun K x qual st f fd := by
  obtain ⟨oc, od, dV, kV, doc, pm, an, cdv, ct, osl, e, lk, hcd, hD, hK⟩ := F.ex
  rcases hD with ⟨_, rfl⟩ | ⟨z, _⟩
  · exact ⟨⟨oc, od, kV, doc, pm, an, cdv, ct, osl, e, lk, hcd⟩, F.kp⟩
  · exact absurd rfl z
/-- a def of the module: where it stands, how it is called -/
structure Df (K : PySem.W.Frag) (mg : Str → Option Value) (x : Str) (st : Stmt) (ps : List Str) (f : Addr) (fd : FuncData) : Prop where
  F : Fun K x x st f fd
  b : Binds K fd ps []
  g : mg x = some (.ref f)
/-- its code's object -/
def CodeIs (K : PySem.W.Frag) (f c : Addr) : Prop := ∀ oc od fd osl, K.lookup f = some ⟨oc, od, .func fd, osl⟩ → fd.code = .ref c
theorem codeIs_of {K : PySem.W.Frag} {x qual : Str} {st : Stmt} {p : Str × Option Str} {fd : FuncData} (F : Fun K x qual st (He.fAd K p) fd) : CodeIs K (He.fAd K p) (He.codeOf K p) := by
  obtain ⟨oc, od, kV, doc, pm, an, cdv, ct, osl, e, lk, hcd⟩ := F.ex
  obtain ⟨c, hc⟩ := He.codeIn_ref hcd
  have h1 : He.codeOf K p = c := He.codeOf_eq lk (by rw [e]; exact hc)
  intro oc2 od2 fd2 osl2 lk2
  rw [lk] at lk2
  cases lk2
  rw [h1, e]
  exact hc
theorem Df.mk' {K : PySem.W.Frag} {mg : Str → Option Value} {x : Str} {st : Stmt} {ps : List Str} {f : Addr} {fd : FuncData} (F : FunD K x x (defArgs st) (defBody st) (defScope st) [] [] f fd) (hm : mg x = some (.ref f))
    (h : ∀ (kV doc pm : Value) (an : Option Addr) (cdv ct : Value) (us : List Value), us.length = ps.length → bindArgs (PySem.W.fnOf x x (defArgs st) (defBody st) (defScope st) .none kV doc pm an cdv ct) ⟨us, []⟩ = pure (ps.zip us)) : Df K mg x st ps f fd :=
  ⟨funOf F, F.bindsN h, hm⟩
/-- as Fun.ok, the code's object known -/
theorem okC {P : Program} {w : World} {K : PySem.W.Frag} {mg : Str → Option Value} {base : Heap} {k : Nat} {f c : Addr} {fd : FuncData} {ps : List Str} {sp : Sp} {x qual : Str} {st : Stmt} {N : List Str} (F : Fun K x qual st f fd) (hC : CodeIs K f c) (S : FnScope N ps (defScope st)) (len : ∀ vs H Q E, sp vs H Q E → vs.length = ps.length)
    (hbody : ∀ (A : Around) (outer : List Env) (s : Shared) (H : Hp) (vs : List V) (Q : VK) (E : XK), Room k (A.deeper (envOfC qual (defScope st) s.heap.objs.size f (.ref c))) → sp vs H Q E →
      ∃ t, PSs (cxOf CX0 P w K mg base N qual (defScope st) f (.ref c) A outer s H E).nox (defBody st) t ∧ t { nx := fun _ H' => Q .non H', rt := Q } (start N vs) H) : FnOk P w K mg base CX0 (k + 1) f fd ps sp := by
  obtain ⟨oc, od, kV, doc, pm, an, cdv, ct, osl, rfl, lk, hcd⟩ := F.ex
  have hc : cdv = .ref c := hC _ _ _ _ lk
  subst hc
  refine fn_of lk hcd S len fun A outer s H vs Q E hr hs => ?_
  obtain ⟨t, h, q⟩ := hbody A outer s H vs Q E hr hs
  exact ⟨t, h.nox, q⟩
end Em

namespace Em
open PySem PySem.Spec PyProof.Rows L2 Qt

/-! ### what a net is, of any data -/
def isW : PyData → Bool
  | .int _ => true
  | _ => false
def numB (m : Nat) : PyData → Bool
  | .int i => decide (0 ≤ i) && decide (i < (m : Int))
  | _ => false
def lenB : PyData → Bool
  | .int i => !decide (i < 1)
  | _ => false
def nxB (m : Nat) : PyData → Bool
  | .none => true
  | d => numB m d
def lampB (m : Nat) : PyData → Bool
  | .tuple [l, o] => lenB l && nxB m o
  | _ => false
def netB : PyData → Bool
  | .tuple ds => !decide ((ds.length : Int) < 1) && !decide ((12 : Int) < (ds.length : Int)) && (ds.map (lampB ds.length)).all id
  | _ => false

/-! ### the class of data -/
def kname : PyData → String
  | .none => "NoneType"
  | .bool _ => "bool"
  | .int _ => "int"
  | .str _ => "str"
  | .list _ => "list"
  | .tuple _ => "tuple"
  | .dict _ => "dict"
theorem knd_of {c : Qc} {S : List Addr} (O : c.Ok) : ∀ {v : V} {d : PyData}, Dx S c.H v d → Knd c v (kname d)
  | _, _, .non => .non
  | _, _, .bl b => .bl b
  | _, _, .int i => .int i
  | _, _, .str z => .str z
  | _, _, .lst n h r => by
    obtain ⟨_, its, m, _, e⟩ := O.hok _ _ h
    exact .lst ⟨_, e, rfl⟩
  | _, _, .tup n h r => by
    obtain ⟨_, its, _, o, e, ec, _⟩ := O.hok _ _ h
    exact .tup ⟨o, e, ec⟩
  | _, _, .dic n h => by
    obtain ⟨_, _, vs, _, o, es, ep, e, q, _⟩ := O.hok _ _ h
    exact .dic ⟨o, e, q.1⟩
theorem tupQ_of {c : Qc} (O : c.Ok) {a : Addr} {xs : List V} (h : c.H a = some (.tup xs)) : TupQ c a xs := by
  obtain ⟨hz, its, rv, ht⟩ := O.hok _ _ h
  exact ⟨its, rv, ht, hz⟩
/-- isinstance(x, C) of data -/
def kindS (k C : String) : Bool := k == C || (k == "bool" && C == "int")
def kindB (d : PyData) (C : String) : Bool := kindS (kname d) C
def kinds : List String := ["NoneType", "bool", "int", "str", "list", "tuple", "dict"]
theorem kname_mem (d : PyData) : kname d ∈ kinds := by cases d <;> simp [kname, kinds]
def cls4 : List String := ["int", "bool", "tuple", "list"]
theorem kits : ∀ C ∈ cls4, ∀ k ∈ kinds, kitB k C = some (kindS k C) := by decide +kernel
theorem kit_data {K : PySem.W.Frag} {d : PyData} {C : String} (hC : C ∈ cls4) : PySem.W.kitOne K (.type (kname d)) (.type C) = some (kindB d C) := kit_ty (kits C hC _ (kname_mem d))
theorem qe_isi {c : Qc} {k : Nat} {env : Env} {N : Nm} {S : List Addr} {v : V} {d : PyData} {C : String} {e : Expr} {p1 p2 pos : Pos} (O : c.Ok) (h : Dx S c.H v d) (he : QE c k env N e v) (hg : env.kindOf ("isinstance" : Str) = some .globalImplicit) (hm : c.mg "isinstance" = none)
    (hgC : env.kindOf (Str.ofString C) = some .globalImplicit) (hmC : c.mg (Str.ofString C) = none) (hvC : bootBuiltins (Str.ofString C) = some (.type C)) (hC : C ∈ cls4)
    (hn : (Str.ofString C) ≠ "__name__" := by decide) (hd : ((Str.ofString C) == ("__debug__" : Str)) = false := by decide)
    (s1 : starEach (e :: [.Name (Str.ofString C) p2]) env = (false, eval e env) :: starEach [.Name (Str.ofString C) p2] env := by rfl) (s2 : starEach (.Name (Str.ofString C) p2 :: []) env = (false, eval (.Name (Str.ofString C) p2) env) :: starEach [] env := by rfl)
    (hpl : (backTo pos (starEach [.Name (Str.ofString C) p2] env)).any (·.1) = false := by rfl) :
    QE c k env N (.Call (.Name "isinstance" p1) (e :: [.Name (Str.ofString C) p2]) [] pos) (.bl (kindB d C)) :=
  q_callB O (qc_isi O (knd_of O h) (kit_data hC)) hg hm (by decide +kernel) (qa_cons he (qa_cons (q_blt (v := .ty C) O hgC hmC hvC rfl hn hd) qa_nil s2) s1) (by decide) (by decide) s1 hpl
theorem tyx_of {K : PySem.W.Frag} {S : List Addr} {H : Hp} : ∀ {v : V} {d : PyData}, Dx S H v d → TyX K H v (.type (kname d))
  | _, _, .non => .base .non
  | _, _, .bl b => .base (.bl b)
  | _, _, .int i => .base (.int i)
  | _, _, .str z => .base (.str z)
  | _, _, .lst n h r => .base (.lst h)
  | _, _, .tup n h r => .base (.tup h)
  | _, _, .dic n h => .base (.dK h)
mutual
theorem Dx.wiped {S : List Addr} {H : Hp} {P : Addr} (t : GxR.TabG H P) : ∀ {v : V} {d : PyData}, Dx S H v d → Dx S (wipe H P) v d
  | _, _, .non => .non
  | _, _, .bl b => .bl b
  | _, _, .int i => .int i
  | _, _, .str z => .str z
  | _, _, .lst n h r => .lst n (wipe_at (fun z => by obtain ⟨ps, e, _⟩ := t; rw [z, e] at h; cases h) h) (DxA.wiped t r)
  | _, _, .tup n h r => .tup n (wipe_at (fun z => by obtain ⟨ps, e, _⟩ := t; rw [z, e] at h; cases h) h) (DxA.wiped t r)
  | _, _, .dic n h => .dic n (wipe_at (fun z => by obtain ⟨ps, e, _⟩ := t; rw [z, e] at h; cases h) h)
theorem DxA.wiped {S : List Addr} {H : Hp} {P : Addr} (t : GxR.TabG H P) : ∀ {v : List V} {d : List PyData}, DxA S H v d → DxA S (wipe H P) v d
  | _, _, .nil => .nil
  | _, _, .cons h r => .cons (Dx.wiped t h) (DxA.wiped t r)
end
theorem free_by {names : List (Str × NameKind)} {sc : Scope} {n : Nat} (h : names.all (fun y => y.2 != .free || sc.names.lookup y.1 == some .cell) = true) : ∀ y ∈ names, y.2 = .free → ∃ c, (cellsFrom n sc.names []).lookup y.1 = some c := fun y hy e => by
  have q := List.all_eq_true.mp h y hy
  rw [e] at q
  exact cell_has (by simpa using q)
end Em

namespace Em
open PySem PySem.Spec PyProof.Rows L2 Qt

/-! ### nets -/
abbrev Net := List (Int × Option Nat)
def nxD : Option Nat → PyData
  | none => .none
  | some n => .int n
def nxV : Option Nat → V
  | none => .non
  | some n => .int n
def lampD (p : Int × Option Nat) : PyData := .tuple [.int p.1, nxD p.2]
def netD (N : Net) : PyData := .tuple (N.map lampD)
structure NetOk (N : Net) : Prop where
  lo : 1 ≤ N.length
  hi : N.length ≤ 12
  len : ∀ p ∈ N, 1 ≤ p.1
  nx : ∀ p ∈ N, ∀ y, p.2 = some y → y < N.length
theorem netB_of {N : Net} (h : NetOk N) : netB (netD N) = true := by
  have h1 := h.lo
  have h2 := h.hi
  show (!decide (((N.map lampD).length : Int) < 1) && !decide ((12 : Int) < ((N.map lampD).length : Int)) && ((N.map lampD).map (lampB (N.map lampD).length)).all id) = true
  rw [List.length_map, decide_eq_false (by omega), decide_eq_false (by omega)]
  simp only [Bool.not_false, Bool.true_and, List.map_map, List.all_eq_true]
  intro b hb
  obtain ⟨p, hp, rfl⟩ := List.mem_map.mp hb
  have e1 := h.len p hp
  have e2 := h.nx p hp
  obtain ⟨l, o⟩ := p
  have h3 : ¬ l < 1 := by simp only at e1; omega
  show (!decide (l < 1) && nxB N.length (nxD o)) = true
  rw [decide_eq_false h3]
  cases o with
  | none => rfl
  | some y =>
    have := e2 y rfl
    show (decide ((0 : Int) ≤ (y : Int)) && decide ((y : Int) < (N.length : Int))) = true
    rw [decide_eq_true (by omega), decide_eq_true (by omega)]
    rfl
/-- the next lamp -/
def nxt (N : Net) (x : Nat) : Option Nat := (N.getD x (1, none)).2
theorem nxt_get {N : Net} {x : Nat} {p : Int × Option Nat} (h : N[x]? = some p) : nxt N x = p.2 := by
  unfold nxt
  rw [List.getD_eq_getElem?_getD, h]
  rfl
theorem nxt_lt {N : Net} (h : NetOk N) {x y : Nat} (e : nxt N x = some y) : y < N.length := by
  by_cases hx : x < N.length
  · have g := List.getElem?_eq_getElem hx
    rw [nxt_get g] at e
    exact h.nx _ (List.getElem_mem hx) y e
  · unfold nxt at e
    rw [List.getD_eq_getElem?_getD, List.getElem?_eq_none (by omega)] at e
    cases e

/-! ### the way from a lamp: one step more while there is a lamp that was not come by -/
def lastOf (g : List Nat) : Nat := g.getLastD 0
def step (N : Net) (g : List Nat) : List Nat := match nxt N (lastOf g) with
  | none => g
  | some y => if y ∈ g then g else g ++ [y]
def itr {α : Type} (f : α → α) : Nat → α → α
  | 0, a => a
  | n + 1, a => f (itr f n a)
def path (N : Net) (x : Nat) : List Nat := itr (step N) N.length [x]
/-- the way's two parts -/
def cutAt (N : Net) (g : List Nat) : Nat := match nxt N (lastOf g) with
  | none => g.length
  | some y => g.idxOf y
def wayA (N : Net) (x : Nat) : List Nat := (path N x).take (cutAt N (path N x))
def wayR (N : Net) (x : Nat) : List Nat := (path N x).drop (cutAt N (path N x))
def natsD (g : List Nat) : PyData := .tuple (g.map fun n : Nat => .int (n : Int))
def wayD (N : Net) (x : Nat) : PyData := .tuple [natsD (wayA N x), natsD (wayR N x)]
theorem itr_fix {α : Type} {f : α → α} {a : α} (h : f a = a) : ∀ n, itr f n a = a
  | 0 => rfl
  | n + 1 => by
    show f (itr f n a) = a
    rw [itr_fix h n, h]
theorem itr_add {α : Type} {f : α → α} {a : α} (m : Nat) : ∀ n, itr f (m + n) a = itr f n (itr f m a)
  | 0 => rfl
  | n + 1 => by
    show f (itr f (m + n) a) = f (itr f n (itr f m a))
    rw [itr_add m n]
theorem last_app (g : List Nat) (y : Nat) : lastOf (g ++ [y]) = y := by
  unfold lastOf
  rw [List.getLastD_eq_getLast?, List.getLast?_concat]
  rfl
/-- what is gone so far: i steps on the way -/
structure Gone (N : Net) (x i : Nat) (g : List Nat) : Prop where
  it : g = itr (step N) i [x]
  len : g.length = i + 1
  nd : g.Nodup
  lt : ∀ y ∈ g, y < N.length
theorem Gone.start {N : Net} {x : Nat} (h : x < N.length) : Gone N x 0 [x] := ⟨rfl, rfl, by simp, by simpa using h⟩
theorem Gone.more {N : Net} (o : NetOk N) {x i : Nat} {g : List Nat} (a : Gone N x i g) {y : Nat} (h : nxt N (lastOf g) = some y) (hn : y ∉ g) : Gone N x (i + 1) (g ++ [y]) := by
  refine ⟨?_, by rw [List.length_append, a.len]; rfl, ?_, fun z hz => ?_⟩
  · show g ++ [y] = step N (itr (step N) i [x])
    rw [← a.it]
    unfold step
    rw [h]
    simp only [hn, if_false]
  · rw [List.nodup_append]
    refine ⟨a.nd, by simp, fun b hb c hc => ?_⟩
    have : c = y := by simpa using hc
    subst this
    exact fun e => hn (e ▸ hb)
  · rcases List.mem_append.mp hz with hz | hz
    · exact a.lt z hz
    · have : z = y := by simpa using hz
      rw [this]
      exact nxt_lt o h
theorem nodup_le : ∀ {n : Nat} {g : List Nat}, g.Nodup → (∀ y ∈ g, y < n) → g.length ≤ n
  | 0, g, _, h2 => by
    cases g with
    | nil => exact Nat.le_refl _
    | cons y r => exact absurd (h2 y List.mem_cons_self) (Nat.not_lt_zero _)
  | n + 1, g, h1, h2 => by
    by_cases hn : n ∈ g
    · have h3 := nodup_le (n := n) (g := g.erase n) (h1.erase n) fun y hy => by
        have q := (h1.mem_erase_iff).mp hy
        have := h2 y q.2
        have := q.1
        omega
      rw [List.length_erase_of_mem hn] at h3
      omega
    · have h3 := nodup_le (n := n) h1 fun y hy => by
        have := h2 y hy
        have : y ≠ n := fun e => hn (e ▸ hy)
        omega
      omega
theorem Gone.le {N : Net} {x i : Nat} {g : List Nat} (a : Gone N x i g) : g.length ≤ N.length := nodup_le a.nd a.lt
/-- where no step is left, that is the whole path -/
theorem Gone.done {N : Net} {x i : Nat} {g : List Nat} (a : Gone N x i g) (h : step N g = g) : path N x = g := by
  have hl := a.le
  have e : N.length = i + (N.length - i) := by have := a.len; omega
  unfold path
  rw [e, itr_add, ← a.it]
  exact itr_fix h _
theorem step_none {N : Net} {g : List Nat} (h : nxt N (lastOf g) = none) : step N g = g := by unfold step; rw [h]
theorem step_in {N : Net} {g : List Nat} {y : Nat} (h : nxt N (lastOf g) = some y) (hy : y ∈ g) : step N g = g := by unfold step; rw [h]; simp only [hy, if_true]
/-! ### nets and numbers in the heap -/
def natV (g : List Nat) : List V := g.map fun n : Nat => V.int (n : Int)
theorem natV_app (g : List Nat) (y : Nat) : natV (g ++ [y]) = natV g ++ [.int y] := by unfold natV; rw [List.map_append]; rfl
theorem natV_len (g : List Nat) : (natV g).length = g.length := by unfold natV; rw [List.length_map]
theorem natV_get {g : List Nat} {i y : Nat} (h : g[i]? = some y) : (natV g)[i]? = some (.int y) := by unfold natV; rw [List.getElem?_map, h]; rfl
theorem natV_flat (g : List Nat) : (natV g).all flatV = true := by
  unfold natV
  rw [List.all_eq_true]
  intro v hv
  obtain ⟨n, _, rfl⟩ := List.mem_map.mp hv
  rfl
theorem inV_natV {x : Nat} (g : List Nat) : inV (.int x) (natV g) = decide (x ∈ g) := by
  rw [Bool.eq_iff_iff, decide_eq_true_iff]
  unfold inV natV
  rw [List.any_eq_true]
  constructor
  · rintro ⟨v, hv, e⟩
    obtain ⟨n, hn, rfl⟩ := List.mem_map.mp hv
    have e1 : ((n : Int) == (x : Int)) = true := e
    have e2 : n = x := by have := beq_iff_eq.mp e1; omega
    exact e2 ▸ hn
  · intro h
    exact ⟨_, List.mem_map.mpr ⟨x, h, rfl⟩, by show ((x : Int) == (x : Int)) = true; simp⟩
theorem nwA_natV {H H1 : Hp} : ∀ g : List Nat, NwA H H1 (natV g) (g.map fun n : Nat => PyData.int (n : Int))
  | [] => .nil
  | n :: r => .cons (.int _) (nwA_natV r)
theorem dx_nx {S : List Addr} {H : Hp} {v : V} {o : Option Nat} (h : Dx S H v (nxD o)) : v = nxV o := by
  cases o with
  | none => cases h; rfl
  | some n => cases h; rfl
theorem net_at {S : List Addr} {H : Hp} {v : V} {N : Net} (h : Dx S H v (netD N)) : ∃ (ad : Addr) (xs : List V), v = .ref ad ∧ ad ∉ S ∧ H ad = some (.tup xs) ∧ xs.length = N.length ∧
    ∀ (x : Nat) (p : Int × Option Nat), N[x]? = some p → ∃ la : Addr, xs[x]? = some (.ref la) ∧ la ∉ S ∧ H la = some (.tup [.int p.1, nxV p.2]) := by
  cases h with
  | @tup ad xs ds n h r =>
    refine ⟨ad, xs, rfl, n, h, by rw [r.len, List.length_map], fun x p hp => ?_⟩
    obtain ⟨w, hw, hx⟩ := r.get' (i := x) (d := lampD p) (by rw [List.getElem?_map, hp]; rfl)
    cases hx with
    | @tup la ys es m h2 r2 =>
      cases r2 with
      | cons a1 r3 =>
        cases r3 with
        | cons a2 r4 =>
          cases r4
          cases a1
          rw [dx_nx a2] at h2
          exact ⟨la, hw, m, h2⟩
theorem natV_cut0 {g : List Nat} {i : Nat} (h : i ≤ g.length) : cutV (natV g) none (some (i : Int)) = natV (g.take i) := by
  unfold cutV
  rw [show HT.sIx (natV g).length (natV g).length (some (i : Int)) = min i (natV g).length from HT.sIx_nat _ _ i, HT.sIx_none, natV_len, Nat.min_eq_left h, Nat.sub_zero, List.drop_zero]
  unfold natV
  rw [List.map_take]
theorem natV_cut1 {g : List Nat} {i : Nat} (h : i ≤ g.length) : cutV (natV g) (some (i : Int)) none = natV (g.drop i) := by
  unfold cutV
  rw [show HT.sIx (natV g).length 0 (some (i : Int)) = min i (natV g).length from HT.sIx_nat _ _ i, HT.sIx_none, natV_len, Nat.min_eq_left h]
  unfold natV
  rw [← List.map_drop, List.take_of_length_le (by rw [List.length_map, List.length_drop]; exact Nat.le_refl _)]
theorem idx_ne {g : List Nat} {j u y : Nat} (hj : j < g.idxOf y) (hu : g[j]? = some u) : u ≠ y := fun e => by
  have h := List.not_of_lt_findIdx (p := (· == y)) (xs := g) hj
  obtain ⟨h1, h2⟩ := List.getElem?_eq_some_iff.mp hu
  rw [h2, e] at h
  simp at h
theorem big_log {m : Int} (h : 0 < m) (h2 : m < 2 ^ 8000) : m.natAbs.log2 < 9000 := by
  have h3 : m.natAbs < 2 ^ 8000 := by
    have e : ((2 ^ 8000 : Nat) : Int) = (2 : Int) ^ 8000 := by rw [Int.natCast_pow]; rfl
    have : (m.natAbs : Int) < ((2 ^ 8000 : Nat) : Int) := by rw [e]; omega
    exact Int.ofNat_lt.mp this
  exact Nat.lt_of_lt_of_le (PySem.Flt.log2_lt_of (by decide) h3) (by decide)
theorem at_mem {xs : List V} {r : Int} (h0 : 0 ≤ r) (h1 : r < (xs.length : Int)) : ∃ v, atI xs r = some v ∧ v ∈ xs := by
  obtain ⟨j, rfl⟩ : ∃ j : Nat, r = (j : Int) := ⟨r.toNat, by omega⟩
  have hj : j < xs.length := by omega
  exact ⟨xs[j], atI_nat (List.getElem?_eq_getElem hj), List.getElem_mem hj⟩
theorem small64' {n : Nat} (h : n ≤ 1000) : n ≤ sizeLine := Nat.le_trans h (by decide)
/-- what a walk of so many turns has come by: a turn may have stood still -/
structure Been (N : Net) (x i : Nat) (g : List Nat) : Prop where
  it : g = itr (step N) i [x]
  pos : 1 ≤ g.length
  nd : g.Nodup
  lt : ∀ y ∈ g, y < N.length
  st : g.length = i + 1 ∨ step N g = g
theorem Been.start {N : Net} {x : Nat} (h : x < N.length) : Been N x 0 [x] := ⟨rfl, Nat.le_refl _, by simp, by simpa using h, .inl rfl⟩
theorem Been.still {N : Net} {x i : Nat} {g : List Nat} (a : Been N x i g) (h : step N g = g) : Been N x (i + 1) g := by
  refine ⟨?_, a.pos, a.nd, a.lt, .inr h⟩
  show g = step N (itr (step N) i [x])
  rw [← a.it, h]
theorem Been.more {N : Net} (o : NetOk N) {x i : Nat} {g : List Nat} (a : Been N x i g) {y : Nat} (h : nxt N (lastOf g) = some y) (hn : y ∉ g) : Been N x (i + 1) (g ++ [y]) := by
  have e : step N g = g ++ [y] := by unfold step; rw [h]; simp only [hn, if_false]
  have hl : g.length = i + 1 := by
    rcases a.st with h | h
    · exact h
    · rw [e] at h
      have := congrArg List.length h
      simp at this
  refine ⟨?_, by simp, ?_, fun z hz => ?_, .inl (by rw [List.length_append, hl]; rfl)⟩
  · show g ++ [y] = step N (itr (step N) i [x])
    rw [← a.it, e]
  · rw [List.nodup_append]
    refine ⟨a.nd, by simp, fun b hb c hc => ?_⟩
    have : c = y := by simpa using hc
    subst this
    exact fun e => hn (e ▸ hb)
  · rcases List.mem_append.mp hz with hz | hz
    · exact a.lt z hz
    · have : z = y := by simpa using hz
      rw [this]
      exact nxt_lt o h
theorem Been.le {N : Net} {x i : Nat} {g : List Nat} (a : Been N x i g) : g.length ≤ N.length := nodup_le a.nd a.lt
theorem Been.done {N : Net} {x : Nat} {g : List Nat} (a : Been N x N.length g) : path N x = g ∧ step N g = g := by
  refine ⟨a.it.symm, ?_⟩
  rcases a.st with h | h
  · have := a.le
    omega
  · exact h
theorem step_mem {N : Net} {g : List Nat} {y : Nat} (h : nxt N (lastOf g) = some y) (e : step N g = g) : y ∈ g := by
  by_cases hn : y ∈ g
  · exact hn
  · unfold step at e
    rw [h] at e
    simp only [hn, if_false] at e
    have := congrArg List.length e
    simp at this
theorem last_lt {N : Net} {x i : Nat} {g : List Nat} (a : Been N x i g) : lastOf g < N.length := by
  have h := a.pos
  unfold lastOf
  rw [List.getLastD_eq_getLast?]
  have hne : g ≠ [] := fun e => by rw [e] at h; exact absurd h (by decide)
  rw [List.getLast?_eq_some_getLast hne]
  exact a.lt _ (List.getLast_mem hne)
theorem natV_last {N : Net} {x i : Nat} {g : List Nat} (a : Been N x i g) : atI (natV g) (-1) = some (.int (lastOf g : Nat)) := by
  have h := a.pos
  have hne : g ≠ [] := fun e => by rw [e] at h; exact absurd h (by decide)
  have e := (List.dropLast_concat_getLast hne).symm
  have el : lastOf g = g.getLast hne := by
    unfold lastOf
    rw [List.getLastD_eq_getLast?, List.getLast?_eq_some_getLast hne]
    rfl
  have e2 : natV g = natV g.dropLast ++ [.int (g.getLast hne : Nat)] := by rw [← natV_app]; exact congrArg natV e
  rw [el, e2]
  exact atI_last _ _
end Em

namespace Em
open PySem PySem.Spec PyProof.Rows L2 Qt

/-! ### nets and ways as data: shown, compared -/
def Short (N : Net) : Prop := ∀ p ∈ N, p.1 < 10 ^ 60
theorem lamp_lay (p : Int × Option Nat) : (lampD p).canLay0 = true := by
  obtain ⟨l, o⟩ := p
  cases o <;> rfl
theorem all_lay {α : Type} {f : α → PyData} (h : ∀ a, (f a).canLay0 = true) : ∀ xs : List α, PyData.canLayAll0 (xs.map f) = true
  | [] => rfl
  | x :: r => by
    show ((f x).canLay0 && PyData.canLayAll0 (r.map f)) = true
    rw [h x, all_lay h r]
    rfl
theorem all_depth {α : Type} {f : α → PyData} {n : Nat} (h : ∀ a, (f a).depth ≤ n) : ∀ xs : List α, PyData.depthAll (xs.map f) ≤ n
  | [] => Nat.zero_le _
  | x :: r => by
    show max (f x).depth (PyData.depthAll (r.map f)) ≤ n
    exact Nat.max_le.mpr ⟨h x, all_depth h r⟩
theorem net_lay (N : Net) : (netD N).canLay0 = true := by
  show PyData.canLayAll0 (N.map lampD) = true
  exact all_lay lamp_lay N
theorem lamp_depth (p : Int × Option Nat) : (lampD p).depth ≤ 1 := by
  obtain ⟨l, o⟩ := p
  cases o <;> exact Nat.le_refl _
theorem net_depth (N : Net) : (netD N).depth ≤ 2 := by
  show PyData.depthAll (N.map lampD) + 1 ≤ 2
  have := all_depth lamp_depth N
  omega
theorem net_noDict (N : Net) : (netD N).hasDict = false := PyData.hasDict_of_canLay _ (net_lay N)
theorem net_shaped (N : Net) : SeqAt.shaped (netD N) = true := by
  unfold SeqAt.shaped
  rw [net_lay, decide_eq_true (Nat.le_trans (net_depth N) (by decide))]
  rfl
theorem nats_lay (g : List Nat) : (natsD g).canLay0 = true := by
  show PyData.canLayAll0 (g.map _) = true
  exact all_lay (fun _ => rfl) g
theorem nats_depth (g : List Nat) : (natsD g).depth ≤ 1 := by
  show PyData.depthAll (g.map _) + 1 ≤ 1
  have := all_depth (f := fun n : Nat => PyData.int (n : Int)) (n := 0) (fun _ => Nat.le_refl _) g
  omega
theorem way_lay (N : Net) (x : Nat) : (wayD N x).canLay0 = true := by
  show ((natsD _).canLay0 && ((natsD _).canLay0 && true)) = true
  rw [nats_lay, nats_lay]
  rfl
theorem way_depth (N : Net) (x : Nat) : (wayD N x).depth ≤ 2 := by
  show max (natsD _).depth (max (natsD _).depth 0) + 1 ≤ 2
  have h1 := nats_depth (wayA N x)
  have h2 := nats_depth (wayR N x)
  have : max (natsD (wayA N x)).depth (max (natsD (wayR N x)).depth 0) ≤ 1 := Nat.max_le.mpr ⟨h1, Nat.max_le.mpr ⟨h2, Nat.zero_le _⟩⟩
  omega
theorem way_noDict (N : Net) (x : Nat) : (wayD N x).hasDict = false := PyData.hasDict_of_canLay _ (way_lay N x)
theorem way_shaped (N : Net) (x : Nat) : SeqAt.shaped (wayD N x) = true := by
  unfold SeqAt.shaped
  rw [way_lay, decide_eq_true (Nat.le_trans (way_depth N x) (by decide))]
  rfl
/-! a number of few signs -/
theorem small_log {i : Int} (h : i.natAbs < 10 ^ 60) : i.natAbs.log2 < 200 := PySem.Flt.log2_lt_of (by decide) (Nat.lt_of_lt_of_le h (by decide))
theorem small_shown {i : Int} (h : i.natAbs < 10 ^ 60) : (PyData.shown (.int i)).length ≤ 61 := by
  have e := int_text_length_le10 (k := 60) (by decide) h
  show (Str.ofString (toString i)).length ≤ 61
  rw [PySem.ofString_length]
  exact e
theorem small_weight {i : Int} (h : i.natAbs < 10 ^ 60) : (PyData.int i).weight ≤ 200 := by
  have := small_log h
  show (if i == 0 then 0 else i.natAbs.log2 + 1) ≤ 200
  split <;> omega
structure SmallD (d : PyData) : Prop where
  sh : d.showable = true
  lv : d.leavesShort 61 = true
  wt : d.weight ≤ 600
theorem small_int {i : Int} (h : i.natAbs < 10 ^ 60) : (PyData.int i).showable = true ∧ (PyData.int i).leavesShort 61 = true := by
  have h1 := small_log h
  have h2 := small_shown h
  exact ⟨by show decide _ = true; exact decide_eq_true (by omega), by show decide _ = true; exact decide_eq_true h2⟩
theorem lamp_small {p : Int × Option Nat} (h1 : 1 ≤ p.1) (h2 : p.1 < 10 ^ 60) (h3 : ∀ y, p.2 = some y → y < 12) : SmallD (lampD p) := by
  obtain ⟨l, o⟩ := p
  have hl : l.natAbs < 10 ^ 60 := by simp only at h1 h2; omega
  obtain ⟨a1, a2⟩ := small_int hl
  have a3 := small_weight hl
  cases o with
  | none =>
    refine ⟨?_, ?_, ?_⟩
    · show ((PyData.int l).showable && (true && true)) = true
      rw [a1]; rfl
    · show ((PyData.int l).leavesShort 61 && (true && true)) = true
      rw [a2]; rfl
    · show (PyData.int l).weight + 1 + (0 + 1 + 0) ≤ 600
      omega
  | some y =>
    have := h3 y rfl
    have hy : (y : Int).natAbs < 10 ^ 60 := by omega
    obtain ⟨b1, b2⟩ := small_int hy
    have b3 := small_weight hy
    refine ⟨?_, ?_, ?_⟩
    · show ((PyData.int l).showable && ((PyData.int (y : Int)).showable && true)) = true
      rw [a1, b1]; rfl
    · show ((PyData.int l).leavesShort 61 && ((PyData.int (y : Int)).leavesShort 61 && true)) = true
      rw [a2, b2]; rfl
    · show (PyData.int l).weight + 1 + ((PyData.int (y : Int)).weight + 1 + 0) ≤ 600
      omega
theorem all_small {α : Type} {f : α → PyData} : ∀ xs : List α, (∀ a ∈ xs, SmallD (f a)) → PyData.showableAll (xs.map f) = true ∧ PyData.leavesShortAll 61 (xs.map f) = true ∧ PyData.weightAll (xs.map f) ≤ 601 * xs.length
  | [], _ => ⟨rfl, rfl, Nat.zero_le _⟩
  | x :: r, h => by
    have a := h x List.mem_cons_self
    obtain ⟨b1, b2, b3⟩ := all_small r fun y hy => h y (List.mem_cons_of_mem _ hy)
    have c := a.wt
    refine ⟨?_, ?_, ?_⟩
    · show ((f x).showable && PyData.showableAll (r.map f)) = true
      rw [a.sh, b1]; rfl
    · show ((f x).leavesShort 61 && PyData.leavesShortAll 61 (r.map f)) = true
      rw [a.lv, b2]; rfl
    · show (f x).weight + 1 + PyData.weightAll (r.map f) ≤ 601 * (r.length + 1)
      omega
theorem net_show {N : Net} (o : NetOk N) (s : Short N) : (netD N).showable = true ∧ (netD N).shown.length ≤ sizeLine := by
  have hi := o.hi
  obtain ⟨h1, h2, h3⟩ := all_small (f := lampD) N fun p hp => lamp_small (o.len p hp) (s p hp) fun y hy => by
    have := o.nx p hp y hy
    omega
  refine ⟨h1, ?_⟩
  have h4 := PyData.shown_le 61 (by decide) (netD N) h2
  have h5 : (netD N).weight ≤ 601 * 12 := Nat.le_trans h3 (Nat.mul_le_mul_left _ hi)
  have h6 : (61 + 2) * (netD N).weight ≤ 63 * (601 * 12) := Nat.mul_le_mul_left _ h5
  rw [sizeLine_eq]
  omega
/-! a way in the heap -/
theorem ints_at {S : List Addr} {H : Hp} : ∀ {xs : List V} (g : List Nat), DxA S H xs (g.map fun n : Nat => PyData.int (n : Int)) → xs = natV g
  | _, [], h => by
    cases h
    rfl
  | _, n :: r, h => by
    cases h with
    | cons a t =>
      cases a
      rw [ints_at r t]
      rfl
theorem nats_at {S : List Addr} {H : Hp} {v : V} {g : List Nat} (h : Dx S H v (natsD g)) : ∃ a : Addr, v = .ref a ∧ a ∉ S ∧ H a = some (.tup (natV g)) := by
  cases h with
  | @tup a xs ds n h r => exact ⟨a, rfl, n, by rw [h, ints_at g r]⟩
theorem way_at {S : List Addr} {H : Hp} {v : V} {N : Net} {x : Nat} (h : Dx S H v (wayD N x)) : ∃ a b c : Addr, v = .ref a ∧ a ∉ S ∧ H a = some (.tup [.ref b, .ref c]) ∧ H b = some (.tup (natV (wayA N x))) ∧ H c = some (.tup (natV (wayR N x))) ∧ b ∉ S ∧ c ∉ S := by
  cases h with
  | @tup a xs ds n h r =>
    cases r with
    | cons a1 r =>
      cases r with
      | cons a2 r =>
        cases r
        obtain ⟨b, rfl, nb, hb⟩ := nats_at a1
        obtain ⟨c, rfl, nc, hc⟩ := nats_at a2
        exact ⟨a, b, c, rfl, n, h, hb, hc, nb, nc⟩
theorem step_len (N : Net) (g : List Nat) : (step N g).length ≤ g.length + 1 := by
  unfold step
  split
  · omega
  · split
    · omega
    · rw [List.length_append]
      exact Nat.le_refl _
theorem itr_len (N : Net) (x : Nat) : ∀ n, (itr (step N) n [x]).length ≤ n + 1
  | 0 => Nat.le_refl _
  | n + 1 => by
    have h1 := itr_len N x n
    have h2 := step_len N (itr (step N) n [x])
    show (step N (itr (step N) n [x])).length ≤ _
    omega
theorem way_len {N : Net} (o : NetOk N) (x : Nat) : (natV (wayA N x)).length + (natV (wayR N x)).length ≤ 13 := by
  have h1 : (path N x).length ≤ N.length + 1 := itr_len N x N.length
  have h2 := o.hi
  rw [natV_len, natV_len]
  unfold wayA wayR
  rw [List.length_take, List.length_drop]
  omega
/-- t + u, whichever way it is made -/
theorem catA_any {K : PySem.W.Frag} {x y : V} {H : Hp} {Q : VK} {a b : Addr} {xs ys : List V} (hx : x = .ref a) (hy : y = .ref b) (h1 : SqT K H a xs) (h2 : SqT K H b ys) (hl : xs.length + ys.length ≤ sizeLine) (q : ∀ p H', SqT K H' p (xs ++ ys) → Kp [] H H' → Q (.ref p) H') : rCatA K x y H Q := by
  refine ⟨a, b, xs, ys, hx, hy, h1, h2, hl, fun e => ?_, fun _ e => ?_, fun _ _ p np => ?_⟩
  · refine q b H ?_ .rfl'
    rw [e]
    exact h2
  · refine q a H ?_ .rfl'
    rw [e, List.append_nil]
    exact h1
  · exact q p _ (SqT.of upd_same) (Kp.new np)
theorem Kp.seqT {S : List Addr} {K : PySem.W.Frag} {H H1 : Hp} (k : Kp S H H1) {b : Addr} {xs : List V} (nb : b ∉ S) (h : SqT K H b xs) : SqT K H1 b xs := by
  rcases h with (h | ⟨o, h⟩) | h
  · exact .inl (.inl (k.tup nb h))
  · exact .inl (.inr ⟨o, k.at_ b _ nb h fun ps z => by cases z⟩)
  · exact .inr h
end Em

namespace Em
open PySem PySem.Spec PyProof.Rows L2 Qt

/-! ### sorted(xs), xs a list of tuples of ints, none empty, of any lengths -/
def lexL : List Int → List Int → Bool
  | _, [] => false
  | [], _ :: _ => true
  | a :: as, b :: bs => if a = b then lexL as bs else decide (a < b)
theorem lexL_cons {a b : Int} {as bs : List Int} : lexL (a :: as) (b :: bs) = if a = b then lexL as bs else decide (a < b) := rfl
theorem lexL_asym : ∀ x y : List Int, lexL x y = true → lexL y x = false
  | _, [], h => by
    unfold lexL at h
    cases h
  | [], _ :: _, _ => rfl
  | a :: as, b :: bs, h => by
    rw [lexL_cons] at h ⊢
    by_cases e : a = b
    · rw [if_pos e] at h
      rw [if_pos e.symm]
      exact lexL_asym as bs h
    · rw [if_neg e] at h
      rw [if_neg (fun z => e z.symm)]
      have := of_decide_eq_true h
      exact decide_eq_false (by omega)
theorem lexL_tr : ∀ x y z : List Int, lexL y x = false → lexL z y = false → lexL z x = false
  | [], _, z, _, _ => by cases z <;> rfl
  | a :: as, [], _, h, _ => by cases h
  | a :: as, b :: bs, [], _, h => by cases h
  | a :: as, b :: bs, c :: cs, h1, h2 => by
    rw [lexL_cons] at h1 h2 ⊢
    by_cases e1 : b = a
    · by_cases e2 : c = b
      · rw [if_pos e1] at h1
        rw [if_pos e2] at h2
        rw [if_pos (e2.trans e1)]
        exact lexL_tr as bs cs h1 h2
      · rw [if_neg e2] at h2
        have := of_decide_eq_false h2
        rw [if_neg (by omega)]
        exact decide_eq_false (by omega)
    · rw [if_neg e1] at h1
      have q1 := of_decide_eq_false h1
      by_cases e2 : c = b
      · rw [if_neg (by omega)]
        exact decide_eq_false (by omega)
      · rw [if_neg e2] at h2
        have q2 := of_decide_eq_false h2
        rw [if_neg (by omega)]
        exact decide_eq_false (by omega)
theorem lexL_swo {α : Type} (k : α → List Int) : SrtO.Swo fun v u => lexL (k v) (k u) := ⟨fun x y => lexL_asym _ _, fun x y z => lexL_tr _ _ _⟩
/-- a tuple of ints -/
def TupN (h : Heap) (v : Value) (ns : List Int) : Prop := ∃ (a : Addr) (o : Obj) (its : Array Value) (n : Nat), v = .ref a ∧ h.get? a = some o ∧ o.cls = .type "tuple" ∧ o.data = .seq its n ∧ IntsAre its.toList ns
theorem TupN.keeps {h h' : Heap} {v : Value} {ns : List Int} (p : TupN h v ns) (k : ∀ b o, h.get? b = some o → o.cls = .type "tuple" → h'.get? b = some o) : TupN h' v ns := by
  obtain ⟨a, o, its, n, e, ho, hc, r⟩ := p
  exact ⟨a, o, its, n, e, k _ _ ho hc, hc, r⟩
theorem lex_go {prog : Program} {w : World} {A : Around} {s : Shared} {b fin : Bool} {Q : Bool → Shared → Prop} : ∀ {xs ys : List Value} {ns ms : List Int} (i : Nat), IntsAre xs ns → IntsAre ys ms → fin = decide (ns.length < ms.length) → Q (lexL ns ms) s → PySem.W.KatLex prog w A b fin Q (xs.zip ys) i s := by
  intro xs ys ns ms i hx hy hf h
  induction hx generalizing ys ms i with
  | nil =>
    cases hy with
    | nil => exact PySem.W.kat_nil (by rw [hf]; exact h)
    | cons q u hy => exact PySem.W.kat_nil (by rw [hf, decide_eq_true (by simp)]; exact h)
  | @cons p t xs ns hx ih =>
    cases hy with
    | nil => exact PySem.W.kat_nil (by rw [hf, decide_eq_false (by simp)]; exact h)
    | @cons q u ys ms hy =>
      show PySem.W.KatLex prog w A b fin Q ((Value.int p t, Value.int q u) :: xs.zip ys) i s
      refine PySem.W.kat_cons (wpAny_eqBool_int ?_)
      rw [lexL_cons] at h
      by_cases e : p = q
      · subst e
        rw [if_pos rfl] at h
        rw [beq_self_eq_true]
        refine PySem.W.kat_yes (ih (i + 1) hy ?_ h)
        rw [hf]
        simp
      · rw [if_neg e] at h
        rw [show (p == q) = false from beq_eq_false_iff_ne.mpr e]
        exact PySem.W.kat_no (TS.oneLt_ints _ h)
theorem tupn_cmp {prog : Program} {w : World} {A : Around} {s : Shared} {vs : List Value} {k : Value → List Int} (hp : ∀ v ∈ vs, TupN s.heap v (k v)) : SrtO.Cmp prog w A s (tuples' true) (fun p => p.1 ∈ vs) (SrtO.lt2 fun v u => lexL (k v) (k u)) := by
  intro p q hm hm'
  obtain ⟨a, o, its, n, e, ho, hc, hd, hi⟩ := hp _ hm
  obtain ⟨a', o', its', n', e', ho', hc', hd', hi'⟩ := hp _ hm'
  show wpAny (model prog w) A (keyLt' (tuples' true) p.1 q.1) (fun r s' => s' = s ∧ r = lexL (k p.1) (k q.1)) (fun _ _ => False) s
  generalize k p.1 = x at hi ⊢
  generalize k q.1 = y at hi' ⊢
  rw [e, e']
  refine PySem.W.kat_lt ho hd ho' hd' (lex_go 0 hi hi' ?_ ⟨rfl, rfl⟩)
  have h1 := hi.length
  have h2 := hi'.length
  rw [← h1, ← h2]
  rfl
theorem tupn_firsts {h : Heap} : ∀ vs : List Value, (∀ v ∈ vs, ∃ ns, ns ≠ [] ∧ TupN h v ns) → ∃ fs, PySem.W.KatTups h vs fs ∧ fs.length = vs.length ∧ ∀ f, f ∈ fs → ∃ n t, f = Value.int n t
  | [], _ => ⟨[], PySem.W.KatTups.nil, rfl, fun f hf => by simp at hf⟩
  | v :: vs, x => by
    obtain ⟨fs, k, hl, hi⟩ := tupn_firsts vs fun u hu => x u (List.mem_cons_of_mem _ hu)
    obtain ⟨ns, hne, a, o, xs, n, rfl, ho, hc, hdt, i⟩ := x v (List.mem_cons_self ..)
    obtain ⟨y, ys, e⟩ : ∃ y ys, xs.toList = y :: ys := by
      cases q : xs.toList with
      | nil =>
        rw [q] at i
        have l := i.length
        rw [List.length_nil] at l
        exact absurd (List.length_eq_zero_iff.mp l.symm) hne
      | cons y ys => exact ⟨y, ys, rfl⟩
    obtain ⟨m, t, hy⟩ := i.all y (by rw [e]; exact List.mem_cons_self ..)
    refine ⟨y :: fs, PySem.W.KatTups.cons ho hc hdt ?_ k, by simp [hl], ?_⟩
    · have z := congrArg (fun l : List Value => l[0]?) e
      simpa using z
    · intro f hf
      rcases List.mem_cons.mp hf with rfl | hf
      · exact ⟨m, t, hy⟩
      · exact hi f hf
theorem tupn_sortable {prog : Program} {w : World} {A : Around} {s : Shared} {a : Addr} {vs : List Value} {k : Value → List Int} (h0 : 0 < vs.length) (hp : ∀ v ∈ vs, TupN s.heap v (k v)) (hne : ∀ v ∈ vs, k v ≠ []) (ha : ∀ o, s.heap.get? a = some o → o.cls ≠ .type "tuple") : SrtO.SortableO prog w A s a vs fun v u => lexL (k v) (k u) := by
  intro h' keep
  have hp' : ∀ v ∈ vs, TupN h' v (k v) := fun v hm => (hp v hm).keeps fun b o e c => keep b o (fun z => by subst z; exact ha o e c) e
  obtain ⟨fs, h1, h2, h3⟩ := tupn_firsts vs fun v hm => ⟨_, hne v hm, hp' v hm⟩
  refine ⟨tuples' true, fun Q E hq => ?_, tupn_cmp hp'⟩
  refine PySem.W.kat_kind (T := .type "int") h1 (by omega) (fun f hm => ?_) (by rfl) ?_
  · obtain ⟨x, t, rfl⟩ := h3 f hm
    exact PySem.W.Looks.now
  · have e : (Value.type "int" != Value.type "tuple") = true := by first | decide +kernel | rfl | decide
    rw [e]
    exact hq
def rSortedN (K : PySem.W.Frag) : List V → Hp → VK → Prop := fun vs H Q => ∃ (a : Addr) (xs : List V) (k : V → List Int), vs = [V.ref a] ∧ SqL K H a xs ∧ (∀ x ∈ xs, k x ≠ [] ∧ ∃ t, x = V.ref t ∧ H t = some (.tup ((k x).map V.int))) ∧
  ∀ ys p, SrtO.Srtd (fun v u => lexL (k v) (k u)) ys → SrtO.Stb (fun v u => lexL (k v) (k u)) ys xs → H p = none → Q (.ref p) (upd H p (.lst ys))
section
variable {X : Cx}
theorem cr_sortedN : CallR X (.builtin "sorted") (rSortedN X.K) := by
  intro pins s σ H vs us Q I r h
  obtain ⟨a, xs, k, rfl, hs, hx, q⟩ := h
  obtain ⟨its, rv, hl, hz⟩ := I.list hs
  obtain ⟨u, rfl, ru⟩ := vals1 r
  obtain rfl : u = Value.ref a := ru
  obtain ⟨e1, e2⟩ := refs_back rv fun x m => by
    obtain ⟨_, t, e, _⟩ := hx x m
    exact ⟨t, e⟩
  have tn : ∀ v ∈ its, TupN s.heap v (k (backV v)) ∧ k (backV v) ≠ [] := fun v hv => by
    obtain ⟨t, rfl⟩ := e2 v hv
    have hm : V.ref t ∈ xs := by rw [e1]; exact List.mem_map.mpr ⟨_, hv, rfl⟩
    obtain ⟨hne, t', e, ht⟩ := hx _ hm
    cases e
    obtain ⟨_, its2, r2, o, ho, hc, n, hd⟩ := I.hok _ _ ht
    exact ⟨⟨t, o, _, n, rfl, ho, hc, hd, by rw [List.toList_toArray]; exact r2.ints⟩, hne⟩
  refine SrtO.sorted_ord (lexL_swo fun u => k (backV u)) hl.isList (by rw [← rv.length]; exact hz) (fun h2 h₁ a ha kk => ?_) fun out h1 h2 => ?_
  · refine tupn_sortable (s := { s with heap := h₁ }) (by omega) (fun v hm => (tn v hm).1.keeps fun b o e _ => (kk b o e).2) (fun v hm => (tn v hm).2) fun o e => ?_
    have e' : some o = some (seqObj "list" its.toArray 0) := e.symm.trans ha
    cases e'
    intro c
    exact absurd (Value.type.inj c) (by decide)
  · have h3 : ∀ u ∈ out, ∃ a, u = Value.ref a := fun u hu => e2 u (h2.perm.mem_iff.mp hu)
    obtain ⟨n, hn⟩ := sortedAll_at s.heap its out.toArray
    have hb : SrtO.Stb (fun v u => lexL (k v) (k u)) (out.map backV) xs := by
      rw [e1]
      exact SrtO.Stb.map (lexL_swo k) backV h2
    refine ⟨.ref _, upd H _ (.lst (out.map backV)), I.laid (t' := s.toks) (fun b o e => sortedAll_old e) (Nat.le_succ _) ⟨?_, out, n, vals_back h3, hn⟩, rfl, q _ _ (SrtO.srtd_map h1) hb (I.hok.fresh (Nat.le_succ _))⟩
    rw [hb.len]
    exact hz
end

/-! ### min(t), t a tuple of ints -/
section
variable {prog : Program} {w : World} {A : Around} {E : Value → Shared → Prop} {s : Shared} {l : Addr}
theorem min_intTup {xs : Array (Int × Tok)} {Q : Value → Shared → Prop} (hh : A.handled = none) (hl : s.heap.IsTuple l (intItems xs)) (hne : 0 < xs.size)
    (h : ∀ v h' tk, (intItems xs)[argBest (fun i j => decide (numAt xs i < numAt xs j)) (xs.size - 1)]? = some v → (∀ b o, s.heap.get? b = some o → h'.get? b = some o) → Q v { s with heap := h', toks := tk }) :
    wpAny (model prog w) A (call (.builtin "min") [.ref l]) Q E s := by
  have hlt : l < s.heap.objs.size := by obtain ⟨_, e, _⟩ := hl; exact Heap.lt_size e
  refine call_min_walk (wpAny_pyIter_tuple hl ?_)
  refine ⟨_, [_, l], [_], _, _, _, _, rfl, Walks.tuple (A := A.in1) hh _ l (Nat.ne_of_lt hlt) (intItems xs), ⟨⟨_, Heap.get?_push_size _ rfl, rfl, rfl⟩, hl.push _⟩, fun c hc => ?_, by simpa [intItems] using hne, CmpOf.ints_lt (numAt xs) (fun _ _ => intItems_at), fun v h' tk hP hk => ?_⟩
  · show c < (s.heap.push _).objs.size
    rw [Heap.size_push]
    rcases List.mem_cons.mp hc with rfl | hc
    · exact Nat.lt_succ_self _
    · rcases List.mem_cons.mp hc with rfl | hc
      · exact Nat.lt_succ_of_lt hlt
      · cases hc
  · refine h v h' tk (by simpa [intItems] using hP) fun c o e => hk c o (fun hm => ?_) (Heap.get?_push_of_some _ e)
    rcases List.mem_cons.mp hm with e1 | hm
    · exact absurd (e1 ▸ Heap.lt_size e) (Nat.lt_irrefl _)
    · cases hm
theorem min_rawT {its : List Value} {ns : List Int} {Q : Value → Shared → Prop} (hh : A.handled = none) (hl : s.heap.IsTuple l its.toArray) (hi : IntsAre its ns) (hne : 0 < ns.length)
    (h : ∀ h' tk M t', (∀ b o, s.heap.get? b = some o → h'.get? b = some o) → M ∈ ns → (∀ a, a ∈ ns → M ≤ a) → Q (.int M t') { s with heap := h', toks := tk }) : wpAny (model prog w) A (call (.builtin "min") [.ref l]) Q E s := by
  obtain ⟨xs, e⟩ := hi.allInts.items
  have hn : numsOf (intItems xs).toList = ns := by rw [← e]; exact hi.numsOf
  rw [nums_intItems] at hn
  subst hn
  rw [e] at hl
  have hsz : 0 < xs.size := by simpa using hne
  refine min_intTup hh hl hsz fun v h' tk hv hk => ?_
  obtain ⟨t, rfl⟩ := intItems_at hv
  obtain ⟨h1, h2⟩ := argBest_lt (numAt xs) (xs.size - 1)
  refine h h' tk _ t hk ?_ fun a ha => ?_
  · rw [numAt_eq]; exact PySem.getD_mem (by rw [List.length_map, Array.length_toList]; omega)
  · obtain ⟨j, hj, rfl⟩ := mem_getD ha
    rw [List.length_map, Array.length_toList] at hj
    rw [← numAt_eq]; exact h2 j (by omega)
end
def rMinT (K : PySem.W.Frag) : List V → Hp → VK → Prop := fun vs H Q => ∃ (a : Addr) (ns : List Int), vs = [V.ref a] ∧ SqT K H a (ns.map V.int) ∧ 0 < ns.length ∧ ∀ m, m ∈ ns → (∀ y, y ∈ ns → m ≤ y) → Q (.int m) H
theorem cr_minT {X : Cx} (hc : X.calm = true) : CallR X (.builtin "min") (rMinT X.K) := by
  intro pins s σ H vs us Q I r h
  obtain ⟨a, ns, rfl, hs, hne, q⟩ := h
  obtain ⟨its, rv, hl, _⟩ := I.tuple hs
  rw [Vals.ref1 r]
  exact min_rawT (I.ok.hd hc) hl rv.ints hne fun h' tk m t' hk h1 h2 => ⟨.int _, H, I.kept hk, ⟨_, rfl⟩, q m h1 h2⟩
end Em

namespace Em
open PySem PySem.Spec PyProof.Rows L2 Qt

/-! ### the rings of a net -/
theorem been_itr {N : Net} (o : NetOk N) {x : Nat} (hx : x < N.length) : ∀ i, Been N x i (itr (step N) i [x])
  | 0 => Been.start hx
  | i + 1 => by
    have h := been_itr o hx i
    show Been N x (i + 1) (step N (itr (step N) i [x]))
    cases z : nxt N (lastOf (itr (step N) i [x])) with
    | none =>
      rw [step_none z]
      exact h.still (step_none z)
    | some y =>
      by_cases hn : y ∈ itr (step N) i [x]
      · rw [step_in z hn]
        exact h.still (step_in z hn)
      · have e : step N (itr (step N) i [x]) = itr (step N) i [x] ++ [y] := by
          generalize itr (step N) i [x] = g at *
          unfold step
          rw [z]
          simp only [hn, if_false]
        rw [e]
        exact h.more o z hn
theorem path_been {N : Net} (o : NetOk N) {x : Nat} (hx : x < N.length) : Been N x N.length (path N x) := been_itr o hx _
theorem step_head {N : Net} {x : Nat} {g : List Nat} (h : ∃ t, g = x :: t) : ∃ t, step N g = x :: t := by
  obtain ⟨t, rfl⟩ := h
  unfold step
  split
  · exact ⟨t, rfl⟩
  · split
    · exact ⟨t, rfl⟩
    · exact ⟨_, rfl⟩
theorem itr_head (N : Net) (x : Nat) : ∀ n, ∃ t, itr (step N) n [x] = x :: t
  | 0 => ⟨[], rfl⟩
  | n + 1 => step_head (itr_head N x n)
theorem path_head (N : Net) (x : Nat) : ∃ t, path N x = x :: t := itr_head N x _
theorem way_cat (N : Net) (x : Nat) : wayA N x ++ wayR N x = path N x := List.take_append_drop _ _
theorem way_sub {N : Net} (o : NetOk N) {x : Nat} (hx : x < N.length) : ∀ y ∈ wayR N x, y < N.length := fun y hy => (path_been o hx).lt y (by rw [← way_cat]; exact List.mem_append_right _ hy)
def rootB (N : Net) (x : Nat) : Bool := decide (x ∈ wayR N x) && (wayR N x).all fun y => decide (x ≤ y)
theorem root_iff {N : Net} {x : Nat} : rootB N x = true ↔ x ∈ wayR N x ∧ ∀ y ∈ wayR N x, x ≤ y := by
  unfold rootB
  rw [Bool.and_eq_true, decide_eq_true_iff, List.all_eq_true]
  simp only [decide_eq_true_iff]
theorem root_ahead {N : Net} (o : NetOk N) {x : Nat} (hx : x < N.length) (h : x ∈ wayR N x) : wayA N x = [] := by
  have nd := (path_been o hx).nd
  obtain ⟨t, ht⟩ := path_head N x
  have e := way_cat N x
  cases q : wayA N x with
  | nil => rfl
  | cons z r =>
    rw [q] at e
    rw [← e] at nd
    rw [ht] at e
    have ez : z = x := (List.cons.inj e).1
    have := (List.nodup_cons.mp (show (z :: (r ++ wayR N x)).Nodup from nd)).1
    exact absurd (List.mem_append_right r (ez ▸ h)) this
theorem ahead_path {N : Net} {x : Nat} (h : wayA N x = []) : wayR N x = path N x := by
  have e := way_cat N x
  rw [h] at e
  exact e
/-- the least of the ring is x: that is a root -/
theorem root_min {N : Net} {x : Nat} {m : Int} (h1 : m ∈ (wayR N x).map fun n : Nat => (n : Int)) (h2 : ∀ y ∈ (wayR N x).map fun n : Nat => (n : Int), m ≤ y) : decide ((x : Int) = m) = rootB N x := by
  rw [Bool.eq_iff_iff, decide_eq_true_iff, root_iff]
  obtain ⟨n, hn, rfl⟩ := List.mem_map.mp h1
  have h3 : ∀ y ∈ wayR N x, n ≤ y := fun y hy => Int.ofNat_le.mp (h2 _ (List.mem_map.mpr ⟨y, hy, rfl⟩))
  constructor
  · intro e
    have : x = n := Int.ofNat_inj.mp e
    subst this
    exact ⟨hn, h3⟩
  · rintro ⟨a, b⟩
    have := h3 x a
    have := b n hn
    congr 1
    omega
def ringsL (N : Net) (i : Nat) : List Nat := (List.range i).filter (rootB N)
theorem ringsL_succ (N : Net) (i : Nat) : ringsL N (i + 1) = if rootB N i = true then ringsL N i ++ [i] else ringsL N i := by
  unfold ringsL
  rw [List.range_succ, List.filter_append]
  split
  · rename_i h
    rw [List.filter_cons_of_pos h]
    rfl
  · rename_i h
    rw [List.filter_cons_of_neg h]
    simp
theorem ringsL_len (N : Net) (i : Nat) : (ringsL N i).length ≤ i := by
  have := List.length_filter_le (rootB N) (List.range i)
  rw [List.length_range] at this
  exact this
theorem ringsL_mem {N : Net} {i x : Nat} (h : x ∈ ringsL N i) : x < i ∧ rootB N x = true := by
  have := List.mem_filter.mp h
  exact ⟨List.mem_range.mp this.1, this.2⟩
theorem ringsL_lt (N : Net) (i : Nat) : (ringsL N i).Pairwise (· < ·) := List.pairwise_lt_range.filter _
def ringD (N : Net) (x : Nat) : PyData := natsD (wayR N x)
def ringsD (N : Net) : PyData := .list ((ringsL N N.length).map (ringD N))
theorem rings_lay (N : Net) : (ringsD N).canLay0 = true := by
  show PyData.canLayAll0 ((ringsL N N.length).map (ringD N)) = true
  exact all_lay (fun x => nats_lay (wayR N x)) _
theorem rings_depth (N : Net) : (ringsD N).depth ≤ 2 := by
  show PyData.depthAll ((ringsL N N.length).map (ringD N)) + 1 ≤ 2
  have := all_depth (f := ringD N) (n := 1) (fun x => nats_depth (wayR N x)) (ringsL N N.length)
  omega
theorem rings_noDict (N : Net) : (ringsD N).hasDict = false := PyData.hasDict_of_canLay _ (rings_lay N)
theorem rings_shaped (N : Net) : SeqAt.shaped (ringsD N) = true := by
  unfold SeqAt.shaped
  rw [rings_lay, decide_eq_true (Nat.le_trans (rings_depth N) (by decide))]
  rfl
/-! sorted already -/
def toI : V → Int
  | .int i => i
  | _ => 0
def kH (H : Hp) : V → List Int
  | .ref t => (match H t with
    | some (.tup ys) => ys.map toI
    | _ => [])
  | _ => []
theorem kH_at {H : Hp} {t : Addr} {g : List Nat} (h : H t = some (.tup (natV g))) : kH H (.ref t) = g.map fun n : Nat => (n : Int) := by
  show (match H t with
    | some (.tup ys) => ys.map toI
    | _ => []) = _
  rw [h]
  show (natV g).map toI = _
  unfold natV
  rw [List.map_map]
  rfl
theorem rings_at {S : List Addr} {H : Hp} {N : Net} : ∀ {L : List Nat} {xs : List V}, DxA S H xs (L.map (ringD N)) → ∀ v ∈ xs, ∃ x ∈ L, ∃ t, v = .ref t ∧ H t = some (.tup (natV (wayR N x)))
  | [], _, h => by
    cases h
    intro v hv
    cases hv
  | x :: r, _, h => by
    cases h with
    | cons a t =>
      intro v hv
      rcases List.mem_cons.mp hv with rfl | hv
      · obtain ⟨ad, e, _, h⟩ := nats_at a
        exact ⟨x, List.mem_cons_self, ad, e, h⟩
      · obtain ⟨y, hy, q⟩ := rings_at t v hv
        exact ⟨y, List.mem_cons_of_mem _ hy, q⟩
theorem rings_srtd {S : List Addr} {H : Hp} {N : Net} : ∀ {L : List Nat} {xs : List V}, DxA S H xs (L.map (ringD N)) → L.Pairwise (· < ·) → (∀ x ∈ L, ∃ t, wayR N x = x :: t) → SrtO.Srtd (fun v u => lexL (kH H v) (kH H u)) xs
  | [], _, h, _, _ => by
    cases h
    exact List.Pairwise.nil
  | x :: r, _, h, hp, hh => by
    cases h with
    | cons a t =>
      obtain ⟨p1, p2⟩ := List.pairwise_cons.mp hp
      refine List.pairwise_cons.mpr ⟨fun v hv => ?_, rings_srtd t p2 fun y hy => hh y (List.mem_cons_of_mem _ hy)⟩
      obtain ⟨y, hy, tv, rfl, hv2⟩ := rings_at t v hv
      obtain ⟨ad, rfl, _, ha⟩ := nats_at a
      show lexL (kH H (.ref tv)) (kH H (.ref ad)) = false
      rw [kH_at hv2, kH_at ha]
      obtain ⟨t1, e1⟩ := hh x List.mem_cons_self
      obtain ⟨t2, e2⟩ := hh y (List.mem_cons_of_mem _ hy)
      have := p1 y hy
      rw [e1, e2, List.map_cons, List.map_cons, lexL_cons, if_neg (by omega)]
      exact decide_eq_false (by omega)
/-! ### laps -/
def lenOf (N : Net) (y : Nat) : Int := (N.getD y (1, none)).1
theorem lenOf_get {N : Net} {x : Nat} {p : Int × Option Nat} (h : N[x]? = some p) : lenOf N x = p.1 := by
  unfold lenOf
  rw [List.getD_eq_getElem?_getD, h]
  rfl
def lensR (N : Net) (x : Nat) : List Int := (wayR N x).map (lenOf N)
def LapD (N : Net) (x : Nat) (d : PyData) : Prop := (wayR N x = [] ∧ d = .none) ∨ (wayR N x ≠ [] ∧ ∃ m, m ∈ lensR N x ∧ (∀ y ∈ lensR N x, y ≤ m) ∧ d = .tuple [.int (lensR N x).sum, .int m])
theorem LapD.uniq {N : Net} {x : Nat} {d e : PyData} (h : LapD N x d) (k : LapD N x e) : d = e := by
  rcases h with ⟨h1, h2⟩ | ⟨h1, m, a, b, h2⟩ <;> rcases k with ⟨k1, k2⟩ | ⟨k1, n, c, f, k2⟩
  · rw [h2, k2]
  · exact absurd h1 k1
  · exact absurd k1 h1
  · have := b n c
    have := f m a
    have e : m = n := by omega
    rw [h2, k2, e]
theorem LapD.lay {N : Net} {x : Nat} {d : PyData} (h : LapD N x d) : d.canLay0 = true ∧ d.depth ≤ 1 := by
  rcases h with ⟨_, rfl⟩ | ⟨_, m, _, _, rfl⟩
  · exact ⟨rfl, Nat.zero_le _⟩
  · exact ⟨rfl, Nat.le_refl _⟩
theorem LapD.shaped {N : Net} {x : Nat} {d : PyData} (h : LapD N x d) : SeqAt.shaped d = true := by
  unfold SeqAt.shaped
  rw [h.lay.1, decide_eq_true (Nat.le_trans h.lay.2 (by decide))]
  rfl
theorem LapD.noDict {N : Net} {x : Nat} {d : PyData} (h : LapD N x d) : d.hasDict = false := PyData.hasDict_of_canLay _ h.lay.1
theorem Nw.fresh {H H1 : Hp} {a : Addr} {d : PyData} (h : Nw H H1 (.ref a) d) : H a = none := by
  cases q : H a with
  | none => rfl
  | some o =>
    have hd := h [a] fun s z => by
      obtain rfl : s = a := by simpa using z
      rw [q]
      exact fun z => by cases z
    cases hd with
    | lst n _ _ => exact absurd (List.mem_singleton.mpr rfl) n
    | tup n _ _ => exact absurd (List.mem_singleton.mpr rfl) n
    | dic n _ => exact absurd (List.mem_singleton.mpr rfl) n
theorem way_new {H H1 : Hp} {a b c : Addr} {N : Net} {x : Nat} (h : Nw H H1 (.ref a) (wayD N x)) (e : H1 a = some (.tup [.ref b, .ref c])) : Nw H H1 (.ref b) (natsD (wayA N x)) ∧ Nw H H1 (.ref c) (natsD (wayR N x)) := by
  have key : ∀ S : List Addr, (∀ s ∈ S, H s ≠ none) → Dx S H1 (.ref b) (natsD (wayA N x)) ∧ Dx S H1 (.ref c) (natsD (wayR N x)) := fun S z => by
    have hd := h S z
    cases hd with
    | @tup _ xs ds n h r =>
      rw [e] at h
      cases h
      cases r with
      | cons a1 r =>
        cases r with
        | cons a2 r => exact ⟨a1, a2⟩
  exact ⟨fun S z => (key S z).1, fun S z => (key S z).2⟩
theorem eqv_empty (g : List Nat) : PyData.eqv (natsD g) (.tuple []) = decide (g = []) := by
  cases g with
  | nil => exact SeqAt.eqv_refl _ rfl
  | cons x r => rfl
theorem nats_shaped (g : List Nat) : SeqAt.shaped (natsD g) = true := by
  unfold SeqAt.shaped
  rw [nats_lay, decide_eq_true (Nat.le_trans (nats_depth g) (by decide))]
  rfl
theorem nats_noDict (g : List Nat) : (natsD g).hasDict = false := PyData.hasDict_of_canLay _ (nats_lay g)
theorem DxA.flip {S : List Addr} {H : Hp} : ∀ {xs ys : List V} {ds : List PyData}, DxA S H xs ds → DxA S H ys ds → DxA S H xs ds := fun h _ => h
theorem eqv_none (ns : List Int) : PyData.eqv (.list (ns.map PyData.int)) (.list []) = decide (ns = []) := by
  cases ns with
  | nil => exact SeqAt.eqv_refl _ rfl
  | cons x r => rfl
theorem dp_ints {K : PySem.W.Frag} {H : Hp} : ∀ ns : List Int, DpAll K H (ns.map V.int) (ns.map PyData.int)
  | [] => .nil
  | n :: r => .cons (.int n) (dp_ints r)
theorem ints_shaped (ns : List Int) : SeqAt.shaped (.list (ns.map PyData.int)) = true := by
  have h1 : (PyData.list (ns.map PyData.int)).canLay0 = true := all_lay (f := PyData.int) (fun _ => rfl) ns
  have h2 : (PyData.list (ns.map PyData.int)).depth ≤ 1 := by
    have := all_depth (f := PyData.int) (n := 0) (fun _ => Nat.le_refl _) ns
    show PyData.depthAll (ns.map PyData.int) + 1 ≤ 1
    omega
  unfold SeqAt.shaped
  rw [h1, decide_eq_true (Nat.le_trans h2 (by decide))]
  rfl
end Em

namespace Em
open PySem PySem.Spec PyProof.Rows L2 Qt

/-! ### what is never written: numbers, texts, tuples of such -/
mutual
inductive Tu (H : Hp) : V → PyData → Prop
  | non : Tu H .non .none
  | bl (b : Bool) : Tu H (.bl b) (.bool b)
  | int (i : Int) : Tu H (.int i) (.int i)
  | str (z : Str) : Tu H (.str z) (.str z)
  | tup {a : Addr} {xs : List V} {ds : List PyData} (h : H a = some (.tup xs)) (r : TuA H xs ds) : Tu H (.ref a) (.tuple ds)
inductive TuA (H : Hp) : List V → List PyData → Prop
  | nil : TuA H [] []
  | cons {v : V} {vs : List V} {d : PyData} {ds : List PyData} (h : Tu H v d) (t : TuA H vs ds) : TuA H (v :: vs) (d :: ds)
end
/-- tuples stay -/
def Kt (H H' : Hp) : Prop := ∀ a xs, H a = some (.tup xs) → H' a = some (.tup xs)
theorem Kt.rfl' {H : Hp} : Kt H H := fun _ _ h => h
theorem Kt.tr {H H1 H2 : Hp} (a : Kt H H1) (b : Kt H1 H2) : Kt H H2 := fun p xs h => b p xs (a p xs h)
theorem Kt.new {H : Hp} {p : Addr} {o : HO} (n : H p = none) : Kt H (upd H p o) := fun a xs h => by rw [upd_ne (ne_of_none h n)]; exact h
theorem Kt.put {H : Hp} {p : Addr} {o u : HO} (h : H p = some u) (nt : ∀ xs, u ≠ .tup xs) : Kt H (upd H p o) := fun a xs q => by
  rw [upd_ne (fun z => by rw [z, h] at q; exact nt xs (Option.some.inj q))]; exact q
theorem Kp.kt {S : List Addr} {H H' : Hp} (k : Kp S H H') (hs : ∀ s ∈ S, ∀ xs, H s ≠ some (.tup xs)) : Kt H H' := fun a xs h => k.tup (fun z => hs a z xs h) h
theorem Kp.kt0 {H H' : Hp} (k : Kp [] H H') : Kt H H' := k.kt fun s z => by cases z
mutual
theorem Tu.kt {H H' : Hp} (k : Kt H H') : ∀ {v : V} {d : PyData}, Tu H v d → Tu H' v d
  | _, _, .non => .non
  | _, _, .bl b => .bl b
  | _, _, .int i => .int i
  | _, _, .str z => .str z
  | _, _, .tup h r => .tup (k _ _ h) (TuA.kt k r)
theorem TuA.kt {H H' : Hp} (k : Kt H H') : ∀ {v : List V} {d : List PyData}, TuA H v d → TuA H' v d
  | _, _, .nil => .nil
  | _, _, .cons h t => .cons (Tu.kt k h) (TuA.kt k t)
end
mutual
theorem Tu.dx {S : List Addr} {H : Hp} (hs : ∀ s ∈ S, ∀ xs, H s ≠ some (.tup xs)) : ∀ {v : V} {d : PyData}, Tu H v d → Dx S H v d
  | _, _, .non => .non
  | _, _, .bl b => .bl b
  | _, _, .int i => .int i
  | _, _, .str z => .str z
  | _, _, .tup h r => .tup (fun z => hs _ z _ h) h (TuA.dx hs r)
theorem TuA.dx {S : List Addr} {H : Hp} (hs : ∀ s ∈ S, ∀ xs, H s ≠ some (.tup xs)) : ∀ {v : List V} {d : List PyData}, TuA H v d → DxA S H v d
  | _, _, .nil => .nil
  | _, _, .cons h t => .cons (Tu.dx hs h) (TuA.dx hs t)
end
theorem Tu.dx0 {H : Hp} {v : V} {d : PyData} (h : Tu H v d) : Dx [] H v d := h.dx fun s z => by cases z
theorem TuA.dx0 {H : Hp} {v : List V} {d : List PyData} (h : TuA H v d) : DxA [] H v d := h.dx fun s z => by cases z
mutual
def flatD : PyData → Bool
  | .list _ | .dict _ => false
  | .tuple ds => flatAll ds
  | _ => true
def flatAll : List PyData → Bool
  | [] => true
  | d :: ds => flatD d && flatAll ds
end
mutual
theorem Dx.tu {S : List Addr} {H : Hp} : ∀ {v : V} {d : PyData}, Dx S H v d → flatD d = true → Tu H v d
  | _, _, .non, _ => .non
  | _, _, .bl b, _ => .bl b
  | _, _, .int i, _ => .int i
  | _, _, .str z, _ => .str z
  | _, _, .lst n h r, e => by simp [flatD] at e
  | _, _, .tup n h r, e => .tup h (DxA.tu r (by simpa [flatD] using e))
  | _, _, .dic n h, e => by simp [flatD] at e
theorem DxA.tu {S : List Addr} {H : Hp} : ∀ {v : List V} {d : List PyData}, DxA S H v d → flatAll d = true → TuA H v d
  | _, _, .nil, _ => .nil
  | _, _, @DxA.cons _ _ v vs d ds h t, e => by
    have e2 : flatD d = true ∧ flatAll ds = true := by simpa [flatAll] using e
    exact .cons (Dx.tu h e2.1) (DxA.tu t e2.2)
end
theorem flat_map {α : Type} {f : α → PyData} (h : ∀ a, flatD (f a) = true) : ∀ xs : List α, flatAll (xs.map f) = true
  | [] => rfl
  | x :: r => by
    show (flatD (f x) && flatAll (r.map f)) = true
    rw [h x, flat_map h r]; rfl
theorem flat_lamp (p : Int × Option Nat) : flatD (lampD p) = true := by
  obtain ⟨l, o⟩ := p
  cases o <;> rfl
theorem flat_net (N : Net) : flatD (netD N) = true := by
  show flatAll (N.map lampD) = true
  exact flat_map flat_lamp N
theorem Nw.tu {H H' : Hp} {v : V} {d : PyData} (h : Nw H H' v d) (e : flatD d = true) : Tu H' v d := (h [] fun s z => by cases z).tu e
theorem TuA.len {H : Hp} : ∀ {vs : List V} {ds : List PyData}, TuA H vs ds → vs.length = ds.length
  | _, _, .nil => rfl
  | _, _, .cons _ t => by rw [List.length_cons, List.length_cons, TuA.len t]
theorem TuA.get {H : Hp} : ∀ {vs : List V} {ds : List PyData} {i : Nat} {v : V}, TuA H vs ds → vs[i]? = some v → ∃ d, ds[i]? = some d ∧ Tu H v d
  | _, _, _, _, .nil, h => by cases h
  | _, _, 0, _, .cons a _, h => by cases h; exact ⟨_, rfl, a⟩
  | _, _, i + 1, _, .cons _ t, h => TuA.get (i := i) t (by simpa using h)
theorem TuA.get' {H : Hp} : ∀ {vs : List V} {ds : List PyData} {i : Nat} {d : PyData}, TuA H vs ds → ds[i]? = some d → ∃ v, vs[i]? = some v ∧ Tu H v d
  | _, _, _, _, .nil, h => by cases h
  | _, _, 0, _, .cons a _, h => by cases h; exact ⟨_, rfl, a⟩
  | _, _, i + 1, _, .cons _ t, h => TuA.get' (i := i) t (by simpa using h)
theorem TuA.app {H : Hp} : ∀ {vs ws : List V} {ds es : List PyData}, TuA H vs ds → TuA H ws es → TuA H (vs ++ ws) (ds ++ es)
  | _, _, _, _, .nil, h => h
  | _, _, _, _, .cons a t, h => .cons a (TuA.app t h)
theorem TuA.set {H : Hp} {v : V} {d : PyData} (h : Tu H v d) : ∀ {vs : List V} {ds : List PyData} (i : Nat), TuA H vs ds → TuA H (vs.set i v) (ds.set i d)
  | _, _, _, .nil => .nil
  | _, _, 0, .cons _ t => .cons h t
  | _, _, i + 1, .cons a t => .cons a (TuA.set h i t)
theorem TuA.rep {H : Hp} {v : V} {d : PyData} (h : Tu H v d) : ∀ n, TuA H (List.replicate n v) (List.replicate n d)
  | 0 => .nil
  | n + 1 => .cons h (TuA.rep h n)
theorem TuA.drop {H : Hp} : ∀ {vs : List V} {ds : List PyData} (n : Nat), TuA H vs ds → TuA H (vs.drop n) (ds.drop n)
  | _, _, 0, h => h
  | _, _, _ + 1, .nil => .nil
  | _, _, n + 1, .cons _ t => TuA.drop n t
theorem TuA.take {H : Hp} : ∀ {vs : List V} {ds : List PyData} (n : Nat), TuA H vs ds → TuA H (vs.take n) (ds.take n)
  | _, _, 0, _ => .nil
  | _, _, _ + 1, .nil => .nil
  | _, _, n + 1, .cons a t => .cons a (TuA.take n t)
theorem TuA.nats {H : Hp} : ∀ g : List Nat, TuA H (natV g) (g.map fun n : Nat => PyData.int (n : Int))
  | [] => .nil
  | n :: r => .cons (.int _) (TuA.nats r)
/-- the net's lamps in the heap -/
theorem tnet_at {H : Hp} {v : V} {N : Net} (h : Tu H v (netD N)) : ∃ (a : Addr) (xs : List V), v = .ref a ∧ H a = some (.tup xs) ∧ xs.length = N.length ∧ ∀ (i : Nat) (p : Int × Option Nat), N[i]? = some p → ∃ l, xs[i]? = some (V.ref l) ∧ H l = some (.tup [V.int p.1, nxV p.2]) := by
  obtain ⟨a, xs, e, _, h1, h2, h3⟩ := net_at h.dx0
  exact ⟨a, xs, e, h1, h2, fun i p hp => let ⟨l, q1, _, q2⟩ := h3 i p hp; ⟨l, q1, q2⟩⟩

/-! ### a list of lists of numbers, each its own -/
structure Bag (H : Hp) (c : Addr) (ps : List Addr) (css : List (List Nat)) : Prop where
  top : H c = some (.lst (ps.map V.ref))
  nd : (c :: ps).Nodup
  len : ps.length = css.length
  at_ : ∀ (i : Nat) p g, ps[i]? = some p → css[i]? = some g → H p = some (.lst (natV g))
theorem Bag.kp {S : List Addr} {H H1 : Hp} {c : Addr} {ps : List Addr} {css : List (List Nat)} (b : Bag H c ps css) (k : Kp S H H1) (hc : ∀ x ∈ c :: ps, x ∉ S) : Bag H1 c ps css :=
  ⟨k.lst (hc c List.mem_cons_self) b.top, b.nd, b.len, fun i p g hp hg => k.lst (hc p (List.mem_cons_of_mem _ (List.mem_of_getElem? hp))) (b.at_ i p g hp hg)⟩
theorem Bag.tr {H : Hp} {c : Addr} {ps : List Addr} {css : List (List Nat)} (b : Bag H c ps css) : ∀ x ∈ c :: ps, H x ≠ none := fun x hx => by
  rcases List.mem_cons.mp hx with rfl | hx
  · rw [b.top]; exact fun z => by cases z
  · obtain ⟨i, hi, e⟩ := List.getElem_of_mem hx
    have h1 : ps[i]? = some x := by rw [List.getElem?_eq_getElem hi, e]
    have h2 : css[i]? = some (css[i]'(by rw [← b.len]; exact hi)) := List.getElem?_eq_getElem _
    rw [b.at_ i x _ h1 h2]; exact fun z => by cases z
theorem Bag.ntup {H : Hp} {c : Addr} {ps : List Addr} {css : List (List Nat)} (b : Bag H c ps css) : ∀ x ∈ c :: ps, ∀ xs, H x ≠ some (.tup xs) := fun x hx xs => by
  rcases List.mem_cons.mp hx with rfl | hx
  · rw [b.top]; exact fun z => by cases z
  · obtain ⟨i, hi, e⟩ := List.getElem_of_mem hx
    have h1 : ps[i]? = some x := by rw [List.getElem?_eq_getElem hi, e]
    have h2 : css[i]? = some (css[i]'(by rw [← b.len]; exact hi)) := List.getElem?_eq_getElem _
    rw [b.at_ i x _ h1 h2]; exact fun z => by cases z
theorem Bag.get {H : Hp} {c : Addr} {ps : List Addr} {css : List (List Nat)} (b : Bag H c ps css) {i : Nat} (hi : i < css.length) : ∃ p g, css[i]? = some g ∧ ps[i]? = some p ∧ (ps.map V.ref)[i]? = some (V.ref p) ∧ H p = some (.lst (natV g)) ∧ p ∈ ps := by
  have h1 : ps[i]? = some (ps[i]'(by rw [b.len]; exact hi)) := List.getElem?_eq_getElem _
  have h2 : css[i]? = some css[i] := List.getElem?_eq_getElem hi
  exact ⟨_, _, h2, h1, by rw [List.getElem?_map, h1]; rfl, b.at_ i _ _ h1 h2, List.getElem_mem _⟩
theorem nodup_get {α : Type} {l : List α} (h : l.Nodup) {i j : Nat} {x : α} (hi : l[i]? = some x) (hj : l[j]? = some x) : i = j := by
  exact (List.getElem?_inj (List.getElem?_eq_some_iff.mp hi).1 h).mp (hi.trans hj.symm)
theorem Bag.put {H : Hp} {c : Addr} {ps : List Addr} {css : List (List Nat)} (b : Bag H c ps css) {i : Nat} {p : Addr} (hp : ps[i]? = some p) (g : List Nat) : Bag (upd H p (.lst (natV g))) c ps (css.set i g) := by
  have hcp : c ≠ p := fun e => (List.nodup_cons.mp b.nd).1 (e ▸ List.mem_of_getElem? hp)
  refine ⟨by rw [upd_ne hcp]; exact b.top, b.nd, by rw [List.length_set]; exact b.len, fun j q u hq hu => ?_⟩
  by_cases e : j = i
  · subst e
    rw [hp] at hq
    cases hq
    rw [List.getElem?_set_self (by have := (List.getElem?_eq_some_iff.mp hp).1; have := b.len; omega)] at hu
    cases hu
    exact upd_same
  · rw [List.getElem?_set_ne (fun z => e z.symm)] at hu
    have hqp : q ≠ p := fun z => e (nodup_get (List.nodup_cons.mp b.nd).2 (z ▸ hq) hp)
    rw [upd_ne hqp]
    exact b.at_ j q u hq hu
/-- one more list, empty -/
theorem Bag.more {H : Hp} {c : Addr} {ps : List Addr} {css : List (List Nat)} (b : Bag H c ps css) {p : Addr} (np : H p = none) : Bag (upd (upd H p (.lst [])) c (.lst (ps.map V.ref ++ [.ref p]))) c (ps ++ [p]) (css ++ [[]]) := by
  have hpc : ∀ x ∈ c :: ps, x ≠ p := fun x hx e => b.tr x hx (e ▸ np)
  refine ⟨by rw [upd_same, List.map_append]; rfl, ?_, by rw [List.length_append, List.length_append, b.len]; rfl, fun i q g hq hg => ?_⟩
  · rw [← List.cons_append, List.nodup_append]
    exact ⟨b.nd, by simp, fun x hx y hy => by rw [List.mem_singleton.mp hy]; exact hpc x hx⟩
  · have hqc : q ≠ c := fun e => by
      rcases List.mem_append.mp (List.mem_of_getElem? hq) with z | z
      · exact (List.nodup_cons.mp b.nd).1 (e ▸ z)
      · exact hpc c List.mem_cons_self (e ▸ List.mem_singleton.mp z)
    rw [upd_ne hqc]
    by_cases hi : i < ps.length
    · rw [List.getElem?_append_left hi] at hq
      rw [List.getElem?_append_left (by rw [← b.len]; exact hi)] at hg
      rw [upd_ne (hpc q (List.mem_cons_of_mem _ (List.mem_of_getElem? hq)))]
      exact b.at_ i q g hq hg
    · have e : i = ps.length := by
        have := (List.getElem?_eq_some_iff.mp hq).1
        rw [List.length_append] at this
        simp at this
        omega
      subst e
      rw [List.getElem?_append_right (Nat.le_refl _), Nat.sub_self] at hq
      rw [b.len, List.getElem?_append_right (Nat.le_refl _), Nat.sub_self] at hg
      cases hq
      cases hg
      exact upd_same
theorem natV_map (g : List Nat) : natV g = (g.map fun n : Nat => (n : Int)).map V.int := by unfold natV; rw [List.map_map]; rfl

/-! ### no part longer than 100,000 -/
mutual
def wdB : PyData → Bool
  | .list ds | .tuple ds => decide (ds.length < 100000) && wdAll ds
  | _ => true
def wdAll : List PyData → Bool
  | [] => true
  | d :: ds => wdB d && wdAll ds
end
theorem wd_len : 100000 < sizeLine := by rw [sizeLine_eq]; decide
theorem wd_mem {d : PyData} : ∀ {ds : List PyData}, wdAll ds = true → d ∈ ds → wdB d = true
  | [], _, h => by cases h
  | e :: ds, h, hm => by
    have h2 : wdB e = true ∧ wdAll ds = true := by simpa [wdAll] using h
    rcases List.mem_cons.mp hm with rfl | hm
    · exact h2.1
    · exact wd_mem h2.2 hm
theorem wd_map {α : Type} {f : α → PyData} (h : ∀ a, wdB (f a) = true) : ∀ xs : List α, wdAll (xs.map f) = true
  | [] => rfl
  | x :: r => by
    show (wdB (f x) && wdAll (r.map f)) = true
    rw [h x, wd_map h r]; rfl
theorem wd_list {ds : List PyData} (h : ds.length < 100000) (h2 : wdAll ds = true) : wdB (.list ds) = true := by
  show (decide _ && wdAll ds) = true
  rw [decide_eq_true h, h2]; rfl

/-! ### sorted numbers -/
def srt (g : List Nat) : List Nat := g.mergeSort
theorem srt_perm (g : List Nat) : (srt g).Perm g := List.mergeSort_perm g _
theorem srt_up (g : List Nat) : (srt g).Pairwise (· ≤ ·) := by
  have := List.pairwise_mergeSort (le := fun a b : Nat => decide (a ≤ b)) (fun a b c h1 h2 => by simp at *; omega) (fun a b => by simp; omega) g
  exact this.imp fun h => by simpa using h
theorem perm_up : ∀ {l m : List Int}, l.Perm m → l.Pairwise (· ≤ ·) → m.Pairwise (· ≤ ·) → l = m
  | [], m, h, _, _ => by rw [List.nil_perm.mp h]
  | a :: l, m, h, h1, h2 => by
    cases m with
    | nil => exact absurd h.length_eq (by simp)
    | cons b m =>
      have e : a = b := by
        have q1 : b ∈ a :: l := h.mem_iff.mpr List.mem_cons_self
        have q2 : a ∈ b :: m := h.mem_iff.mp List.mem_cons_self
        have r1 : a ≤ b := by
          rcases List.mem_cons.mp q1 with z | z
          · omega
          · exact (List.pairwise_cons.mp h1).1 b z
        have r2 : b ≤ a := by
          rcases List.mem_cons.mp q2 with z | z
          · omega
          · exact (List.pairwise_cons.mp h2).1 a z
        omega
      subst e
      rw [perm_up (List.Perm.cons_inv h) (List.pairwise_cons.mp h1).2 (List.pairwise_cons.mp h2).2]
theorem srt_of {g : List Nat} {ns : List Int} (h : ns.Perm (g.map fun n : Nat => (n : Int))) (h2 : ns.Pairwise (· ≤ ·)) : ns = (srt g).map fun n : Nat => (n : Int) :=
  perm_up (h.trans ((srt_perm g).symm.map _)) h2 (by
    rw [List.pairwise_map]
    exact (srt_up g).imp fun h => by omega)
theorem srt_len (g : List Nat) : (srt g).length = g.length := (srt_perm g).length_eq
end Em

namespace Em
open PySem PySem.Spec PyProof.Rows L2 Qt

/-! ### a beat of the walk -/
/-- how long a lamp burns -/
def burnOf (N : Net) (x : Nat) : Int := (N.getD x (1, none)).1
theorem burnOf_get {N : Net} {x : Nat} {p : Int × Option Nat} (h : N[x]? = some p) : burnOf N x = p.1 := by
  unfold burnOf
  rw [List.getD_eq_getElem?_getD, h]
  rfl
abbrev Lt := Option (Nat × Nat)
inductive Row where
  | ended (b k f : Nat)
  | lit (b k f : Nat)
  | lost (b k f g : Nat)
def rowD : Row → PyData
  | .ended b k f => .tuple [.str "ended", .int b, .int k, .int f]
  | .lit b k f => .tuple [.str "lit", .int b, .int k, .int f]
  | .lost b k f g => .tuple [.str "lost", .int b, .int k, .int f, .int g]
def Row.at_ : Row → Nat
  | .ended b _ _ | .lit b _ _ | .lost b _ _ _ => b
def lightD : Lt → PyData
  | none => .none
  | some (f, t) => .tuple [.int f, .int t]
def waitD (p : Nat × Nat) : PyData := .tuple [.int p.1, .int p.2]
structure Dk where
  L : List Lt
  css : List (List Nat)
  rows : List Row
def darkK (N : Net) (b k : Nat) (s : Dk) : Dk :=
  match s.L.getD k none with
  | none => s
  | some (f, t) => if (b : Int) < (t : Int) + burnOf N k then s else
    match nxt N k with
    | none => ⟨s.L.set k none, s.css, s.rows ++ [.ended b k f]⟩
    | some y => ⟨s.L.set k none, s.css.set y (s.css.getD y [] ++ [f]), s.rows⟩
def darkN (N : Net) (b : Nat) : Nat → Dk → Dk
  | 0, s => s
  | k + 1, s => darkK N b k (darkN N b k s)
def addK (css : List (List Nat)) (p : Nat × Nat) : List (List Nat) := css.set p.2 (css.getD p.2 [] ++ [p.1])
def addW (css : List (List Nat)) (W : List (Nat × Nat)) : List (List Nat) := W.foldl addK css
def meet (b k : Nat) : Lt → List Nat → Lt × List Row
  | some (g, t), fs => (some (g, t), fs.map fun f => .lost b k f g)
  | none, [] => (none, [])
  | none, f :: r => (some (f, b), .lit b k f :: r.map fun g => .lost b k g f)
structure Ms where
  L : List Lt
  rows : List Row
def meetK (b : Nat) (css : List (List Nat)) (k : Nat) (s : Ms) : Ms :=
  ⟨s.L.set k (meet b k (s.L.getD k none) (srt (css.getD k []))).1, s.rows ++ (meet b k (s.L.getD k none) (srt (css.getD k []))).2⟩
def meetN (b : Nat) (css : List (List Nat)) : Nat → Ms → Ms
  | 0, s => s
  | k + 1, s => meetK b css k (meetN b css k s)
def darkA (N : Net) (b : Nat) (L : List Lt) : Dk := darkN N b N.length ⟨L, List.replicate N.length [], []⟩
def beatA (N : Net) (b : Nat) (L : List Lt) (W : List (Nat × Nat)) : Ms :=
  meetN b (addW (darkA N b L).css W) N.length ⟨(darkA N b L).L, (darkA N b L).rows⟩

/-! ### sizes -/
def tot (css : List (List Nat)) : Nat := (css.map List.length).sum
theorem tot_mem {css : List (List Nat)} {g : List Nat} (h : g ∈ css) : g.length ≤ tot css := by
  induction css with
  | nil => cases h
  | cons c r ih =>
    show g.length ≤ c.length + tot r
    rcases List.mem_cons.mp h with rfl | h
    · exact Nat.le_add_right _ _
    · exact Nat.le_trans (ih h) (Nat.le_add_left _ _)
theorem tot_put (css : List (List Nat)) (k f : Nat) : tot (css.set k (css.getD k [] ++ [f])) ≤ tot css + 1 := by
  induction css generalizing k with
  | nil => exact Nat.zero_le _
  | cons c r ih =>
    cases k with
    | zero =>
      show (c ++ [f]).length + tot r ≤ c.length + tot r + 1
      rw [List.length_append]
      simp
      omega
    | succ k =>
      have := ih k
      show c.length + tot (r.set k (r.getD k [] ++ [f])) ≤ c.length + tot r + 1
      omega
theorem tot_rep (n : Nat) : tot (List.replicate n []) = 0 := by
  unfold tot
  rw [List.map_replicate, List.sum_replicate_nat]
  simp
theorem darkK_len (N : Net) (b k : Nat) (s : Dk) : (darkK N b k s).L.length = s.L.length ∧ (darkK N b k s).css.length = s.css.length ∧ (darkK N b k s).rows.length + tot (darkK N b k s).css ≤ s.rows.length + tot s.css + 1 := by
  unfold darkK
  split
  · exact ⟨rfl, rfl, Nat.le_succ _⟩
  · rename_i f t _
    split
    · exact ⟨rfl, rfl, Nat.le_succ _⟩
    · split
      · refine ⟨List.length_set, rfl, ?_⟩
        show (s.rows ++ [_]).length + _ ≤ _
        rw [List.length_append]
        simp
        omega
      · rename_i y _
        have := tot_put s.css y f
        exact ⟨List.length_set, List.length_set, by show s.rows.length + tot (s.css.set y (s.css.getD y [] ++ [f])) ≤ _; omega⟩
theorem darkN_len (N : Net) (b : Nat) (s : Dk) : ∀ k, (darkN N b k s).L.length = s.L.length ∧ (darkN N b k s).css.length = s.css.length ∧ (darkN N b k s).rows.length + tot (darkN N b k s).css ≤ s.rows.length + tot s.css + k
  | 0 => ⟨rfl, rfl, Nat.le_refl _⟩
  | k + 1 => by
    obtain ⟨a1, a2, a3⟩ := darkN_len N b s k
    obtain ⟨b1, b2, b3⟩ := darkK_len N b k (darkN N b k s)
    exact ⟨b1.trans a1, b2.trans a2, by show _ ≤ _; exact Nat.le_trans b3 (by omega)⟩
theorem darkN_step (N : Net) (b : Nat) (s : Dk) (k : Nat) : (darkN N b k s).rows.length + tot (darkN N b k s).css ≤ s.rows.length + tot s.css + k := (darkN_len N b s k).2.2
theorem addW_len (W : List (Nat × Nat)) : ∀ css : List (List Nat), (addW css W).length = css.length ∧ tot (addW css W) ≤ tot css + W.length := by
  induction W with
  | nil => exact fun css => ⟨rfl, Nat.le_refl _⟩
  | cons p r ih =>
    intro css
    obtain ⟨a1, a2⟩ := ih (addK css p)
    have h1 : (addK css p).length = css.length := List.length_set
    have h2 := tot_put css p.2 p.1
    refine ⟨a1.trans h1, ?_⟩
    show tot (addW (addK css p) r) ≤ _
    have h3 : tot (addK css p) ≤ tot css + 1 := h2
    rw [List.length_cons]
    omega
theorem addW_more (css : List (List Nat)) (W : List (Nat × Nat)) (p : Nat × Nat) : addW css (W ++ [p]) = addK (addW css W) p := by
  unfold addW
  rw [List.foldl_append]
  rfl
theorem meet_len (b k : Nat) (l : Lt) (fs : List Nat) : (meet b k l fs).2.length = fs.length := by
  cases l with
  | some p => simp [meet]
  | none => cases fs <;> simp [meet]
theorem meetK_len (b : Nat) (css : List (List Nat)) (k : Nat) (s : Ms) : (meetK b css k s).L.length = s.L.length ∧ (meetK b css k s).rows.length = s.rows.length + (css.getD k []).length := by
  refine ⟨List.length_set, ?_⟩
  show (s.rows ++ (meet b k (s.L.getD k none) (srt (css.getD k []))).2).length = _
  rw [List.length_append, meet_len, srt_len]
theorem meetN_len (b : Nat) (css : List (List Nat)) (s : Ms) : ∀ k, (meetN b css k s).L.length = s.L.length ∧ (meetN b css k s).rows.length ≤ s.rows.length + tot (css.take k)
  | 0 => ⟨rfl, Nat.le_add_right _ _⟩
  | k + 1 => by
    obtain ⟨a1, a2⟩ := meetN_len b css s k
    obtain ⟨b1, b2⟩ := meetK_len b css k (meetN b css k s)
    refine ⟨b1.trans a1, ?_⟩
    show (meetK b css k (meetN b css k s)).rows.length ≤ _
    rw [b2]
    by_cases hk : k < css.length
    · have e : tot (css.take (k + 1)) = tot (css.take k) + (css.getD k []).length := by
        rw [List.take_add_one, List.getElem?_eq_getElem hk]
        unfold tot
        rw [List.map_append, List.sum_append, List.getD_eq_getElem?_getD, List.getElem?_eq_getElem hk]
        simp
      omega
    · have e1 : css.getD k [] = [] := by rw [List.getD_eq_getElem?_getD, List.getElem?_eq_none (by omega)]; rfl
      have e2 : css.take (k + 1) = css.take k := by rw [List.take_of_length_le (by omega), List.take_of_length_le (by omega)]
      rw [e1, e2]
      simpa using a2
theorem tot_take (css : List (List Nat)) (k : Nat) : tot (css.take k) ≤ tot css := by
  have e : tot css = tot (css.take k) + tot (css.drop k) := by
    unfold tot
    rw [← List.sum_append, ← List.map_append, List.take_append_drop]
  omega
theorem darkA_len {N : Net} {b : Nat} {L : List Lt} (h : L.length = N.length) : (darkA N b L).L.length = N.length ∧ (darkA N b L).css.length = N.length ∧ (darkA N b L).rows.length + tot (darkA N b L).css ≤ N.length := by
  obtain ⟨a1, a2, a3⟩ := darkN_len N b ⟨L, List.replicate N.length [], []⟩ N.length
  refine ⟨a1.trans h, a2.trans (List.length_replicate), ?_⟩
  have e : ([] : List Row).length + tot (List.replicate N.length []) + N.length = N.length := by rw [tot_rep]; simp
  exact Nat.le_trans a3 (Nat.le_of_eq e)
theorem beatA_len {N : Net} {b : Nat} {L : List Lt} {W : List (Nat × Nat)} (h : L.length = N.length) : (beatA N b L W).L.length = N.length ∧ (beatA N b L W).rows.length ≤ N.length + W.length := by
  obtain ⟨a1, a2, a3⟩ := darkA_len (b := b) h
  obtain ⟨b1, b2⟩ := addW_len W (darkA N b L).css
  obtain ⟨c1, c2⟩ := meetN_len b (addW (darkA N b L).css W) ⟨(darkA N b L).L, (darkA N b L).rows⟩ N.length
  refine ⟨c1.trans a1, Nat.le_trans c2 ?_⟩
  have := tot_take (addW (darkA N b L).css W) N.length
  show (darkA N b L).rows.length + _ ≤ _
  omega
/-! ### the rows of a beat are of that beat -/
theorem darkN_at (N : Net) (b : Nat) (s : Dk) (h : ∀ r ∈ s.rows, r.at_ = b) : ∀ k, ∀ r ∈ (darkN N b k s).rows, r.at_ = b
  | 0 => h
  | k + 1 => by
    intro r hr
    have ih := darkN_at N b s h k
    have hr2 : r ∈ (darkK N b k (darkN N b k s)).rows := hr
    unfold darkK at hr2
    split at hr2
    · exact ih r hr2
    · split at hr2
      · exact ih r hr2
      · split at hr2
        · rcases List.mem_append.mp hr2 with z | z
          · exact ih r z
          · rw [List.mem_singleton.mp z]; rfl
        · exact ih r hr2
theorem meet_at (b k : Nat) (l : Lt) (fs : List Nat) : ∀ r ∈ (meet b k l fs).2, r.at_ = b := by
  intro r hr
  cases l with
  | some p =>
    obtain ⟨f, _, rfl⟩ := List.mem_map.mp (show r ∈ fs.map _ from hr)
    rfl
  | none =>
    cases fs with
    | nil => cases hr
    | cons f g =>
      rcases List.mem_cons.mp (show r ∈ Row.lit b k f :: g.map _ from hr) with rfl | z
      · rfl
      · obtain ⟨f, _, rfl⟩ := List.mem_map.mp z
        rfl
theorem meetN_at (b : Nat) (css : List (List Nat)) (s : Ms) (h : ∀ r ∈ s.rows, r.at_ = b) : ∀ k, ∀ r ∈ (meetN b css k s).rows, r.at_ = b
  | 0 => h
  | k + 1 => by
    intro r hr
    rcases List.mem_append.mp (show r ∈ (meetN b css k s).rows ++ _ from hr) with z | z
    · exact meetN_at b css s h k r z
    · exact meet_at b k _ _ r z
theorem beatA_at (N : Net) (b : Nat) (L : List Lt) (W : List (Nat × Nat)) : ∀ r ∈ (beatA N b L W).rows, r.at_ = b :=
  meetN_at b _ _ (darkN_at N b _ (fun r hr => by cases hr) _) _
/-! ### what burns was lit, and is not over -/
def Fresh (N : Net) (b : Nat) (L : List Lt) : Prop := ∀ k f t, L[k]? = some (some (f, t)) → t < b ∧ (b : Int) ≤ (t : Int) + burnOf N k
end Em

namespace Em
open PySem PySem.Spec PyProof.Rows L2 Qt
open AutoSeq1 (wpAny_loadPart')

/-! ### zip of two tuples -/
theorem walk_zipT {K : PySem.W.Frag} {a b : Addr} {xs ys : List V} {m : Nat} (hm : m = min xs.length ys.length) :
    Walk (RZ.ItzT K a b) m (fun H => SqT K H a xs ∧ SqT K H b ys) (YPair (fun i => xs[i]?) fun i => ys[i]?) where
  goes i H hi g := by
    have c1 : i < xs.length := by omega
    have c2 : i < ys.length := by omega
    exact ⟨xs, ys, xs[i], ys[i], g.1, g.2, List.getElem?_eq_getElem c1, List.getElem?_eq_getElem c2⟩
  stops H g := ⟨xs, ys, g.1, g.2, by omega⟩
  yields i H v H' hi g y := by
    obtain ⟨T, x, z, e1, e2, e3, e4, e5⟩ := y
    exact ⟨T, x, z, e1, e2, e3, e4 xs g.1, e5 ys g.2⟩

/-- (a, b, ..) = t within a comprehension, the written part told -/
theorem pg_tupK {X : Cx} {K : PySem.W.Frag} (e : X.K = K) {es : List Expr} {k : Nat} {t : TGs} {n : Nat} {pos : Pos} (hc : X.calm = true) (h : PGs X es t)
    (hn : (assignEach es X.env).length = n := by rfl) (hst : (assignEach es X.env).findIdx? (·.1) = none := by rfl) : PG X (.Tuple es k pos) (gTup K n t) := e ▸ pg_tup hc h hn hst

/-! ### enumerate of a tuple -/
def tIter (l : Addr) : Obj := { cls := .type "tuple_iterator", data := .fields #[.ref l, .int 0 0] }
def tEnum (it : Addr) : Obj := { cls := .type "enumerate", data := .fields #[.none, .bool false, .ref it, rawInt 0, .none, .none] }
theorem enumT_new (l : Addr) (vs : Array Value) (n : Nat) (dd : Option Addr) (sl : Array (Option Value)) :
    Meets (Builtin.«enumerate.__new__» ⟨[.type "enumerate", .ref l], []⟩) (fun _ R s => s.heap.get? l = some { cls := .type "tuple", dict := dd, data := .seq vs n, slots := sl } ∧
      R (.ok (.ret (.ref (s.heap.push (tIter l)).objs.size))) { s with heap := (s.heap.push (tIter l)).push (tEnum s.heap.objs.size) }) :=
  .of_wp fun prog w A R s h => by
    obtain ⟨H0, g0, d0, tk0, os0⟩ := s
    obtain ⟨hl, hR⟩ := h
    have hsub := sub_enumerate
    have hT : Heap.IsTuple (Shared.heap ⟨H0, g0, d0, tk0, os0⟩) l vs := ⟨_, hl, rfl, n, rfl⟩
    wp_walk using wpAny_loadPart' hl
    refine wpAny_stack_any fun st => wpAny_pure ?_
    split
    · rename_i c _ _ _ _ _
      cases (c == Value.type "enumerate") <;> (wp_walk using wpAny_loadPart' hl, wpAny_pyIter_tuple hT; exact ⟨_, rfl, hR⟩)
    · (wp_walk using wpAny_loadPart' hl, wpAny_pyIter_tuple hT)
      exact ⟨_, rfl, hR⟩
section
variable {P : Program} {w : World} {A : Around} {E : Value → Shared → Prop} {s : Shared}
theorem call_enumT {l : Addr} {vs : Array Value} {Q : Value → Shared → Prop} (hT : s.heap.IsTuple l vs)
    (q : ∀ g : Heap, IsEnum g (s.heap.objs.size + 1) s.heap.objs.size 0 .none → g.IsTupleIter s.heap.objs.size l 0 → (∀ b o, s.heap.get? b = some o → g.get? b = some o) → Q (.ref (s.heap.objs.size + 1)) { s with heap := g }) :
    wpAny (model P w) A (call (.type "enumerate") [.ref l]) Q E s := by
  obtain ⟨⟨c, dd, dt, sl⟩, hl, hc, n, hd⟩ := hT
  obtain rfl : c = .type "tuple" := hc
  obtain rfl : dt = .seq vs n := hd
  refine callType_new F.called_enumerate (by decide) (F.typeCall_enumerate_1 _) (F.newCall_enumerate_1 _)
    (fun obj => F.args_object_init_2 obj _) F.entry_enumerate_new (enumT_new l vs n dd sl) ⟨hl, ?_⟩
  have z1 : (s.heap.push (tIter l)).objs.size = s.heap.objs.size + 1 := Heap.size_push ..
  have he : ((s.heap.push (tIter l)).push (tEnum s.heap.objs.size)).get? (s.heap.objs.size + 1) = some (tEnum s.heap.objs.size) := by
    have e := Heap.get?_push_size (s.heap.push (tIter l)) (o := tEnum s.heap.objs.size) rfl
    rwa [z1] at e
  show _ ∧ _
  rw [z1]
  refine ⟨⟨_, he, rfl⟩, q _ he ?_ fun b o x => Heap.get?_push_of_some _ (Heap.get?_push_of_some _ x)⟩
  exact ⟨tIter l, Heap.get?_push_of_some _ (Heap.get?_push_size _ rfl), rfl, rfl⟩
end
/-- the tuple at a, each item in a new pair with its number -/
def IteT (K : PySem.W.Frag) (a : Addr) : It :=
  ⟨fun i H => ∃ (xs : List V) (x : V), SqT K H a xs ∧ xs[i]? = some x,
    fun i H v H' => ∃ T x, v = .ref T ∧ H T = none ∧ H' = upd H T (.tup [.int (i : Nat), x]) ∧ ∀ xs, SqT K H a xs → xs[i]? = some x,
    fun i H => ∃ xs : List V, SqT K H a xs ∧ xs.length = i⟩
theorem turn_enumT {P : Program} {w : World} {K : PySem.W.Frag} {elts : List Expr} {kk : Nat} {tpos : Pos} (a e it : Addr) :
    Turn P w K (.Tuple elts kk tpos) (IteT K a) [e, it] e (fun i h => (∃ old, IsEnum h e it ((i : Nat) : Int) old) ∧ h.IsTupleIter it a i ∧ e ≠ it ∧ a ≠ it ∧ a ≠ e) where
  mem := by simp
  obj := fun i h st b hb => by
    obtain ⟨⟨old, he⟩, ⟨o, ho, hc, hd⟩, _⟩ := st
    have hb2 : b = e ∨ b = it := by simpa using hb
    rcases hb2 with z | z <;> rw [z]
    · exact ⟨_, he, fun v q => nomatch q⟩
    · exact ⟨o, ho, fun v q => by rw [hd] at q; cases q⟩
  keep := fun i h h' st k => by
    obtain ⟨⟨old, he⟩, hi, hne⟩ := st
    exact ⟨⟨old, k e (by simp) _ he⟩, hi.at fun o q => k it (by simp) o q, hne⟩
  item := by
    intro X hP hw hK hc i pins s σ H E I hf st hg
    subst hP hw hK
    obtain ⟨⟨old, he⟩, hit, hne, hai, hae⟩ := st
    obtain ⟨xs, x, hq, hx⟩ := hg
    obtain ⟨its, rv, tp, hz⟩ := I.tuple hq
    obtain ⟨u, hu, ru⟩ := rv.get hx
    have le : e < s.heap.objs.size := Heap.lt_size he
    have li : it < s.heap.objs.size := let ⟨_, q, _⟩ := hit; Heap.lt_size q
    have hlt : i < its.toArray.size := by have := (List.getElem?_eq_some_iff.mp hu).1; simpa using this
    have hin : e ∉ [it, a] := by simp [hne, Ne.symm hae]
    refine wpAny_pyNext_enum_itemD (Draws.tuple (A := X.A.in1) (I.ok.hd hc) it a hai its.toArray) he ⟨hit, show s.heap.IsTuple a its.toArray from tp⟩ hlt hne hin fun y g tk hy ho hst hT hsz hk => ?_
    obtain rfl : y = u := by
      have hy2 : its.toArray[i]? = some y := hy
      rw [show its.toArray[i]? = its[i]? by simp, hu] at hy2
      exact (Option.some.inj hy2).symm
    refine ⟨_, rfl, wpAny_letOwnedTupleGo_enum (s := { s with heap := g, toks := tk + 1 }) ho fun g2 he2 sb => ?_⟩
    have hT2 : g2.get? s.heap.objs.size = some { cls := .type "tuple", data := .seq #[.int i tk, y] } := (sb.2 _ (Nat.ne_of_gt le)).trans hT
    have nw : ObjOk X.prog X.w (upd H s.heap.objs.size (.tup [.int (i : Nat), x])) g2 s.heap.objs.size (.tup [.int (i : Nat), x]) :=
      ⟨(by show 2 ≤ sizeLine; decide), [.int i tk, y], .cons ⟨_, rfl⟩ (.cons ru .nil), ⟨_, hT2, rfl, _, rfl⟩⟩
    have I1 : Inv X pins σ (upd H s.heap.objs.size (.tup [.int (i : Nat), x])) { s with heap := g2, toks := tk + 1 } :=
      I.turnedNew (ch := [e, it]) (fun b ob hb q => by
        have n1 : b ≠ e := fun z => hb (by simp [z])
        have n2 : b ≠ it := fun z => hb (by simp [z])
        exact (sb.2 b n1).trans (hk b ob n1 n2 q)) hf (Nat.le_refl _) nw
    refine ⟨.ref s.heap.objs.size, _, I1, rfl, ⟨_, x, rfl, I.hok.fresh (Nat.le_refl _), rfl, fun ys hy => by rw [I.tuple_inj hy hq]; exact hx⟩, ⟨⟨y, ?_⟩, hst.1.at fun o q => (sb.2 it (Ne.symm hne)).trans q, hne, hai, hae⟩, fun b hb => ?_⟩
    · rw [show ((i + 1 : Nat) : Int) = (i : Int) + 1 by omega]
      exact he2
    · have hb2 : b = e ∨ b = it := by simpa using hb
      have hb3 : b < s.heap.objs.size := by rcases hb2 with z | z <;> rw [z] <;> assumption
      rw [upd_ne (Nat.ne_of_lt hb3)]
      exact (hf b hb).1
  done := by
    intro X hP hw hK hc i pins s σ H E I hf st hg
    subst hP hw hK
    obtain ⟨⟨old, he⟩, hit, hne, hai, hae⟩ := st
    obtain ⟨xs, hq, hx⟩ := hg
    obtain ⟨its, rv, tp, hz⟩ := I.tuple hq
    obtain ⟨f0, f1, f2, f3, f4, f5⟩ := hf it (by simp)
    have hl := rv.length
    have hTT : s.heap.IsTuple a its.toArray := tp
    have en : i = its.toArray.size := by rw [List.size_toArray]; omega
    refine wpAny_pyNext_enum_endD (Draws.tuple (A := X.A.in1) (I.ok.hd hc) it a hai its.toArray) he ⟨en ▸ hit, hTT⟩ fun g eb => ?_
    exact ⟨rfl, I.turned (t' := s.toks) (fun b o hb q => eb b o hb q) f0 f1 f3 f4 f5⟩
  self := fun A i s Q E st h => let ⟨⟨_, he⟩, _⟩ := st; wpAny_pyIter_enum he h
def iEnumT (K : PySem.W.Frag) (ta : TA) : TI := fun σ H R => ta σ H fun us H1 => ∃ a xs, us = [.ref a] ∧ SqT K H1 a xs ∧ R (IteT K a) H1
theorem pi_enumT {X : Cx} {e : Expr} {ta : TA} {p pos tpos : Pos} {elts : List Expr} {kk : Nat} (hg : Gl X "enumerate") (hm : X.mg "enumerate" = none) (ha : PA X [e] ta)
    (hs : starEach [e] X.env = [(false, eval e X.env)] := by rfl) : PI X (.Tuple elts kk tpos) (.Call (.Name "enumerate" p) [e] [] pos) (iEnumT X.K ta) := by
  refine ⟨fun pins s σ H R I h => Call_ (ld_blt I hg hm boot_enumerate (PyProof.Rows.callWith_type1 (thn (ha.run pos pins s σ H _ I h) fun us s1 ⟨vs, H1, I1, r1, q1⟩ => ?_) hs rfl))⟩
  obtain ⟨a, xs, rfl, hq, q⟩ := q1
  obtain ⟨u1, rfl, ru⟩ := vals1 r1
  cases ru
  obtain ⟨its, rv, tp, hz⟩ := I1.tuple hq
  have la : a < s1.heap.objs.size := by
    obtain ⟨o, ho, _⟩ := id tp
    exact Heap.lt_size ho
  refine call_enumT (show s1.heap.IsTuple a its.toArray from tp) fun g he hit hk => wpAny_pyIter_enum he ?_
  have I2 : Inv X pins σ H1 { s1 with heap := g } := I1.kept (t' := s1.toks) hk
  refine ⟨s1.heap.objs.size + 1, [s1.heap.objs.size + 1, s1.heap.objs.size], _, _, H1, rfl, I2, turn_enumT a (s1.heap.objs.size + 1) s1.heap.objs.size,
    ⟨⟨.none, he⟩, hit, Nat.succ_ne_self _, Nat.ne_of_lt la, Nat.ne_of_lt (Nat.lt_succ_of_lt la)⟩, fun b hb => ?_, q⟩
  have hb2 : b = s1.heap.objs.size + 1 ∨ b = s1.heap.objs.size := by simpa using hb
  have hle : s1.heap.objs.size ≤ b := by
    rcases hb2 with z | z <;> rw [z]
    · exact Nat.le_add_right _ _
    · exact Nat.le_refl _
  exact I1.fpOk hle (I1.hok.fresh hle)
theorem walk_enumT {K : PySem.W.Frag} {a : Addr} {xs : List V} : Walk (IteT K a) xs.length (fun H => SqT K H a xs) (YPair (fun i => some (.int (i : Nat))) fun i => xs[i]?) where
  goes i H hi g := ⟨xs, xs[i], g, List.getElem?_eq_getElem hi⟩
  stops H g := ⟨xs, g, rfl⟩
  yields i H v H' hi g y := by
    obtain ⟨T, x, e1, e2, e3, e4⟩ := y
    exact ⟨T, .int (i : Nat), x, e1, e2, e3, rfl, e4 xs g⟩
end Em

namespace Em
open PySem PySem.Spec PyProof.Rows L2 Qt

/-! ### data of any kind: within bounds -/
mutual
def okD : PyData → Bool
  | .none | .bool _ => true
  | .int i => decide (i.natAbs < 10 ^ 60)
  | .str z => (z.cps.toList.all fun c => decide (c < 16 ^ 8)) && decide (z.cps.size ≤ 7)
  | .list xs | .tuple xs => okAll xs
  | .dict _ => false
def okAll : List PyData → Bool
  | [] => true
  | x :: xs => okD x && okAll xs
end
mutual
theorem okD_show : ∀ d : PyData, okD d = true → d.showable = true ∧ d.leavesShort 61 = true
  | .none, _ => ⟨rfl, rfl⟩
  | .bool b, _ => ⟨rfl, rfl⟩
  | .int i, h => small_int (of_decide_eq_true (by simpa only [okD] using h))
  | .str z, h => ⟨rfl, (Bool.and_eq_true_iff.mp (show ((z.cps.toList.all fun c => decide (c < 16 ^ 8)) && decide (z.cps.size ≤ 7)) = true from h)).1⟩
  | .list xs, h => by
    have := okAll_show xs (by simpa only [okD] using h)
    simpa only [PyData.showable, PyData.leavesShort] using this
  | .tuple xs, h => by
    have := okAll_show xs (by simpa only [okD] using h)
    simpa only [PyData.showable, PyData.leavesShort] using this
  | .dict kvs, h => by cases h
theorem okAll_show : ∀ ds : List PyData, okAll ds = true → PyData.showableAll ds = true ∧ PyData.leavesShortAll 61 ds = true
  | [], _ => ⟨rfl, rfl⟩
  | d :: ds, h => by
    have h2 : okD d = true ∧ okAll ds = true := by simpa only [okAll, Bool.and_eq_true] using h
    obtain ⟨a1, a2⟩ := okD_show d h2.1
    obtain ⟨b1, b2⟩ := okAll_show ds h2.2
    exact ⟨by simp only [PyData.showableAll, a1, b1, Bool.and_self], by simp only [PyData.leavesShortAll, a2, b2, Bool.and_self]⟩
end
mutual
theorem okD_noDict : ∀ d : PyData, okD d = true → d.hasDict = false
  | .none, _ => rfl
  | .bool b, _ => rfl
  | .int i, _ => rfl
  | .str z, _ => rfl
  | .list xs, h => by simpa only [PyData.hasDict] using okAll_noDict xs (by simpa only [okD] using h)
  | .tuple xs, h => by simpa only [PyData.hasDict] using okAll_noDict xs (by simpa only [okD] using h)
  | .dict kvs, h => by cases h
theorem okAll_noDict : ∀ ds : List PyData, okAll ds = true → PyData.hasDictAll ds = false
  | [], _ => rfl
  | d :: ds, h => by
    have h2 : okD d = true ∧ okAll ds = true := by simpa only [okAll, Bool.and_eq_true] using h
    simp only [PyData.hasDictAll, okD_noDict d h2.1, okAll_noDict ds h2.2, Bool.or_self]
end
theorem okAll_iff : ∀ ds : List PyData, okAll ds = true ↔ ∀ d ∈ ds, okD d = true
  | [] => ⟨fun _ d z => (by cases z), fun _ => rfl⟩
  | d :: ds => by
    simp only [okAll, Bool.and_eq_true, List.mem_cons, forall_eq_or_imp]
    rw [okAll_iff ds]
mutual
/-- how many parts -/
def szD : PyData → Nat
  | .list xs | .tuple xs => szAll xs
  | _ => 0
def szAll : List PyData → Nat
  | [] => 0
  | x :: xs => szD x + 1 + szAll xs
end
mutual
theorem shown_sz : ∀ d : PyData, okD d = true → d.shown.length ≤ 80 * szD d + 75
  | .none, _ => by decide
  | .bool b, _ => by cases b <;> decide
  | .int i, h => Nat.le_trans (small_shown (of_decide_eq_true (by simpa only [okD] using h))) (by omega)
  | .str z, h => by
    obtain ⟨h1, h2⟩ := Bool.and_eq_true_iff.mp (show ((z.cps.toList.all fun c => decide (c < 16 ^ 8)) && decide (z.cps.size ≤ 7)) = true from h)
    have e := StrLaws.reprText_len z (by simpa only [List.all_eq_true, decide_eq_true_eq] using h1)
    have h3 := of_decide_eq_true h2
    have e2 : z.length = z.cps.size := rfl
    show (reprText z).length ≤ _
    omega
  | .list xs, h => by
    have h1 := shownAll_sz xs (by simpa only [okD] using h)
    have h2 := listText_len_le (PyData.shownAll xs)
    have h3 := PyData.shownAll_length xs
    simp only [PyData.shown, szD]
    omega
  | .tuple xs, h => by
    have h1 := shownAll_sz xs (by simpa only [okD] using h)
    have h2 := tupleText_len_le (PyData.shownAll xs)
    have h3 := PyData.shownAll_length xs
    simp only [PyData.shown, szD]
    omega
  | .dict kvs, h => by cases h
theorem shownAll_sz : ∀ xs : List PyData, okAll xs = true → ((PyData.shownAll xs).map (·.length)).sum + 2 * xs.length ≤ 80 * szAll xs
  | [], _ => Nat.le_refl _
  | x :: xs, h => by
    have h2 : okD x = true ∧ okAll xs = true := by simpa only [okAll, Bool.and_eq_true] using h
    have a := shown_sz x h2.1
    have b := shownAll_sz xs h2.2
    simp only [PyData.shownAll, szAll, List.map_cons, List.sum_cons, List.length_cons]
    omega
end
structure Fit (w k : Nat) (d : PyData) : Prop where
  ok : okD d = true
  wt : szD d ≤ w
  dp : d.depth ≤ k
theorem Fit.mono {w k w' k' : Nat} {d : PyData} (h : Fit w k d) (hw : w ≤ w') (hk : k ≤ k') : Fit w' k' d := ⟨h.ok, Nat.le_trans h.wt hw, Nat.le_trans h.dp hk⟩
theorem fit_all {w k : Nat} : ∀ ds : List PyData, (∀ d ∈ ds, Fit w k d) → okAll ds = true ∧ szAll ds ≤ (w + 1) * ds.length ∧ PyData.depthAll ds ≤ k
  | [], _ => ⟨rfl, Nat.zero_le _, Nat.zero_le _⟩
  | d :: ds, h => by
    have a := h d List.mem_cons_self
    obtain ⟨b1, b2, b3⟩ := fit_all ds fun e he => h e (List.mem_cons_of_mem _ he)
    have c := a.wt
    refine ⟨by simp only [okAll, a.ok, b1, Bool.and_self], ?_, Nat.max_le.mpr ⟨a.dp, b3⟩⟩
    show szD d + 1 + szAll ds ≤ (w + 1) * (ds.length + 1)
    have e : (w + 1) * (ds.length + 1) = (w + 1) * ds.length + (w + 1) := by rw [Nat.mul_succ]
    omega
theorem fit_tup {w k n : Nat} {ds : List PyData} (h : ∀ d ∈ ds, Fit w k d) (hn : ds.length ≤ n) : Fit ((w + 1) * n) (k + 1) (.tuple ds) := by
  obtain ⟨b1, b2, b3⟩ := fit_all ds h
  exact ⟨b1, Nat.le_trans b2 (Nat.mul_le_mul_left _ hn), Nat.succ_le_succ b3⟩
theorem fit_lst {w k n : Nat} {ds : List PyData} (h : ∀ d ∈ ds, Fit w k d) (hn : ds.length ≤ n) : Fit ((w + 1) * n) (k + 1) (.list ds) := by
  obtain ⟨b1, b2, b3⟩ := fit_all ds h
  exact ⟨b1, Nat.le_trans b2 (Nat.mul_le_mul_left _ hn), Nat.succ_le_succ b3⟩
theorem fit_int {i : Int} (h : i.natAbs < 10 ^ 60) {w k : Nat} (hw : 200 ≤ w) : Fit w k (.int i) := ⟨decide_eq_true h, Nat.zero_le _, Nat.zero_le _⟩
theorem fit_non {w k : Nat} : Fit w k .none := ⟨rfl, Nat.zero_le _, Nat.zero_le _⟩
theorem fit_bool {w k : Nat} (b : Bool) : Fit w k (.bool b) := ⟨rfl, Nat.zero_le _, Nat.zero_le _⟩
theorem Fit.shown {w k : Nat} {d : PyData} (h : Fit w k d) (hw : w ≤ 200000) : d.showable = true ∧ d.shown.length ≤ sizeLine := by
  obtain ⟨h1, h2⟩ := okD_show d h.ok
  refine ⟨h1, ?_⟩
  have h4 := shown_sz d h.ok
  have h5 := h.wt
  rw [sizeLine_eq]
  omega
theorem fit_int0 {i : Int} (h : i.natAbs < 10 ^ 60) {w k : Nat} : Fit w k (.int i) := ⟨decide_eq_true h, Nat.zero_le _, Nat.zero_le _⟩
/-! ### repr of it -/
section
variable {X : Cx}
theorem call_reprX {j : Nat} (hG : X.A.guards = some []) (rm : Room j X.A) : CallR X (.builtin "repr") (fun xs H Q => ∃ (S : List Addr) (x : V) (d : PyData), xs = [x] ∧ Dx S H x d ∧ (d.hasDict = false ∨ d = .dict []) ∧ d.showable = true ∧ d.depth < 150 ∧ d.shown.length ≤ sizeLine ∧ Q (.str d.shown) H) := by
  intro pins s σ H xs us Q I r h
  obtain ⟨S, x, d, rfl, hd, h2, h1, h3, h4, q⟩ := h
  obtain ⟨u, rfl, ru⟩ := vals1 r
  have hu := rm.un
  have ref : ∀ (a : Addr) (as : List Addr), Reads s.heap (.ref a) d as → (d.hasDict = true → sysModules ∉ as) → wpAny (model X.prog X.w) X.A (call (.builtin "repr") [.ref a]) (EP X pins σ Q) X.xe s := fun a as hr hm =>
    repr_of_reads' hr h1 hm hG (by omega) (fun _ _ e => e) (fun h' u tk hk => ⟨.str d.shown, H, I.kept (t' := tk) hk, ⟨u, rfl⟩, q⟩) h4
  have plain : ∀ a : Addr, x = .ref a → d.hasDict = false → wpAny (model X.prog X.w) X.A (call (.builtin "repr") [u]) (EP X pins σ Q) X.xe s := fun a e hn => by
    subst e
    obtain ⟨as, hr⟩ := (hd.dp hn (K := X.K)).reads I d _ u ru
    obtain rfl : u = Value.ref a := ru
    exact ref a as hr fun e => by rw [hn] at e; cases e
  cases hd with
  | non => cases ru; exact PySem.P.repr_of_none ⟨.str _, H, I.tok _, ⟨_, rfl⟩, q⟩
  | bl b => cases ru; exact PySem.P.repr_of_bool ⟨.str _, H, I.tok _, ⟨_, rfl⟩, q⟩
  | int i =>
    obtain ⟨t, rfl⟩ := ru
    exact PySem.P.repr_of_int (of_decide_eq_true (by simpa only [PyData.showable] using h1)) ⟨.str _, H, I.tok _, ⟨_, rfl⟩, q⟩
  | str z =>
    obtain ⟨t, rfl⟩ := ru
    exact PySem.P.repr_of_str ⟨.str _, H, I.tok _, ⟨_, rfl⟩, q⟩ h4
  | @lst a vs ds n h ra =>
    rcases h2 with h2 | h2
    · exact plain a rfl h2
    · cases h2
  | @tup a vs ds n h ra =>
    rcases h2 with h2 | h2
    · exact plain a rfl h2
    · cases h2
  | @dic a n h =>
    obtain rfl : u = Value.ref a := ru
    obtain ⟨_, ns, vs, rk, o, es, ep, e, ⟨ec, _⟩, ed, _, hp, _⟩ := I.hok _ _ h
    cases rk
    have e0 : es.toList = [] := by
      generalize es.toList = l at hp
      cases hp
      rfl
    refine ref a ([a] ++ []) (Reads.dict e ec ed (as := []) (bs := []) (by rw [e0]; exact ReadsAll.nil) (by rw [e0]; exact ReadsAll.nil)) fun _ z => ?_
    simp only [List.append_nil, List.mem_singleton] at z
    rw [← z] at ns
    simp at ns
end
/-! ### slices, sums and multiples of tuples -/
theorem cutA_x {S : List Addr} {H : Hp} {lo hi : Option Int} : ∀ {xs : List V} {ds : List PyData}, DxA S H xs ds → DxA S H (cutV xs lo hi) ((ds.drop (HT.sIx ds.length 0 lo)).take (HT.sIx ds.length ds.length hi - HT.sIx ds.length 0 lo)) := fun {xs ds} h => by
  have e := h.len
  unfold cutV
  rw [e]
  have dr : ∀ (n : Nat) {xs : List V} {ds : List PyData}, DxA S H xs ds → DxA S H (xs.drop n) (ds.drop n) := by
    intro n
    induction n with
    | zero => exact fun h => h
    | succ n ih =>
      intro xs ds h
      cases h with
      | nil => exact .nil
      | cons a t => exact ih t
  have tk : ∀ (n : Nat) {xs : List V} {ds : List PyData}, DxA S H xs ds → DxA S H (xs.take n) (ds.take n) := by
    intro n
    induction n with
    | zero =>
      intro xs ds h
      exact .nil
    | succ n ih =>
      intro xs ds h
      cases h with
      | nil => exact .nil
      | cons a t => exact .cons a (ih t)
  exact tk _ (dr _ h)
def cutD (ds : List PyData) (lo hi : Option Int) : List PyData := (ds.drop (HT.sIx ds.length 0 lo)).take (HT.sIx ds.length ds.length hi - HT.sIx ds.length 0 lo)
theorem cutD_mem {ds : List PyData} {lo hi : Option Int} {d : PyData} (h : d ∈ cutD ds lo hi) : d ∈ ds := List.mem_of_mem_drop (List.mem_of_mem_take h)
theorem cutD_len (ds : List PyData) (lo hi : Option Int) : (cutD ds lo hi).length ≤ ds.length := by
  unfold cutD
  rw [List.length_take, List.length_drop]
  omega
theorem Dx.newT {S : List Addr} {H : Hp} {p : Addr} {xs : List V} {ds : List PyData} (hS : ∀ s ∈ S, H s ≠ none) (np : H p = none) (h : DxA S H xs ds) : Dx S (upd H p (.tup xs)) (.ref p) (.tuple ds) :=
  .tup (fun z => hS p z np) upd_same (h.kp (Kp.new (S := []) np) fun _ z => by cases z)
theorem Dx.newL {S : List Addr} {H : Hp} {p : Addr} {xs : List V} {ds : List PyData} (hS : ∀ s ∈ S, H s ≠ none) (np : H p = none) (h : DxA S H xs ds) : Dx S (upd H p (.lst xs)) (.ref p) (.list ds) :=
  .lst (fun z => hS p z np) upd_same (h.kp (Kp.new (S := []) np) fun _ z => by cases z)
theorem dx_slice {K : PySem.W.Frag} {S : List Addr} {H : Hp} {v : V} {ds : List PyData} {lo hi : Option Int} {Q : VK} (hS : ∀ s ∈ S, H s ≠ none) (h : Dx S H v (.tuple ds)) (q : ∀ v' H', Kp [] H H' → Dx S H' v' (.tuple (cutD ds lo hi)) → Q v' H') : rSlA K v lo hi H Q := by
  cases h with
  | @tup a xs _ n h r =>
    refine ⟨a, xs, rfl, SqT.of h, fun e => ?_, fun _ p np => ?_⟩
    · refine q (.ref a) H .rfl' ?_
      have e2 : cutD ds lo hi = ds := by
        have el := r.len
        rw [el] at e
        unfold cutD
        rw [e.1, e.2, List.drop_zero, Nat.sub_zero, List.take_length]
      rw [e2]
      exact .tup n h r
    · exact q _ _ (Kp.new np) (Dx.newT hS np (cutA_x r))
theorem dx_cat {K : PySem.W.Frag} {S : List Addr} {H : Hp} {x y : V} {ds es : List PyData} {Q : VK} (hS : ∀ s ∈ S, H s ≠ none) (h1 : Dx S H x (.tuple ds)) (h2 : Dx S H y (.tuple es)) (hl : ds.length + es.length ≤ sizeLine) (q : ∀ v' H', Kp [] H H' → Dx S H' v' (.tuple (ds ++ es)) → Q v' H') : rCatA K x y H Q := by
  cases h1 with
  | @tup a xs _ n h r =>
    cases h2 with
    | @tup b ys _ m k t =>
      have l1 := r.len
      have l2 := t.len
      refine ⟨a, b, xs, ys, rfl, rfl, SqT.of h, SqT.of k, by omega, fun e => ?_, fun _ e => ?_, fun _ _ p np => ?_⟩
      · have : ds = [] := List.length_eq_zero_iff.mp (by rw [← l1, e]; rfl)
        subst this
        exact q _ _ .rfl' (.tup m k t)
      · have : es = [] := List.length_eq_zero_iff.mp (by rw [← l2, e]; rfl)
        subst this
        rw [List.append_nil] at q
        exact q _ _ .rfl' (.tup n h r)
      · exact q _ _ (Kp.new np) (Dx.newT hS np (r.app t))
theorem dx_rep {K : PySem.W.Frag} {S : List Addr} {H : Hp} {x : V} {ds : List PyData} {k : Int} {Q : VK} (hS : ∀ s ∈ S, H s ≠ none) (h1 : Dx S H x (.tuple ds)) (hne : ds ≠ []) (hk : 2 ≤ k) (hk2 : k ≤ 1000) (hl : ds.length ≤ 1000) (q : ∀ v' H', Kp [] H H' → Dx S H' v' (.tuple (List.replicate k.toNat ds).flatten) → Q v' H') : rRepT K x (.int k) H Q := by
  cases h1 with
  | @tup a xs _ n h r =>
    have l1 := r.len
    refine ⟨a, k, xs, rfl, rfl, SqT.of h, fun e => hne (List.length_eq_zero_iff.mp (by rw [← l1, e]; rfl)), hk, hk2, by omega, fun p np => ?_⟩
    refine q _ _ (Kp.new np) (Dx.newT hS np ?_)
    generalize k.toNat = m
    induction m with
    | zero => exact .nil
    | succ m ih =>
      rw [List.replicate_succ, List.replicate_succ, List.flatten_cons, List.flatten_cons]
      exact r.app ih
theorem lamp_fit {p : Int × Option Nat} (h1 : 1 ≤ p.1) (h2 : p.1 < 10 ^ 60) (h3 : ∀ y, p.2 = some y → y < 12) : Fit 600 1 (lampD p) := by
  have a := lamp_small h1 h2 h3
  refine ⟨?_, (show 0 + 1 + (szD (nxD p.2) + 1 + 0) ≤ 600 by cases p.2 <;> exact (by decide : 2 ≤ 600)), lamp_depth p⟩
  obtain ⟨l, o⟩ := p
  have hl : l.natAbs < 10 ^ 60 := by simp only at h1 h2; omega
  cases o with
  | none =>
    show (decide _ && (true && true)) = true
    rw [decide_eq_true hl]; rfl
  | some y =>
    have := h3 y rfl
    have hy : (y : Int).natAbs < 10 ^ 60 := by omega
    show (decide _ && (decide _ && true)) = true
    rw [decide_eq_true hl, decide_eq_true hy]; rfl
theorem net_fits {N : Net} (o : NetOk N) (s : Short N) : ∀ d ∈ N.map lampD, Fit 600 1 d := fun d hd => by
  obtain ⟨p, hp, rfl⟩ := List.mem_map.mp hd
  have h12 := o.hi
  exact lamp_fit (o.len p hp) (s p hp) fun y hy => by
    have := o.nx p hp y hy
    omega
theorem cutD_to (ds : List PyData) (c : Nat) : (cutD ds none (some (c : Int))).length ≤ c := by
  unfold cutD
  rw [List.length_take, List.length_drop, HT.sIx_none, show HT.sIx ds.length ds.length (some (c : Int)) = min c ds.length from HT.sIx_nat _ _ c]
  omega
theorem rep_mem {α : Type} {n : Nat} {ds : List α} {d : α} (h : d ∈ (List.replicate n ds).flatten) : d ∈ ds := by
  obtain ⟨l, hl, hd⟩ := List.mem_flatten.mp h
  rw [(List.mem_replicate.mp hl).2] at hd
  exact hd
def deepD : Nat → PyData
  | 0 => .tuple []
  | n + 1 => .tuple [deepD n]
theorem deep_fit : ∀ n, Fit n (n + 1) (deepD n)
  | 0 => ⟨rfl, Nat.le_refl _, Nat.le_refl _⟩
  | n + 1 => by
    have h := deep_fit n
    have h1 := h.wt
    have h2 := h.dp
    refine ⟨?_, ?_, ?_⟩
    · show (okD (deepD n) && true) = true
      rw [h.ok]; rfl
    · show szD (deepD n) + 1 + 0 ≤ n + 1
      omega
    · show max (deepD n).depth 0 + 1 ≤ n + 1 + 1
      omega
/-! ### what the law finds a net is one -/
theorem lamp_of {m : Nat} {d : PyData} (h : lampB m d = true) : ∃ p : Int × Option Nat, d = lampD p ∧ 1 ≤ p.1 ∧ ∀ y, p.2 = some y → y < m := by
  match d, h with
  | .tuple [l, o], h =>
    have h2 : (lenB l && nxB m o) = true := h
    rw [Bool.and_eq_true] at h2
    obtain ⟨h3, h4⟩ := h2
    cases l with
    | int i =>
      have h5 : ¬ i < 1 := by
        intro z
        have : (!decide (i < 1)) = true := h3
        rw [decide_eq_true z] at this
        cases this
      cases o with
      | none => exact ⟨(i, none), rfl, by show 1 ≤ i; omega, fun y e => by cases e⟩
      | int j =>
        have h6 : (decide ((0 : Int) ≤ j) && decide (j < (m : Int))) = true := h4
        rw [Bool.and_eq_true] at h6
        have a1 := of_decide_eq_true h6.1
        have a2 := of_decide_eq_true h6.2
        refine ⟨(i, some j.toNat), ?_, by show 1 ≤ i; omega, fun y e => ?_⟩
        · show PyData.tuple [.int i, .int j] = .tuple [.int i, .int (j.toNat : Int)]
          have : j = (j.toNat : Int) := by omega
          rw [← this]
        · have : j.toNat = y := Option.some.inj e
          omega
      | bool _ => cases h4
      | str _ => cases h4
      | list _ => cases h4
      | tuple _ => cases h4
      | dict _ => cases h4
    | none => cases h3
    | bool _ => cases h3
    | str _ => cases h3
    | list _ => cases h3
    | tuple _ => cases h3
    | dict _ => cases h3
theorem lamps_of {m : Nat} : ∀ ds : List PyData, (∀ d ∈ ds, lampB m d = true) → ∃ N : Net, ds = N.map lampD ∧ ∀ p ∈ N, 1 ≤ p.1 ∧ ∀ y, p.2 = some y → y < m
  | [], _ => ⟨[], rfl, fun p z => by cases z⟩
  | d :: ds, h => by
    obtain ⟨p, e, q⟩ := lamp_of (h d List.mem_cons_self)
    obtain ⟨N, e2, q2⟩ := lamps_of ds fun e he => h e (List.mem_cons_of_mem _ he)
    refine ⟨p :: N, by rw [e, e2]; rfl, fun r hr => ?_⟩
    rcases List.mem_cons.mp hr with rfl | hr
    · exact q
    · exact q2 r hr
theorem net_of {d : PyData} (h : netB d = true) : ∃ N : Net, d = netD N ∧ NetOk N := by
  match d, h with
  | .tuple ds, h =>
    have h2 : (!decide ((ds.length : Int) < 1) && !decide ((12 : Int) < (ds.length : Int)) && (ds.map (lampB ds.length)).all id) = true := h
    rw [Bool.and_eq_true, Bool.and_eq_true] at h2
    obtain ⟨⟨h3, h4⟩, h5⟩ := h2
    have a1 : ¬ (ds.length : Int) < 1 := fun z => by rw [decide_eq_true z] at h3; cases h3
    have a2 : ¬ (12 : Int) < (ds.length : Int) := fun z => by rw [decide_eq_true z] at h4; cases h4
    obtain ⟨N, e, q⟩ := lamps_of ds fun d hd => (List.all_eq_true.mp h5) _ (List.mem_map.mpr ⟨d, hd, rfl⟩)
    have el : ds.length = N.length := by rw [e, List.length_map]
    exact ⟨N, by rw [e]; rfl, by omega, by omega, fun p hp => (q p hp).1, fun p hp y hy => by rw [← el]; exact (q p hp).2 y hy⟩
theorem short_of {N : Net} (h : okD (netD N) = true) : Short N := fun p hp => by
  have h1 := (okAll_iff (N.map lampD)).mp h (lampD p) (List.mem_map.mpr ⟨p, hp, rfl⟩)
  have h2 : (decide (p.1.natAbs < 10 ^ 60) && _) = true := h1
  rw [Bool.and_eq_true] at h2
  have h3 := of_decide_eq_true h2.1
  have e : ((10 ^ 60 : Nat) : Int) = (10 : Int) ^ 60 := by decide
  have : (p.1.natAbs : Int) < ((10 ^ 60 : Nat) : Int) := Int.ofNat_lt.mpr h3
  rw [e] at this
  omega
structure Shows (d : PyData) : Prop where
  pl : d.hasDict = false ∨ d = .dict []
  sh : d.showable = true
  dp : d.depth < 150
  ln : d.shown.length ≤ sizeLine
theorem shows_of {d : PyData} (h : Fit 20000 50 d ∨ d = .dict []) : Shows d := by
  rcases h with h | rfl
  · obtain ⟨a, b⟩ := h.shown (by decide)
    exact ⟨.inl (okD_noDict d h.ok), a, Nat.lt_of_le_of_lt h.dp (by decide), b⟩
  · refine ⟨.inr rfl, rfl, by decide, ?_⟩
    rw [sizeLine_eq]
    decide
end Em

namespace Em
open PySem PySem.Spec PyProof.Rows L2 Qt

/-! ### kindlings -/
def beatB : PyData → Bool
  | .int i => !decide (i < 0)
  | _ => false
def sparkB (m : Nat) : PyData → Bool
  | .tuple [b, l] => beatB b && numB m l
  | _ => false
def sparksB (m : Nat) : PyData → Bool
  | .list ds => !decide ((40 : Int) < (ds.length : Int)) && (ds.map (sparkB m)).all id
  | _ => false
abbrev Sparks := List (Int × Nat)
def sparkD (p : Int × Nat) : PyData := .tuple [.int p.1, .int (p.2 : Nat)]
def sparksD (L : Sparks) : PyData := .list (L.map sparkD)
structure SpOk (m : Nat) (L : Sparks) : Prop where
  len : L.length ≤ 40
  lo : ∀ p ∈ L, 0 ≤ p.1
  hi : ∀ p ∈ L, p.1 < 10 ^ 60
  at_ : ∀ p ∈ L, p.2 < m
theorem spark_of {m : Nat} {d : PyData} (h : sparkB m d = true) : ∃ p : Int × Nat, d = sparkD p ∧ 0 ≤ p.1 ∧ p.2 < m := by
  match d, h with
  | .tuple [b, l], h =>
    have h2 : (beatB b && numB m l) = true := h
    rw [Bool.and_eq_true] at h2
    obtain ⟨h3, h4⟩ := h2
    cases b with
    | int i =>
      have h5 : ¬ i < 0 := fun z => by
        have : (!decide (i < 0)) = true := h3
        rw [decide_eq_true z] at this
        cases this
      cases l with
      | int j =>
        have h6 : (decide ((0 : Int) ≤ j) && decide (j < (m : Int))) = true := h4
        rw [Bool.and_eq_true] at h6
        have a1 := of_decide_eq_true h6.1
        have a2 := of_decide_eq_true h6.2
        refine ⟨(i, j.toNat), ?_, by show 0 ≤ i; omega, by show j.toNat < m; omega⟩
        show PyData.tuple [.int i, .int j] = .tuple [.int i, .int (j.toNat : Int)]
        have : j = (j.toNat : Int) := by omega
        rw [← this]
      | none => cases h4
      | bool _ => cases h4
      | str _ => cases h4
      | list _ => cases h4
      | tuple _ => cases h4
      | dict _ => cases h4
    | none => cases h3
    | bool _ => cases h3
    | str _ => cases h3
    | list _ => cases h3
    | tuple _ => cases h3
    | dict _ => cases h3
theorem sparksL_of {m : Nat} : ∀ ds : List PyData, (∀ d ∈ ds, sparkB m d = true) → ∃ L : Sparks, ds = L.map sparkD ∧ ∀ p ∈ L, 0 ≤ p.1 ∧ p.2 < m
  | [], _ => ⟨[], rfl, fun p z => by cases z⟩
  | d :: ds, h => by
    obtain ⟨p, e, q⟩ := spark_of (h d List.mem_cons_self)
    obtain ⟨N, e2, q2⟩ := sparksL_of ds fun e he => h e (List.mem_cons_of_mem _ he)
    refine ⟨p :: N, by rw [e, e2]; rfl, fun r hr => ?_⟩
    rcases List.mem_cons.mp hr with rfl | hr
    · exact q
    · exact q2 r hr
theorem sparks_of {m : Nat} {d : PyData} (h : sparksB m d = true) (hk : okD d = true) : ∃ L : Sparks, d = sparksD L ∧ SpOk m L := by
  match d, h with
  | .list ds, h =>
    have h2 : (!decide ((40 : Int) < (ds.length : Int)) && (ds.map (sparkB m)).all id) = true := h
    rw [Bool.and_eq_true] at h2
    obtain ⟨h4, h5⟩ := h2
    have a2 : ¬ (40 : Int) < (ds.length : Int) := fun z => by rw [decide_eq_true z] at h4; cases h4
    obtain ⟨L, e, q⟩ := sparksL_of ds fun d hd => (List.all_eq_true.mp h5) _ (List.mem_map.mpr ⟨d, hd, rfl⟩)
    have el : ds.length = L.length := by rw [e, List.length_map]
    refine ⟨L, by rw [e]; rfl, by omega, fun p hp => (q p hp).1, fun p hp => ?_, fun p hp => (q p hp).2⟩
    have h1 := (okAll_iff ds).mp hk (sparkD p) (by rw [e]; exact List.mem_map.mpr ⟨p, hp, rfl⟩)
    have h2 : (decide (p.1.natAbs < 10 ^ 60) && _) = true := h1
    rw [Bool.and_eq_true] at h2
    have h3 := of_decide_eq_true h2.1
    have e : ((10 ^ 60 : Nat) : Int) = (10 : Int) ^ 60 := by decide
    have : (p.1.natAbs : Int) < ((10 ^ 60 : Nat) : Int) := Int.ofNat_lt.mpr h3
    rw [e] at this
    omega
theorem spark_fit1 {i : Int} {x : Nat} (h : i.natAbs < 10 ^ 60) (hx : x ≤ 12) : Fit 2 1 (sparkD (i, x)) := fit_tup (w := 0) (k := 0) (n := 2) (fun d hd => by
    simp only [List.mem_cons, List.not_mem_nil, or_false] at hd
    rcases hd with rfl | rfl
    · exact fit_int0 h
    · exact fit_int0 (by show ((x : Nat) : Int).natAbs < _; omega)) (Nat.le_refl _)
theorem spark_fit {m : Nat} (hm : m ≤ 12) {L : Sparks} (o : SpOk m L) : ∀ d ∈ L.map sparkD, Fit 2 1 d := fun d hd => by
  obtain ⟨p, hp, rfl⟩ := List.mem_map.mp hd
  have a := o.lo p hp
  have b := o.hi p hp
  have c := o.at_ p hp
  exact spark_fit1 (by omega) (by omega)
/-! ### slices, sums and multiples of lists -/
theorem dxl_slice {K : PySem.W.Frag} {S : List Addr} {H : Hp} {v : V} {ds : List PyData} {lo hi : Option Int} {Q : VK} (hS : ∀ s ∈ S, H s ≠ none) (h : Dx S H v (.list ds)) (q : ∀ v' H', Kp [] H H' → Dx S H' v' (.list (cutD ds lo hi)) → Q v' H') : rSlL K v lo hi H Q := by
  cases h with
  | @lst a xs _ n h r => exact ⟨a, xs, rfl, SqL.of h, fun p np => q _ _ (Kp.new np) (Dx.newL hS np (cutA_x r))⟩
theorem dxl_cat {K : PySem.W.Frag} {S : List Addr} {H : Hp} {x y : V} {ds es : List PyData} {Q : VK} (hS : ∀ s ∈ S, H s ≠ none) (h1 : Dx S H x (.list ds)) (h2 : Dx S H y (.list es)) (hl : ds.length + es.length ≤ sizeLine) (q : ∀ v' H', Kp [] H H' → Dx S H' v' (.list (ds ++ es)) → Q v' H') : rCatL K x y H Q := by
  cases h1 with
  | @lst a xs _ n h r =>
    cases h2 with
    | @lst b ys _ m k t =>
      have l1 := r.len
      have l2 := t.len
      exact ⟨a, b, xs, ys, rfl, rfl, SqL.of h, SqL.of k, by omega, fun p np => q _ _ (Kp.new np) (Dx.newL hS np (r.app t))⟩
theorem repA {S : List Addr} {H : Hp} {xs : List V} {ds : List PyData} (r : DxA S H xs ds) : ∀ m : Nat, DxA S H (List.replicate m xs).flatten (List.replicate m ds).flatten
  | 0 => .nil
  | m + 1 => by
    rw [List.replicate_succ, List.replicate_succ, List.flatten_cons, List.flatten_cons]
    exact r.app (repA r m)
theorem dxl_rep {S : List Addr} {H : Hp} {x : V} {ds : List PyData} {k : Int} {Q : VK} (hS : ∀ s ∈ S, H s ≠ none) (h1 : Dx S H x (.list ds)) (hk : 0 ≤ k) (hk2 : k ≤ 1000) (hl : ds.length ≤ 1000) (q : ∀ v' H', Kp [] H H' → Dx S H' v' (.list (List.replicate k.toNat ds).flatten) → Q v' H') : rRep x (.int k) H Q := by
  cases h1 with
  | @lst a xs _ n h r =>
    have l1 := r.len
    refine ⟨a, k, xs, rfl, rfl, h, by omega, by omega, Nat.le_trans (m := 1000 * 1000) (Nat.mul_le_mul (by omega) (by omega)) (by decide), fun p np => q _ _ (Kp.new np) (Dx.newL hS np (repA r _))⟩
theorem dxl_rev {K : PySem.W.Frag} {S : List Addr} {H : Hp} {x : V} {ds : List PyData} {Q : VK} (hS : ∀ s ∈ S, H s ≠ none) (h1 : Dx S H x (.list ds)) (q : ∀ v' H', Kp [] H H' → Dx S H' v' (.list ds.reverse) → Q v' H') : ∃ a xs, x = .ref a ∧ SqL K H a xs ∧ ∀ p, H p = none → Q (.ref p) (upd H p (.lst xs.reverse)) := by
  cases h1 with
  | @lst a xs _ n h r =>
    refine ⟨a, xs, rfl, SqL.of h, fun p np => q _ _ (Kp.new np) (Dx.newL hS np ?_)⟩
    clear h hS
    have rv : ∀ {xs : List V} {ds : List PyData}, DxA S H xs ds → DxA S H xs.reverse ds.reverse := by
      intro xs
      induction xs with
      | nil => intro ds r; cases r; exact .nil
      | cons v vs ih =>
        intro ds r
        cases r with
        | cons a t =>
          rw [List.reverse_cons, List.reverse_cons]
          exact (ih t).app (.cons a .nil)
    exact rv r
theorem revA {S : List Addr} {H : Hp} : ∀ {xs : List V} {ds : List PyData}, DxA S H xs ds → DxA S H xs.reverse ds.reverse := by
  intro xs
  induction xs with
  | nil => intro ds r; cases r; exact .nil
  | cons v vs ih =>
    intro ds r
    cases r with
    | cons a t =>
      rw [List.reverse_cons, List.reverse_cons]
      exact (ih t).app (.cons a .nil)
theorem rev_at {S : List Addr} {H : Hp} {sa : Addr} {ds : List PyData} (h : Dx S H (.ref sa) (.list ds)) : ∃ zs, H sa = some (.lst zs) ∧ DxA S H zs ds := by
  cases h with
  | lst n h r => exact ⟨_, h, r⟩
/-! ### a list of a net and of something is shown -/
section
variable {X : Cx} {es : List Expr} {t : TA} {pos : Pos}
def tLstX (t : TA) : TE := fun σ H Q => t σ H fun xs H1 => xs.length ≤ sizeLine ∧ ∀ p, H1 p = none → (p == sysModules) = false → Q (.ref p) (upd H1 p (.lst xs))
/-- a new list is not where the modules stand -/
theorem pe_lstX (h : PA X es t) : PE X (.List es pos) (tLstX t) := by
  refine ⟨fun pins s σ H Q I hq => ?_⟩
  refine wpAny_List_spliced (thn (h.run pos pins s σ H _ I hq) fun us s1 ⟨xs, H1, I1, r, z, q⟩ => ⟨by rw [← r.length]; exact z, ?_⟩)
  have hf : H1 s1.heap.objs.size = none := I1.hok.fresh (Nat.le_refl _)
  have hb : (s1.heap.objs.size == sysModules) = false := by
    have := I1.big
    simp only [beq_eq_false_iff_ne]
    exact Nat.ne_of_gt this
  refine ⟨.ref s1.heap.objs.size, upd H1 s1.heap.objs.size (.lst xs), I1.laid (t' := s1.toks) (fun b u e => Heap.get?_push_of_some _ e) (Nat.le_refl _) ?_, rfl, q _ hf hb⟩
  exact ⟨z, us, 0, r, Heap.get?_push_size _ rfl⟩
theorem lamp_reads {h : Heap} {v : Value} {p : Int × Option Nat} {as : List Addr} (r : Reads h v (lampD p) as) : as = [] := by
  obtain ⟨l, o⟩ := p
  cases r with
  | @tuple _ _ vs _ _ _ _ _ _ r =>
    generalize vs.toList = l at r
    cases r with
    | cons r1 r =>
      cases r with
      | cons r2 r =>
        cases r
        cases r1
        cases o with
        | none => cases r2; rfl
        | some y => cases r2; rfl
theorem lamps_reads {h : Heap} : ∀ {N : Net} {vs : List Value} {as : List Addr}, ReadsAll h vs (N.map lampD) as → as = []
  | [], _, _, r => by cases r; rfl
  | p :: N, _, _, r => by
    cases r with
    | cons r1 r2 => rw [lamp_reads r1, lamps_reads r2]; rfl
theorem net_reads {h : Heap} {v : Value} {N : Net} {as : List Addr} (r : Reads h v (netD N) as) : as = [] := by
  cases r with
  | tuple _ _ _ r => exact lamps_reads r
def pairD (N : Net) (d : PyData) : PyData := .list [netD N, d]
theorem call_reprPair {j : Nat} (hG : X.A.guards = some []) (rm : Room j X.A) : CallR X (.builtin "repr") (fun xs H Q => ∃ (S : List Addr) (b : Addr) (v u : V) (N : Net) (d : PyData), xs = [.ref b] ∧ H b = some (.lst [v, u]) ∧ (b == sysModules) = false ∧ Dx S H v (netD N) ∧ Dx S H u d ∧ (d.hasDict = false ∨ d = .dict []) ∧ (pairD N d).showable = true ∧ (pairD N d).depth < 150 ∧ (pairD N d).shown.length ≤ sizeLine ∧ Q (.str (pairD N d).shown) H) := by
  intro pins s σ H xs us Q I r h
  obtain ⟨S, b, v, u, N, d, rfl, hb, nb, hv, hu_, h2, h1, h3, h4, q⟩ := h
  obtain ⟨ub, rfl, ru⟩ := vals1 r
  obtain rfl : ub = Value.ref b := ru
  have hu := rm.un
  obtain ⟨_, its, m, rv, e⟩ := I.hok _ _ hb
  obtain ⟨w1, w2, rfl, r1, r2⟩ := vals2 rv
  obtain ⟨as1, q1⟩ := (hv.dp (net_noDict N) (K := X.K)).reads I _ _ _ r1
  have e1 := net_reads q1
  subst e1
  have fin : ∀ as2, Reads s.heap w2 d as2 → ((pairD N d).hasDict = true → sysModules ∉ as2) → wpAny (model X.prog X.w) X.A (call (.builtin "repr") [.ref b]) (EP X pins σ Q) X.xe s := fun as2 q2 hm =>
    repr_of_reads' (d := pairD N d) (as := b :: ([] ++ (as2 ++ []))) (Reads.list e rfl rfl (ReadsAll.cons q1 (ReadsAll.cons q2 ReadsAll.nil))) h1 (fun z y => by
      rcases List.mem_cons.mp y with y | y
      · rw [← y] at nb
        simp at nb
      · exact hm z (by simpa using y)) hG (by omega) (fun _ _ e => e) (fun h' u tk hk => ⟨.str (pairD N d).shown, H, I.kept (t' := tk) hk, ⟨u, rfl⟩, q⟩) h4
  rcases h2 with h2 | h2
  · obtain ⟨as2, q2⟩ := (hu_.dp h2 (K := X.K)).reads I _ _ _ r2
    refine fin as2 q2 fun z => ?_
    have : (pairD N d).hasDict = false := by
      show ((netD N).hasDict || (d.hasDict || false)) = false
      rw [net_noDict, h2]; rfl
    rw [this] at z
    cases z
  · subst h2
    cases hu_ with
    | @dic a n h =>
      obtain rfl : w2 = Value.ref a := r2
      obtain ⟨_, ns, vs, rk, o, es, ep, e', ⟨ec, _⟩, ed, _, hp, _⟩ := I.hok _ _ h
      cases rk
      have e0 : es.toList = [] := by
        generalize es.toList = l at hp
        cases hp
        rfl
      refine fin ([a] ++ []) (Reads.dict e' ec ed (as := []) (bs := []) (by rw [e0]; exact ReadsAll.nil) (by rw [e0]; exact ReadsAll.nil)) fun _ z => ?_
      simp only [List.append_nil, List.mem_singleton] at z
      rw [← z] at ns
      simp at ns
end
theorem net_fit {N : Net} (o : NetOk N) (s : Short N) : Fit 8000 2 (netD N) := (fit_tup (w := 600) (k := 1) (n := 12) (net_fits o s) (by rw [List.length_map]; exact o.hi)).mono (by decide) (by decide)
theorem pair_shows {N : Net} {d : PyData} (o : NetOk N) (s : Short N) (h : Fit 60000 50 d ∨ d = .dict []) : (d.hasDict = false ∨ d = .dict []) ∧ (pairD N d).showable = true ∧ (pairD N d).depth < 150 ∧ (pairD N d).shown.length ≤ sizeLine := by
  have fn := net_fit o s
  rcases h with h | rfl
  · have fp : Fit ((60000 + 1) * 2) (50 + 1) (pairD N d) := fit_lst (w := 60000) (k := 50) (n := 2) (fun e he => by
      simp only [List.mem_cons, List.not_mem_nil, or_false] at he
      rcases he with rfl | rfl
      · exact fn.mono (by decide) (by decide)
      · exact h) (Nat.le_refl _)
    obtain ⟨a, b⟩ := fp.shown (by decide)
    exact ⟨.inl (okD_noDict d h.ok), a, Nat.lt_of_le_of_lt fp.dp (by decide), b⟩
  · obtain ⟨a, b⟩ := fn.shown (by decide)
    refine ⟨.inr rfl, ?_, ?_, ?_⟩
    · show ((netD N).showable && (true && true)) = true
      rw [a]; rfl
    · have := fn.dp
      have e1 : (PyData.dict []).depth ≤ 1 := by decide
      show max (netD N).depth (max (PyData.dict []).depth 0) + 1 < 150
      omega
    · have h1 := shown_sz (netD N) fn.ok
      have h2 := fn.wt
      have h3 := listText_len_le [(netD N).shown, (PyData.dict []).shown]
      have h4 : (PyData.dict []).shown.length ≤ 10 := by decide
      have h5 : (listText [(netD N).shown, (PyData.dict []).shown]).length ≤ sizeLine := by
        rw [sizeLine_eq]
        simp only [List.map_cons, List.map_nil, List.sum_cons, List.sum_nil, List.length_cons, List.length_nil] at h3
        omega
      exact h5
end Em

namespace Qt
open PySem PySem.Spec PyProof.Rows L2

/-! ### t[i] of a tuple, quiet -/
theorem q_ixT {c : Qc} {k : Nat} {env : Env} {N : Nm} {a b : Expr} {pos : Pos} {p : Addr} {xs : List V} {j : Nat} {v : V} (ha : QE c k env N a (.ref p)) (hb : QE c k env N b (.int j)) (ht : TupQ c p xs) (hx : xs[j]? = some v)
    (hs : PlainIx b := by intro _ _; rfl) : QE c k env N (.Subscript a b pos) v := by
  intro A E Q s r i h
  refine Subscript_ (ha A E _ s r i fun u g tk ru up => hb A E _ _ r (i.more up) fun u2 g2 tk2 r2 up2 => ?_)
  cases ru
  obtain ⟨t, rfl⟩ := r2
  obtain ⟨its, rv, hT, hz⟩ := ht
  obtain ⟨w, hw, rw_⟩ := rv.get hx
  have hup := i.up.tr (up.tr up2)
  have hT2 := isTup_up hup hT
  have hl := rv.length
  have hj := (List.getElem?_eq_some_iff.mp hx).1
  have hn := line63
  have fin : Q w { s with heap := g2, toks := tk2 } := h w g2 tk2 rw_ (up.tr up2)
  have e1 : seqIndex? (j : Int) its.toArray.size = some j := by
    rw [seqIndex_of (by omega) (by rw [List.size_toArray]; omega)]
    rfl
  exact subscriptTail_builtinR (x := w) hT2.typeIs slot_tuple_getitem.lookup
    (getItem_tuple (j := j) (Q := fun r s' => r = w ∧ Q r s') hT2 (by omega) (by omega) e1 (by simpa using hw) ⟨rfl, fin⟩) (hs _ _)

section
variable {X : Cx} {pins : List (Addr × Obj)} {σ : L2.St} {H : Hp} {s : Shared}
/-- what the element of a generator expression is, for the item xv: any value -/
def EltV (X : Cx) (kk : Nat) (scope : Scope) (x : Str) (elt : Expr) (caps : Nm) (Hw : Hp) (xs : List V) (bs : List V) : Prop :=
  bs.length = xs.length ∧ ∀ (hd : Heap) (env : Env), (Qc.mk X.prog X.w X.K X.mg Hw hd).Ok → env.scope = scope → ∀ (j : Nat) (xv : V) (b : V), xs[j]? = some xv → bs[j]? = some b → QE ⟨X.prog, X.w, X.K, X.mg, Hw, hd⟩ kk env ((x, xv) :: caps) elt b
/-- the generator g is made, to be gone through -/
def MadeV (X : Cx) (pins : List (Addr × Obj)) (σ : L2.St) (H1 : Hp) (P : Addr) (xs : List V) (bs : List V) (g : Addr) (s5 : Shared) : Prop :=
  ∃ (fp wr : List Addr) (G : Array GenState → Array GenState → Prop) (F : Nat → Value → Prop) (St : Nat → Shared → Prop),
    WalksS X.prog X.w X.A.in1 g fp wr G bs.length F St ∧ St 0 s5 ∧ (∀ i y, F i y → ∃ b, bs[i]? = some b ∧ RelV b y) ∧ (∀ z ∈ fp, z < s5.heap.objs.size) ∧ ∀ s', Moved wr G s5 s' → ∃ H2, GxR.Tabbed P H1 H2 ∧ Inv X pins σ H2 s'

theorem gen_madeV {c P : Addr} {elt iter : Expr} {x : Str} {px gpos : Pos} {scope : Scope} {te : TE} {k : Nat} {Z : Value → Shared → Prop} {R : List V → List V → Hp → Prop}
    (rm : Room (k + 2) X.A) (TB : GxR.TabB X.base X.mg c P) (hcode : X.env.code = .ref c) (GS : GxR.GenS X.env scope x) (hi : PE X iter te)
    (hs : ∀ v, genFold iter X.env v = pure v) (I : Inv X pins σ H s)
    (h : te σ H fun v H1 => ∃ (ad : Addr) (xs : List V) (bs : List V) (caps : Nm), v = .ref ad ∧ (SqT X.K H1 ad xs ∨ SqL X.K H1 ad xs) ∧ GxR.TabG H1 P ∧ Caps X scope x σ caps ∧ EltV X (3 * k) scope x elt caps (wipe H1 P) xs bs ∧ R xs bs H1)
    (hZ : ∀ xs bs H1 g s5, R xs bs H1 → MadeV X pins σ H1 P xs bs g s5 → Z (.ref g) s5) :
    wpAny (model X.prog X.w) X.A (eval (.GeneratorExp elt [⟨.Name x px, iter, [], 0⟩] scope gpos) X.env) Z X.xe s := by
  have hdp := rm.dp
  refine wpAny_GeneratorExp_walksQD rm.hd GS.co (closure_ok GS.free) GS.cell GS.dot GS.loc GS.kind rm.depth ?_ hs
  refine thn (hi.run pins s σ H _ I h) fun xv s1 hx => ?_
  obtain ⟨v, H1, I1, r1, ad, xs, bs, caps, ev, hsq, ⟨ps, hP, htr⟩, hcap, hel, hR⟩ := hx
  subst ev
  obtain rfl : xv = Value.ref ad := r1
  obtain ⟨its, o, St, rv, S, hno⟩ := seq_src I1 hsq
  have hlen : its.length = xs.length := rv.length.symm
  have hPs : s1.heap.get? P = some { cls := .none, data := .fields ps } := I1.hok P _ hP
  have hPlt : P < s1.heap.objs.size := Heap.lt_size hPs
  have adP : ad ≠ P := by
    rintro rfl
    rcases hsq with hq | hq
    · obtain ⟨_, _, ⟨ob, e, ec, _⟩, _⟩ := I1.tuple hq
      rw [hPs] at e
      cases e
      cases ec
    · obtain ⟨_, _, hl, _⟩ := I1.list hq
      obtain ⟨ob, _, e, ec, _⟩ := id hl
      rw [hPs] at e
      cases e
      cases ec
  refine S.iter _ _ _ _ rfl ?_
  have push_ok : ∀ b u, s1.heap.get? b = some u → (s1.heap.push o).get? b = some u := fun b u e => Heap.get?_push_of_some _ e
  have hPo := push_ok P _ hPs
  have lim2 : (s1.heap.push o).NoLimit := I1.nolimit.push o
  have cd : PySem.W.CodeHd (s1.heap.push o) c P := TB.code.keeps fun b u e => push_ok b u (I1.bk b u e)
  have go : ∀ (code : Value) (h3 : Heap) (tk : Nat) (ps' : Array Value), Heap.ExtBut P (s1.heap.push o) h3 → (s1.heap.push o).objs.size ≤ h3.objs.size → h3.get? P = some { cls := .none, data := .fields ps' } → (∃ more, ps' = ps ++ more) → TriplesOk ps'.toList →
      wpAny (model X.prog X.w) X.A (builtinsFor X.env.globals X.env.builtins) (fun bi s₄ =>
        ∃ Ia fp wr n₀ Pf St₀ pz F, Value.ref s1.heap.objs.size = .ref Ia ∧ (∀ A' : Around, A'.handled = none → Walks X.prog X.w A' Ia fp wr n₀ Pf St₀) ∧ St₀ 0 s₄.heap ∧ (∀ b ∈ fp, b < s₄.heap.objs.size) ∧ s₄.heap.NoLimit ∧ cStatics ∉ wr ∧
          (∀ hr : Heap, (∀ b u, s₄.heap.get? b = some u → hr.get? b = some u) →
            QuietGenD X.prog X.w (genEnv scope (cloFrom X.env.cells scope.names []) s₄.heap.objs.size code bi X.env) x [] elt (List.range s₄.heap.objs.size) wr Pf pz F hr (X.A.depth + 1) (X.A.units + 8)) ∧
          (∀ a h₅ tk gs, gs.bare = true → s₄.heap.objs.size < a → h₅.objs.size = a + 1 → (∀ b u, s₄.heap.get? b = some u → h₅.get? b = some u) →
            WalksS X.prog X.w X.A.in4 a (a :: s₄.heap.objs.size :: List.range s₄.heap.objs.size) (s₄.heap.objs.size :: wr) (GenOnlyQ s₄.gens.size) (passing pz n₀ 0).length
              (fun j y => ∃ i, (passing pz n₀ 0)[j]? = some i ∧ F i y) (GenAt X.prog X.w X.A.in4 a s₄.gens.size s₄.heap.objs.size (List.range s₄.heap.objs.size) wr pz n₀ F) →
            GenAt X.prog X.w X.A.in4 a s₄.gens.size s₄.heap.objs.size (List.range s₄.heap.objs.size) wr pz n₀ F 0 { s₄ with gens := s₄.gens.push gs, toks := tk, heap := h₅ } →
            Z (.ref a) { s₄ with gens := s₄.gens.push gs, toks := tk, heap := h₅ })) X.xe { s1 with heap := h3, toks := tk } := by
    intro code h3 tk ps' hx hsz hP3 hmore ht3
    obtain ⟨bm, ob, e1, e2, e3, e4, e5, e6, e7, e8⟩ := TB.bm
    have szo : (s1.heap.push o).objs.size = s1.heap.objs.size + 1 := Heap.size_push ..
    have k3 : ∀ b u, b ≠ P → s1.heap.get? b = some u → h3.get? b = some u := fun b u hb e => hx b u hb (push_ok b u e)
    have hcP : cStatics ≠ P := by
      rintro rfl
      obtain ⟨_, hns, _⟩ := I1.nolimit
      obtain ⟨o', es, ep, ho, hd, _⟩ := hns
      rw [hPs] at ho
      cases ho
      cases hd
    have hcl : cStatics < s1.heap.objs.size := let ⟨_, hns, _⟩ := I1.nolimit; hns.lt
    refine wpAny_builtinsFor (m := X.mg) (by rw [I1.ok.glob]; exact ((I1.mod.glob.keeps I1.bk).push o).extBut hx TB.gP) e1 e2 (k3 _ _ e4 (I1.bk _ _ e5)) e6 e7 e8 ?_
    have hi3 : s1.heap.objs.size < h3.objs.size := by omega
    refine ⟨s1.heap.objs.size, [s1.heap.objs.size, ad], [s1.heap.objs.size], its.toArray.size, (fun i v => its.toArray[i]? = some v), St s1.heap.objs.size, (fun _ => true), (fun i y => ∃ b, bs[i]? = some b ∧ RelV b y), rfl,
      fun A' hA => S.walks A' _ hA (Nat.ne_of_lt S.lt), ?_, ?_, lim2.extBut hx hcP, ?_, ?_, ?_⟩
    · refine S.st0 h3 fun b u hb e => hx b u (fun z => ?_) e
      rcases hb with hb | hb
      · exact adP (hb.symm.trans z)
      · exact Nat.ne_of_gt hPlt (hb.symm.trans z)
    · intro b hb
      simp only [List.mem_cons, List.not_mem_nil, or_false] at hb
      rcases hb with hb | hb
      · rw [hb]; exact hi3
      · rw [hb]; exact Nat.lt_trans S.lt hi3
    · intro z
      simp only [List.mem_cons, List.not_mem_nil, or_false] at z
      exact Nat.ne_of_lt hcl z
    · intro hr hhr
      obtain ⟨hd, g1, g2⟩ := restrict h3 fun b => decide (b ≠ s1.heap.objs.size)
      have old : ∀ b u, b ≠ P → s1.heap.get? b = some u → hd.get? b = some u := fun b u nb e => by
        rw [g1 b (decide_eq_true (Nat.ne_of_lt (Heap.lt_size e)))]
        exact k3 b u nb e
      have up3 : Up hd h3 := fun b u e => by
        by_cases hb : b = s1.heap.objs.size
        · rw [g2 b (by simp [hb])] at e
          cases e
        · rw [g1 b (decide_eq_true hb)] at e
          exact e
      have bP : ∀ b u, X.base.get? b = some u → b ≠ P := fun b u e z => by
        have q := (I1.bs b u e).2
        rw [z, hP] at q
        cases q
      have bup : ∀ b u, X.base.get? b = some u → hd.get? b = some u := fun b u e => old b u (bP b u e) (I1.bk b u e)
      have OK : (Qc.mk X.prog X.w X.K X.mg (wipe H1 P) hd).Ok := by
        obtain ⟨mb, q1, q2⟩ := I1.mod.blt
        refine ⟨I1.mod.kin.keeps bup, I1.mod.glob.keeps bup, ⟨mb, q1.keeps bup, q2⟩, I1.mod.nolimit.keeps bup, fun a u e => ?_⟩
        obtain ⟨na, e⟩ := wipe_of e
        have noP : ∀ b, H1 b = some (.own a) → b ≠ P := fun b q z => by
          rw [z, hP] at q
          cases q
        refine (I1.hok a u e).stay (fun b u' hb q => old b u' ?_ q) (fun b q => wipe_at (noP b q) q) (fun b ys q => wipe_at (fun z => ?_) q)
        · rcases hb with hb | hb
          · rw [hb]; exact na
          · exact noP b hb
        · rw [z, hP] at q
          cases q
      have seen : ∀ s₂ : Shared, (∀ b ∈ List.range h3.objs.size, b ∉ [s1.heap.objs.size] → ∀ u, hr.get? b = some u → s₂.heap.get? b = some u) → Up hd s₂.heap := fun s₂ hk b u e => by
        have h3e := up3 b u e
        refine hk b (List.mem_range.mpr (Heap.lt_size h3e)) (fun z => ?_) u (hhr b u h3e)
        have hb : b = s1.heap.objs.size := by simpa using z
        rw [g2 b (by simp [hb])] at e
        cases e
      refine ⟨fun A' E' i v s₂ m₂ hA _ _ hPv hn hm hk => ?_, fun A' E' i v s₂ m₂ hA hAd _ hPv hp hn hm hk => ?_⟩
      · simp only [List.forIn_nil]
        exact wpAny_pure ⟨rfl, GxR.keeps_refl _⟩
      · have hv2 : its[i]? = some v := by simpa using hPv
        have hix : i < xs.length := by rw [← hlen]; exact (List.getElem?_eq_some_iff.mp hv2).1
        obtain ⟨xv, hxv⟩ : ∃ xv, xs[i]? = some xv := ⟨xs[i], List.getElem?_eq_getElem hix⟩
        obtain ⟨u, hu, ru⟩ := rv.get hxv
        rw [hv2] at hu
        cases hu
        have at2 : At ⟨X.prog, X.w, X.K, X.mg, wipe H1 P, hd⟩ (genEnv scope (cloFrom X.env.cells scope.names []) h3.objs.size code builtinsNs X.env) ((x, xv) :: caps) s₂.heap := by
          have upS := seen s₂ hk
          refine ⟨upS, GS.kind, I1.ok.glob, rfl, m₂, hn, fun y vy hy => ?_⟩
          by_cases ey : y = x
          · subst ey
            have e9 : xv = vy := by simpa [List.lookup] using hy
            exact ⟨v, e9 ▸ ru, .inl ⟨GS.loc, hm⟩⟩
          · have ey' : (y == x) = false := by simpa using ey
            have hy2 : caps.lookup y = some vy := by simpa [List.lookup, ey'] using hy
            obtain ⟨_, hmem, hfr, j, hj, hσ, hcl2⟩ := hcap y vy hy2
            obtain ⟨m1, hn1, hloc⟩ := I1.loc
            obtain ⟨u9, r9, l9⟩ := hloc j y vy hj hσ (.inr (.inl hcl2))
            refine ⟨u9, r9, .inr ⟨.inr hfr, ?_⟩⟩
            rcases l9 with ⟨l9, _⟩ | ⟨_, ca, hca, hic⟩
            · have l8 : X.env.scope.names.lookup y = some .local := l9
              rw [hcl2] at l8
              cases l8
            · refine ⟨ca, NdefX.clo_has GS.free hmem hca, ?_⟩
              obtain ⟨oc, ec, rc⟩ := hic
              have nP : ca ≠ P := fun z => by
                have q := I1.freeC y ca hca
                rw [z, hP] at q
                cases q
              exact ⟨oc, upS _ _ (old _ _ nP ec), rc⟩
        obtain ⟨b, hb⟩ : ∃ b, bs[i]? = some b := ⟨bs[i]'(by rw [hel.1]; exact hix), List.getElem?_eq_getElem _⟩
        refine hel.2 hd _ OK rfl i xv b hxv hb A' E' _ s₂ ⟨hA, by omega⟩ at2 fun u9 g9 tk9 r9 up9 => ?_
        exact ⟨⟨b, hb, r9⟩, g9, tk9, rfl, up9⟩
    · intro g h5 tk5 gs hgb hag hsz5 hk5 W5 hgat
      simp only [GxR.passing_true, List.length_range] at W5
      have hn5 : its.toArray.size = bs.length := by rw [List.size_toArray, hlen, hel.1]
      rw [hn5] at W5 hgat
      refine hZ xs bs H1 g _ hR ⟨_, _, _, _, _, W5.in4_1, hgat, fun j y hy => ?_, fun z hz => ?_, fun s' hm => ?_⟩
      · obtain ⟨i, hij, b, hb1, hb2⟩ := hy
        obtain ⟨hj, ej⟩ := List.getElem?_eq_some_iff.mp hij
        rw [List.getElem_range] at ej
        subst ej
        exact ⟨b, hb1, hb2⟩
      · show z < h5.objs.size
        rw [hsz5]
        rcases List.mem_cons.mp hz with e | hz
        · rw [e]; exact Nat.lt_succ_self _
        · rcases List.mem_cons.mp hz with e | hz
          · rw [e]; exact Nat.lt_succ_of_lt hag
          · exact Nat.lt_succ_of_lt (Nat.lt_trans (List.mem_range.mp hz) hag)
      · obtain ⟨more, em⟩ := hmore
        have nwr : ∀ b u, s1.heap.get? b = some u → b ∉ h3.objs.size :: [s1.heap.objs.size] := fun b u e hb => by
          have hl := Heap.lt_size e
          simp only [List.mem_cons, List.not_mem_nil, or_false] at hb
          rcases hb with hb | hb
          · rw [hb] at hl
            exact absurd (Nat.lt_trans hl hi3) (Nat.lt_irrefl _)
          · rw [hb] at hl
            exact Nat.lt_irrefl _ hl
        have J := GxR.inv_tab (more := more) (h' := s'.heap) (g' := s'.gens) (d' := s'.drawn) (t' := s'.toks) I1 hP (fun b u hb e => hm.heap b u (nwr b u e) (hk5 b u (k3 b u hb e)))
          (by rw [← em]; exact hm.heap P _ (nwr P _ hPs) (hk5 P _ hP3)) (AllBare.movedS (I1.bare.push hgb) hm)
        rw [GxR.sh_eta s1 s' hm.os] at J
        exact ⟨upd H1 P (.tbl (ps ++ more)), ⟨⟨ps ++ more, upd_same, by rw [← em]; exact ht3⟩, fun b hb => upd_ne hb⟩, J⟩
  refine ⟨lim2, ?_⟩
  cases hf : codeAmong gpos ps.toList with
  | none =>
    refine wpAny_genexprCodeX hcode (cd.code hPo htr) (cd.tab hPo) hf fun c' h' tk hx hge hlt hco' _ htab' _ => ?_
    obtain ⟨_, _, _, _, _, _, _, _, _, _, _, _, _, _, _, _, _, _, _, htr', _⟩ := hco'
    exact go _ h' tk _ hx (Nat.le_trans hge (Nat.le_of_lt hlt)) htab'.2 ⟨_, rfl⟩ htr'
  | some cv =>
    refine wpAny_genexprCode_hit hcode (cd.code hPo htr) hf ?_
    exact go cv (s1.heap.push o) s1.toks ps (Heap.ExtBut.refl _ _) (Nat.le_refl _) hPo ⟨#[], by simp⟩ htr

/-- sum(.. for x in e), e a tuple or a list, the element a quiet int -/
def tSumQ (X : Cx) (P : Addr) (k : Nat) (scope : Scope) (x : Str) (elt : Expr) (te : TE) : TE := fun σ H Q => te σ H fun v H1 => ∃ (ad : Addr) (xs bs : List V) (caps : Nm), v = .ref ad ∧ (SqT X.K H1 ad xs ∨ SqL X.K H1 ad xs) ∧
  GxR.TabG H1 P ∧ Caps X scope x σ caps ∧ EltV X (3 * k) scope x elt caps (wipe H1 P) xs bs ∧ ∃ ns : List Int, bs = ns.map V.int ∧ ∀ H2, GxR.Tabbed P H1 H2 → Q (.int ns.sum) H2
theorem pe_sumQ {c P : Addr} {elt iter : Expr} {x : Str} {px p pos gpos : Pos} {scope : Scope} {te : TE} {k : Nat}
    (rm : Room (k + 2) X.A) (hg : Gl X "sum") (hm : X.mg "sum" = none) (TB : GxR.TabB X.base X.mg c P) (hcode : X.env.code = .ref c) (GS : GxR.GenS X.env scope x) (hi : PE X iter te)
    (hs : ∀ v, genFold iter X.env v = pure v) (hb : bootBuiltins "sum" = some (.builtin "sum") := by decide +kernel)
    (he : starEach [.GeneratorExp elt [⟨.Name x px, iter, [], 0⟩] scope gpos] X.env = (false, eval (.GeneratorExp elt [⟨.Name x px, iter, [], 0⟩] scope gpos) X.env) :: starEach [] X.env := by rfl) :
    PE X (.Call (.Name "sum" p) [.GeneratorExp elt [⟨.Name x px, iter, [], 0⟩] scope gpos] [] pos) (tSumQ X P k scope x elt te) := by
  refine ⟨fun pins s σ H Q I h => ?_⟩
  refine wpAny_Call_Name_kw (ld_blt I hg hm hb (PyProof.Rows.callWith_builtin1 ?_ he (by rfl)))
  rw [he]
  show wpAny _ X.A (spliced ((false, eval (.GeneratorExp elt [⟨.Name x px, iter, [], 0⟩] scope gpos) X.env) :: backTo pos (starEach [] X.env))) _ X.xe s
  refine Calls.spliced_cons (gen_madeV (R := fun xs bs H1 => ∃ ns : List Int, bs = ns.map V.int ∧ ∀ H2, GxR.Tabbed P H1 H2 → Q (.int ns.sum) H2) rm TB hcode GS hi hs I h fun xs bs H1 g s5 hR hG => Calls.spliced_nil ?_)
  obtain ⟨ns, rfl, hR⟩ := hR
  obtain ⟨fp, wr, G, F, St, W, hst, hF, hfp, hI⟩ := hG
  refine call_sum_walkAnyS (W.self 0 _ _ _ hst ⟨g, fp, wr, G, _, F, St, fun i => ns.getD i 0, rfl, W, hst, hfp, fun i v hv => ?_, fun s' t' hmv => ?_⟩)
  · obtain ⟨b, hb1, hb2⟩ := hF i v hv
    rw [List.getElem?_map] at hb1
    cases q : ns[i]? with
    | none => rw [q] at hb1; cases hb1
    | some n =>
      rw [q] at hb1
      cases hb1
      obtain ⟨t, rfl⟩ := hb2
      exact ⟨t, by show Value.int n t = Value.int (ns.getD i 0) t; rw [List.getD_eq_getElem?_getD, q]; rfl⟩
  · obtain ⟨H2, hT, J⟩ := hI s' hmv
    have e : preSum (fun i => ns.getD i 0) (ns.map V.int).length = ns.sum := by
      have h1 := preSum_list (h := fun v => match v with | .int i => i | _ => 0) (ns.map V.int) (fun i => ns.getD i 0) (fun i x hx => by
        rw [List.getElem?_map] at hx
        cases q : ns[i]? with
        | none => rw [q] at hx; cases hx
        | some n =>
          rw [q] at hx
          cases hx
          show ns.getD i 0 = n
          rw [List.getD_eq_getElem?_getD, q]; rfl) (ns.map V.int).length (Nat.le_refl _)
      rw [h1, List.take_length, List.map_map]
      congr 1
      exact (List.map_congr_left fun n _ => rfl).trans (List.map_id ns)
    exact ⟨.int ns.sum, H2, J, ⟨t', by rw [e]⟩, hR H2 hT⟩
end
end Qt

namespace Em
open PySem PySem.Spec PyProof.Rows L2 Qt

/-! ### where a flame's way leads, lamp by lamp -/
theorem burn_pos {N : Net} (o : NetOk N) {y : Nat} (h : y < N.length) : 1 ≤ burnOf N y := by
  have hp := List.getElem?_eq_getElem h
  rw [burnOf_get hp]
  exact o.len _ (List.getElem_mem h)
def sumB (N : Net) (g : List Nat) : Int := (g.map (burnOf N)).sum
theorem sumB_nil (N : Net) : sumB N [] = 0 := rfl
theorem sumB_app (N : Net) (g h : List Nat) : sumB N (g ++ h) = sumB N g + sumB N h := by unfold sumB; rw [List.map_append, List.sum_append_int]
theorem sumB_one (N : Net) (y : Nat) : sumB N [y] = burnOf N y := by simp [sumB]
theorem sumB_cons (N : Net) (y : Nat) (g : List Nat) : sumB N (y :: g) = burnOf N y + sumB N g := by simp [sumB]
theorem sumB_nonneg {N : Net} (o : NetOk N) : ∀ {g : List Nat}, (∀ y ∈ g, y < N.length) → 0 ≤ sumB N g
  | [], _ => Int.le_refl _
  | y :: g, h => by
    have h1 := burn_pos o (h y List.mem_cons_self)
    have h2 := sumB_nonneg o (g := g) fun z hz => h z (List.mem_cons_of_mem _ hz)
    rw [sumB_cons]
    omega
/-- the lamps of a way, each with the first beat and the lap -/
abbrev Lgt := Nat × Int × Option Int
def lts (N : Net) (lap : Option Int) : Int → List Nat → List Lgt
  | _, [] => []
  | b, y :: r => (y, b, lap) :: lts N lap (b + burnOf N y) r
theorem lts_len (N : Net) (lap : Option Int) : ∀ (b : Int) (g : List Nat), (lts N lap b g).length = g.length
  | _, [] => rfl
  | b, y :: r => congrArg Nat.succ (lts_len N lap _ r)
theorem lts_snoc (N : Net) (lap : Option Int) (y : Nat) : ∀ (b : Int) (g : List Nat), lts N lap b (g ++ [y]) = lts N lap b g ++ [(y, b + sumB N g, lap)]
  | b, [] => by
    show [(y, b, lap)] = [(y, b + 0, lap)]
    rw [Int.add_zero]
  | b, z :: r => by
    show (z, b, lap) :: lts N lap (b + burnOf N z) (r ++ [y]) = _
    rw [lts_snoc N lap y (b + burnOf N z) r, sumB_cons, Int.add_assoc]
    rfl
theorem lts_get (N : Net) (lap : Option Int) : ∀ (b : Int) (g : List Nat) (j y : Nat), g[j]? = some y → (lts N lap b g)[j]? = some (y, b + sumB N (g.take j), lap)
  | _, [], _, _, h => by cases h
  | b, z :: r, 0, y, h => by
    cases h
    show some (z, b, lap) = some (z, b + 0, lap)
    rw [Int.add_zero]
  | b, z :: r, j + 1, y, h => by
    have := lts_get N lap (b + burnOf N z) r j y (by simpa using h)
    show (lts N lap (b + burnOf N z) r)[j]? = _
    rw [this, List.take_succ_cons, sumB_cons, Int.add_assoc]
theorem lts_fst (N : Net) (lap : Option Int) : ∀ (b : Int) (g : List Nat), (lts N lap b g).map (·.1) = g
  | _, [] => rfl
  | b, z :: r => congrArg (z :: ·) (lts_fst N lap _ r)
def lapOf (N : Net) (x : Nat) : Int := sumB N (wayR N x)
def cutN (N : Net) (x : Nat) : Nat := cutAt N (path N x)
def frst (N : Net) (b : Int) (x j : Nat) : Int := b + sumB N ((path N x).take j)
def lightsL (N : Net) (b : Int) (x : Nat) : List Lgt := lts N none b (wayA N x) ++ lts N (some (lapOf N x)) (b + sumB N (wayA N x)) (wayR N x)
theorem lights_fst (N : Net) (b : Int) (x : Nat) : (lightsL N b x).map (·.1) = path N x := by
  unfold lightsL
  rw [List.map_append, lts_fst, lts_fst, way_cat]
theorem cut_le {N : Net} (o : NetOk N) {x : Nat} (hx : x < N.length) : cutN N x ≤ (path N x).length := by
  unfold cutN cutAt
  split
  · exact Nat.le_refl _
  · exact List.idxOf_le_length
theorem wayA_len {N : Net} (o : NetOk N) {x : Nat} (hx : x < N.length) : (wayA N x).length = cutN N x := by
  have := cut_le o hx
  unfold wayA
  rw [List.length_take]
  show min (cutN N x) _ = _
  omega
theorem lights_get {N : Net} (o : NetOk N) {x : Nat} (hx : x < N.length) (b : Int) {j y : Nat} (h : (path N x)[j]? = some y) :
    (lightsL N b x)[j]? = some (y, frst N b x j, if j < cutN N x then none else some (lapOf N x)) := by
  have lA := wayA_len o hx
  have hc := way_cat N x
  have hj := (List.getElem?_eq_some_iff.mp h).1
  unfold lightsL
  by_cases hjc : j < cutN N x
  · rw [if_pos hjc, List.getElem?_append_left (by rw [lts_len, lA]; exact hjc)]
    have h2 : (wayA N x)[j]? = some y := by
      unfold wayA
      rw [List.getElem?_take, if_pos (show j < cutAt N (path N x) from hjc)]; exact h
    rw [lts_get N none b _ j y h2]
    have e : (wayA N x).take j = (path N x).take j := by
      unfold wayA
      rw [List.take_take, Nat.min_eq_left (show j ≤ cutAt N (path N x) from Nat.le_of_lt hjc)]
    rw [e]
    rfl
  · rw [if_neg hjc, List.getElem?_append_right (by rw [lts_len, lA]; omega), lts_len, lA]
    have h2 : (wayR N x)[j - cutN N x]? = some y := by
      unfold wayR
      rw [List.getElem?_drop]
      show (path N x)[cutN N x + (j - cutN N x)]? = _
      rw [show cutN N x + (j - cutN N x) = j by omega]; exact h
    rw [lts_get N _ _ _ _ y h2]
    have e : (path N x).take j = wayA N x ++ (wayR N x).take (j - cutN N x) := by
      rw [← hc, List.take_append, List.take_of_length_le (by rw [lA]; omega), lA]
    unfold frst
    rw [e, sumB_app, Int.add_assoc]
theorem take_succ_sum (N : Net) {g : List Nat} {j y : Nat} (h : g[j]? = some y) : sumB N (g.take (j + 1)) = sumB N (g.take j) + burnOf N y := by
  rw [List.take_add_one, h, sumB_app]
  show _ + sumB N [y] = _
  rw [sumB_one]
theorem sum_mono {N : Net} (o : NetOk N) {g : List Nat} (hg : ∀ y ∈ g, y < N.length) {i j : Nat} (h : i ≤ j) : sumB N (g.take i) ≤ sumB N (g.take j) := by
  have hn := sumB_nonneg o (g := (g.take j).drop i) fun y hy => hg y (List.mem_of_mem_take (List.mem_of_mem_drop hy))
  have e2 : sumB N (g.take j) = sumB N (g.take i) + sumB N ((g.take j).drop i) := by
    rw [← sumB_app]
    have e := List.take_append_drop i (g.take j)
    rw [List.take_take, Nat.min_eq_left h] at e
    rw [e]
  omega
theorem frst_gap {N : Net} (o : NetOk N) {x : Nat} (hx : x < N.length) (b : Int) {i j y : Nat} (h : (path N x)[i]? = some y) (hij : i < j) : frst N b x i + burnOf N y ≤ frst N b x j := by
  have h1 := sum_mono o (path_been o hx).lt (show i + 1 ≤ j from hij)
  rw [take_succ_sum N h] at h1
  unfold frst
  omega
theorem lap_frst {N : Net} (o : NetOk N) {x : Nat} (hx : x < N.length) (b : Int) : frst N b x (path N x).length = frst N b x (cutN N x) + lapOf N x := by
  unfold frst lapOf
  rw [List.take_length]
  have e : (path N x).take (cutN N x) = wayA N x := rfl
  rw [e]
  have : sumB N (path N x) = sumB N (wayA N x) + sumB N (wayR N x) := by rw [← sumB_app, way_cat]
  omega
/-! ### where it is at a beat -/
def gone (beat : Int) (z : Lgt) : Int := match z.2.2 with
  | none => beat - z.2.1
  | some l => if 0 ≤ beat - z.2.1 then (beat - z.2.1) % l else beat - z.2.1
def hit (N : Net) (beat : Int) (z : Lgt) : Bool := decide (0 ≤ gone beat z) && decide (gone beat z < burnOf N z.1)
def placeL (N : Net) (beat : Int) : List Lgt → Option (Nat × Int)
  | [] => none
  | z :: r => if hit N beat z = true then some (z.1, gone beat z) else placeL N beat r
theorem place_none {N : Net} {beat : Int} : ∀ {L : List Lgt}, (∀ z ∈ L, hit N beat z = false) → placeL N beat L = none
  | [], _ => rfl
  | z :: r, h => by
    unfold placeL
    rw [if_neg (by rw [h z List.mem_cons_self]; exact Bool.false_ne_true)]
    exact place_none fun y hy => h y (List.mem_cons_of_mem _ hy)
theorem place_some {N : Net} {beat : Int} : ∀ {L : List Lgt} {j : Nat} {z : Lgt}, L[j]? = some z → hit N beat z = true → (∀ i, i < j → ∀ y, L[i]? = some y → hit N beat y = false) → placeL N beat L = some (z.1, gone beat z)
  | [], _, _, h, _, _ => by cases h
  | y :: r, 0, z, h, hz, _ => by
    cases h
    unfold placeL
    rw [if_pos hz]
  | y :: r, j + 1, z, h, hz, hb => by
    unfold placeL
    rw [if_neg (by rw [hb 0 (Nat.zero_lt_succ _) y rfl]; exact Bool.false_ne_true)]
    exact place_some (j := j) (by simpa using h) hz fun i hi y hy => hb (i + 1) (Nat.succ_lt_succ hi) y (by simpa using hy)
theorem no_hit {N : Net} {beat : Int} {z : Lgt} (h : burnOf N z.1 ≤ gone beat z ∨ gone beat z < 0) : hit N beat z = false := by
  unfold hit
  rcases h with h | h
  · rw [decide_eq_false (show ¬ gone beat z < burnOf N z.1 by omega), Bool.and_false]
  · rw [decide_eq_false (show ¬ 0 ≤ gone beat z by omega), Bool.false_and]
theorem yes_hit {N : Net} {beat : Int} {z : Lgt} (h1 : 0 ≤ gone beat z) (h2 : gone beat z < burnOf N z.1) : hit N beat z = true := by
  unfold hit
  rw [decide_eq_true h1, decide_eq_true h2]; rfl
/-- so many laps on, within a lamp's length -/
theorem place_on {N : Net} (o : NetOk N) {x : Nat} (hx : x < N.length) (b : Int) {j y : Nat} (h : (path N x)[j]? = some y) {g laps : Int} (h0 : 0 ≤ g) (h1 : g < burnOf N y) (hl : 0 ≤ laps) (hlc : laps = 0 ∨ cutN N x ≤ j) :
    placeL N (frst N b x j + laps * lapOf N x + g) (lightsL N b x) = some (y, g) := by
  have hj := (List.getElem?_eq_some_iff.mp h).1
  have lp := lap_frst o hx b
  have gy := frst_gap o hx b h hj
  have key : gone (frst N b x j + laps * lapOf N x + g) (y, frst N b x j, if j < cutN N x then none else some (lapOf N x)) = g := by
    by_cases hjc : j < cutN N x
    · rw [if_pos hjc]
      have : laps = 0 := by rcases hlc with z | z <;> omega
      subst this
      show frst N b x j + 0 * lapOf N x + g - frst N b x j = g
      rw [Int.zero_mul]; omega
    · rw [if_neg hjc]
      have hm := sum_mono o (path_been o hx).lt (show cutN N x ≤ j by omega)
      have hlap : g < lapOf N x := by
        unfold frst at lp gy
        omega
      have hp : 0 ≤ laps * lapOf N x := Int.mul_nonneg hl (by omega)
      show (if 0 ≤ frst N b x j + laps * lapOf N x + g - frst N b x j then (frst N b x j + laps * lapOf N x + g - frst N b x j) % lapOf N x else _) = g
      have e : frst N b x j + laps * lapOf N x + g - frst N b x j = g + laps * lapOf N x := by omega
      rw [e, if_pos (by omega), Int.add_mul_emod_self_right]
      exact Int.emod_eq_of_lt h0 hlap
  have hz := lights_get o hx b h
  have r := place_some (N := N) (beat := frst N b x j + laps * lapOf N x + g) hz (yes_hit (by rw [key]; exact h0) (by rw [key]; exact h1)) fun i hi z hzi => ?_
  · rw [key] at r
    exact r
  · obtain ⟨yi, hyi⟩ : ∃ yi, (path N x)[i]? = some yi := ⟨_, List.getElem?_eq_getElem (by omega)⟩
    rw [lights_get o hx b hyi] at hzi
    cases hzi
    have gi := frst_gap o hx b hyi hi
    refine no_hit (.inl ?_)
    by_cases hic : i < cutN N x
    · rw [if_pos hic]
      have hp : 0 ≤ laps * lapOf N x := Int.mul_nonneg hl (sumB_nonneg o (way_sub o hx))
      show burnOf N yi ≤ frst N b x j + laps * lapOf N x + g - frst N b x i
      omega
    · rw [if_neg hic]
      have hm := sum_mono o (path_been o hx).lt (show cutN N x ≤ i by omega)
      have hp : 0 ≤ laps * lapOf N x := Int.mul_nonneg hl (sumB_nonneg o (way_sub o hx))
      show burnOf N yi ≤ (if 0 ≤ frst N b x j + laps * lapOf N x + g - frst N b x i then (frst N b x j + laps * lapOf N x + g - frst N b x i) % lapOf N x else _)
      have bp := burn_pos o ((path_been o hx).lt yi (List.mem_of_getElem? hyi))
      have e : frst N b x j + laps * lapOf N x + g - frst N b x i = (frst N b x j - frst N b x i + g) + laps * lapOf N x := by omega
      rw [e, if_pos (by omega), Int.add_mul_emod_self_right, Int.emod_eq_of_lt (by omega) (by
        unfold frst at lp gy gi ⊢
        omega)]
      omega
theorem place_before {N : Net} (o : NetOk N) {x : Nat} (hx : x < N.length) {b beat : Int} (h : beat < b) : placeL N beat (lightsL N b x) = none := by
  refine place_none fun z hz => ?_
  obtain ⟨j, hj, e⟩ := List.getElem_of_mem hz
  have hl : (lightsL N b x).length = (path N x).length := by rw [← lights_fst N b x, List.length_map]
  have hyj : (path N x)[j]? = some ((path N x)[j]'(by omega)) := List.getElem?_eq_getElem _
  have hz2 := lights_get o hx b hyj
  rw [List.getElem?_eq_getElem hj, e] at hz2
  have hz3 := Option.some.inj hz2
  have hm := sum_mono o (path_been o hx).lt (Nat.zero_le j)
  have hm2 : 0 ≤ sumB N ((path N x).take j) := hm
  refine no_hit (.inr ?_)
  rw [hz3]
  unfold gone frst
  split
  · show beat - (b + sumB N ((path N x).take j)) < 0
    omega
  · show (if 0 ≤ beat - (b + sumB N ((path N x).take j)) then _ else beat - (b + sumB N ((path N x).take j))) < 0
    rw [if_neg (by omega)]
    omega
theorem place_after {N : Net} (o : NetOk N) {x : Nat} (hx : x < N.length) {b beat : Int} (hr : wayR N x = []) (h : frst N b x (path N x).length ≤ beat) : placeL N beat (lightsL N b x) = none := by
  refine place_none fun z hz => ?_
  obtain ⟨j, hj, e⟩ := List.getElem_of_mem hz
  have hl : (lightsL N b x).length = (path N x).length := by rw [← lights_fst N b x, List.length_map]
  have hyj : (path N x)[j]? = some ((path N x)[j]'(by omega)) := List.getElem?_eq_getElem _
  have hz2 := lights_get o hx b hyj
  rw [List.getElem?_eq_getElem hj, e] at hz2
  have hz3 := Option.some.inj hz2
  have hc : j < cutN N x := by
    have h1 := way_cat N x
    rw [hr, List.append_nil] at h1
    have h2 := wayA_len o hx
    rw [h1] at h2
    omega
  rw [if_pos hc] at hz3
  have g := frst_gap o hx b hyj (show j < (path N x).length by omega)
  refine no_hit (.inl ?_)
  rw [hz3]
  show burnOf N ((path N x)[j]'(by omega)) ≤ beat - frst N b x j
  omega
/-- when it lights a lamp -/
def lookL (y : Nat) : List Lgt → Option (Int × Option Int)
  | [] => none
  | z :: r => if z.1 = y then some z.2 else lookL y r
theorem look_none {y : Nat} : ∀ {L : List Lgt}, y ∉ L.map (·.1) → lookL y L = none
  | [], _ => rfl
  | z :: r, h => by
    simp only [List.map_cons, List.mem_cons, not_or] at h
    unfold lookL
    rw [if_neg (fun e => h.1 e.symm)]
    exact look_none h.2
theorem look_some {y : Nat} : ∀ {L : List Lgt} {j : Nat} {w : Int × Option Int}, (L.map (·.1)).Nodup → L[j]? = some (y, w) → lookL y L = some w
  | [], _, _, _, h => by cases h
  | z :: r, 0, w, _, h => by
    cases h
    unfold lookL
    rw [if_pos rfl]
  | z :: r, j + 1, w, hn, h => by
    have hm : (r.map (·.1))[j]? = some y := by rw [List.getElem?_map, show r[j]? = some (y, w) by simpa using h]; rfl
    have hn2 : z.1 ∉ r.map (·.1) ∧ (r.map (·.1)).Nodup := List.nodup_cons.mp hn
    unfold lookL
    rw [if_neg (fun e : z.1 = y => hn2.1 (by rw [e]; exact List.mem_of_getElem? hm))]
    exact look_some hn2.2 (by simpa using h)
theorem lights_nd {N : Net} (o : NetOk N) {x : Nat} (hx : x < N.length) (b : Int) : ((lightsL N b x).map (·.1)).Nodup := by
  rw [lights_fst]; exact (path_been o hx).nd

theorem nd_take {g : List Nat} {i y : Nat} (hn : g.Nodup) (h : g[i]? = some y) : y ∉ g.take i := by
  intro hm
  obtain ⟨hi, e⟩ := List.getElem?_eq_some_iff.mp h
  obtain ⟨j, hj, e2⟩ := List.getElem_of_mem hm
  rw [List.length_take] at hj
  rw [List.getElem_take] at e2
  have := (List.getElem_inj (h₀ := by omega) (h₁ := hi) hn).mp (e2.trans e.symm)
  omega
/-! ### the lights as a dict -/
def lgtD (w : Int × Option Int) : PyData := .tuple [.int w.1, match w.2 with
  | none => .none
  | some l => .int l]
inductive LtA (H : Hp) : List (Key × V) → List Lgt → Prop
  | nil : LtA H [] []
  | cons {y : Nat} {w : Int × Option Int} {v : V} {r : List (Key × V)} {l : List Lgt} (h : Tu H v (lgtD w)) (t : LtA H r l) : LtA H ((Sum.inl (y : Int), v) :: r) ((y, w) :: l)
theorem LtA.kt {H H' : Hp} (k : Kt H H') : ∀ {r : List (Key × V)} {l : List Lgt}, LtA H r l → LtA H' r l
  | _, _, .nil => .nil
  | _, _, .cons h t => .cons (h.kt k) (LtA.kt k t)
theorem LtA.len {H : Hp} : ∀ {r : List (Key × V)} {l : List Lgt}, LtA H r l → r.length = l.length
  | _, _, .nil => rfl
  | _, _, .cons _ t => congrArg Nat.succ (LtA.len t)
theorem LtA.snoc {H : Hp} {y : Nat} {w : Int × Option Int} {v : V} (h : Tu H v (lgtD w)) : ∀ {r : List (Key × V)} {l : List Lgt}, LtA H r l → LtA H (r ++ [(Sum.inl (y : Int), v)]) (l ++ [(y, w)])
  | _, _, .nil => .cons h .nil
  | _, _, .cons a t => .cons a (LtA.snoc h t)
theorem LtA.get {H : Hp} : ∀ {r : List (Key × V)} {l : List Lgt} {i : Nat} {z : Lgt}, LtA H r l → l[i]? = some z → ∃ v, r[i]? = some (Sum.inl (z.1 : Int), v) ∧ Tu H v (lgtD z.2)
  | _, _, _, _, .nil, h => by cases h
  | _, _, 0, _, .cons a _, h => by cases h; exact ⟨_, rfl, a⟩
  | _, _, i + 1, _, .cons _ t, h => LtA.get (i := i) t (by simpa using h)
theorem LtA.val {H : Hp} {y : Nat} : ∀ {r : List (Key × V)} {l : List Lgt}, LtA H r l → (lookL y l = none ∧ valV r (Sum.inl (y : Int) : Key) = none) ∨ ∃ w v, lookL y l = some w ∧ valV r (Sum.inl (y : Int) : Key) = some v ∧ Tu H v (lgtD w)
  | _, _, .nil => .inl ⟨rfl, rfl⟩
  | _, _, @LtA.cons _ z w v r l h t => by
    by_cases e : z = y
    · subst e
      refine .inr ⟨w, v, ?_, valV_pos rfl, h⟩
      unfold lookL
      rw [if_pos rfl]
    · have e1 : lookL y ((z, w) :: l) = lookL y l := by
        show (if z = y then _ else _) = _
        rw [if_neg e]
      have e2 : valV ((Sum.inl (z : Int), v) :: r) (Sum.inl (y : Int) : Key) = valV r (Sum.inl (y : Int) : Key) := valV_neg (fun q => e (by
        have := Sum.inl.inj q
        omega))
      rw [e1, e2]
      exact LtA.val t
theorem wiped_tup {H : Hp} {P a : Addr} {xs : List V} (t : GxR.TabG H P) (h : H a = some (.tup xs)) : Qt.wipe H P a = some (.tup xs) :=
  wipe_at (fun z => by obtain ⟨ps, e, _⟩ := t; rw [z, e] at h; cases h) h
theorem lgt_at {H : Hp} {v : V} {w : Int × Option Int} (h : Tu H v (lgtD w)) : ∃ a, v = .ref a ∧ H a = some (.tup [.int w.1, match w.2 with
    | none => .non
    | some l => .int l]) := by
  obtain ⟨f, o⟩ := w
  cases h with
  | @tup a xs ds h t =>
    cases t with
    | cons t1 t =>
      cases t1
      cases t with
      | cons t2 t =>
        cases t
        cases o with
        | none => cases t2; exact ⟨a, rfl, h⟩
        | some l => cases t2; exact ⟨a, rfl, h⟩
end Em

namespace Em
open PySem PySem.Spec PyProof.Rows L2 Qt

/-! ### a flame that goes on alone, lamp by lamp -/
theorem last_eq {g : List Nat} {j z : Nat} (h : g[j]? = some z) (hj : j + 1 = g.length) : lastOf g = z := by
  obtain ⟨l, rfl⟩ : ∃ l, g = l ++ [z] := by
    obtain ⟨hlt, e⟩ := List.getElem?_eq_some_iff.mp h
    refine ⟨g.take j, ?_⟩
    have := List.take_add_one (l := g) (i := j)
    rw [h, List.take_of_length_le (by omega)] at this
    exact this
  exact last_app l z
theorem path_chain {N : Net} {x : Nat} : ∀ n j z y, (itr (step N) n [x])[j]? = some z → (itr (step N) n [x])[j + 1]? = some y → nxt N z = some y
  | 0, j, z, y, h1, h2 => by
    have : j + 1 < 1 := (List.getElem?_eq_some_iff.mp h2).1
    omega
  | n + 1, j, z, y, h1, h2 => by
    have es : itr (step N) (n + 1) [x] = step N (itr (step N) n [x]) := rfl
    rw [es] at h1 h2
    obtain ⟨g, eg⟩ : ∃ g, g = itr (step N) n [x] := ⟨_, rfl⟩
    have ih := path_chain (N := N) (x := x) n
    rw [← eg] at h1 h2 ih
    unfold step at h1 h2
    cases hz : nxt N (lastOf g) with
    | none => rw [hz] at h1 h2; exact ih j z y h1 h2
    | some u =>
      rw [hz] at h1 h2
      by_cases hu : u ∈ g
      · simp only [hu, if_true] at h1 h2
        exact ih j z y h1 h2
      · simp only [hu, if_false] at h1 h2
        by_cases hj : j + 1 < g.length
        · rw [List.getElem?_append_left (by omega)] at h1
          rw [List.getElem?_append_left hj] at h2
          exact ih j z y h1 h2
        · have h3 := (List.getElem?_eq_some_iff.mp h2).1
          rw [List.length_append] at h3
          have h4 : j + 1 = g.length := by simp at h3; omega
          rw [List.getElem?_append_left (by omega)] at h1
          rw [h4, List.getElem?_append_right (Nat.le_refl _), Nat.sub_self] at h2
          cases h2
          rw [← last_eq h1 h4]
          exact hz
/-- the next one's place on the way -/
theorem next_at {N : Net} (o : NetOk N) {x j z : Nat} (hx : x < N.length) (h : (path N x)[j]? = some z) :
    (nxt N z = none ∧ j + 1 = (path N x).length ∧ cutN N x = (path N x).length) ∨
    (∃ y, nxt N z = some y ∧ (path N x)[j + 1]? = some y) ∨
    (∃ y, nxt N z = some y ∧ j + 1 = (path N x).length ∧ (path N x)[cutN N x]? = some y) := by
  have hj := (List.getElem?_eq_some_iff.mp h).1
  by_cases hl : j + 1 < (path N x).length
  · refine .inr (.inl ⟨(path N x)[j + 1], ?_, List.getElem?_eq_getElem hl⟩)
    exact path_chain (N := N) (x := x) N.length j z _ h (List.getElem?_eq_getElem hl)
  · have hl2 : j + 1 = (path N x).length := by omega
    have hz := last_eq h hl2
    have hs := (path_been o hx).done.2
    cases hn : nxt N z with
    | none =>
      refine .inl ⟨rfl, hl2, ?_⟩
      unfold cutN cutAt
      rw [hz, hn]
    | some y =>
      have hm : y ∈ path N x := step_mem (by rw [hz]; exact hn) hs
      refine .inr (.inr ⟨y, rfl, hl2, ?_⟩)
      have hc : cutN N x = (path N x).idxOf y := by
        unfold cutN cutAt
        rw [hz, hn]
      have hix := List.idxOf_lt_length_iff.mpr hm
      rw [hc, List.getElem?_eq_getElem hix, List.getElem_idxOf hix]
/-- so many laps on, at a lamp of the way -/
def OnWay (N : Net) (b : Int) (x : Nat) (t : Int) (z : Nat) : Prop := ∃ (j : Nat) (laps : Int), (path N x)[j]? = some z ∧ t = frst N b x j + laps * lapOf N x ∧ 0 ≤ laps ∧ (laps = 0 ∨ cutN N x ≤ j)
theorem onWay_start {N : Net} (b : Int) (x : Nat) : OnWay N b x b x := by
  obtain ⟨t, e⟩ := path_head N x
  refine ⟨0, 0, by rw [e]; rfl, ?_, by decide, .inl rfl⟩
  show b = b + 0 + 0 * lapOf N x
  rw [Int.zero_mul]; omega
theorem onWay_next {N : Net} (o : NetOk N) {b t : Int} {x z : Nat} (hx : x < N.length) (h : OnWay N b x t z) :
    (nxt N z = none ∧ wayR N x = [] ∧ t + burnOf N z = frst N b x (path N x).length) ∨ ∃ y, nxt N z = some y ∧ OnWay N b x (t + burnOf N z) y := by
  obtain ⟨j, laps, hj, rfl, h0, hc⟩ := h
  have hf : frst N b x (j + 1) = frst N b x j + burnOf N z := by
    unfold frst
    rw [take_succ_sum N hj]; omega
  have hjl := (List.getElem?_eq_some_iff.mp hj).1
  rcases next_at o hx hj with ⟨h1, h2, h3⟩ | ⟨y, h1, h2⟩ | ⟨y, h1, h2, h3⟩
  · refine .inl ⟨h1, ?_, ?_⟩
    · unfold wayR
      rw [show cutAt N (path N x) = (path N x).length from h3]
      exact List.drop_length
    · have : laps = 0 := by rcases hc with z | z <;> omega
      subst this
      rw [Int.zero_mul, Int.add_zero, ← hf, h2]
  · refine .inr ⟨y, h1, j + 1, laps, h2, by rw [hf]; omega, h0, ?_⟩
    rcases hc with z | z
    · exact .inl z
    · exact .inr (by omega)
  · refine .inr ⟨y, h1, cutN N x, laps + 1, h3, ?_, by omega, .inr (Nat.le_refl _)⟩
    have lp := lap_frst o hx b
    rw [← h2] at lp
    rw [Int.add_mul, Int.one_mul]
    omega
/-- rows of a flame that goes on alone -/
structure FreeOk (N : Net) (b : Int) (x : Nat) (rows : List (Int × Nat)) (t : Int) : Prop where
  on : ∀ r ∈ rows, OnWay N b x r.1 r.2
  all : ∀ a, b ≤ a → a < t → ∃ r ∈ rows, r.1 ≤ a ∧ a < r.1 + burnOf N r.2
  len : (rows.length : Int) ≤ t - b
theorem FreeOk.start {N : Net} {b : Int} {x : Nat} : FreeOk N b x [] b := ⟨fun r h => (by cases h), fun a h1 h2 => (by omega), (by simp)⟩
theorem FreeOk.more {N : Net} (o : NetOk N) {b t : Int} {x z : Nat} {rows : List (Int × Nat)} (hx : x < N.length) (f : FreeOk N b x rows t) (h : OnWay N b x t z) : FreeOk N b x (rows ++ [(t, z)]) (t + burnOf N z) := by
  have hz : 1 ≤ burnOf N z := by
    obtain ⟨j, _, hj, _⟩ := h
    exact burn_pos o ((path_been o hx).lt z (List.mem_of_getElem? hj))
  refine ⟨fun r hr => ?_, fun a h1 h2 => ?_, ?_⟩
  · rcases List.mem_append.mp hr with hr | hr
    · exact f.on r hr
    · rw [List.mem_singleton.mp hr]; exact h
  · by_cases ht : a < t
    · obtain ⟨r, hr, q⟩ := f.all a h1 ht
      exact ⟨r, List.mem_append_left _ hr, q⟩
    · exact ⟨(t, z), by simp, by show t ≤ a; omega, h2⟩
  · rw [List.length_append]
    have := f.len
    simp
    omega
def foundL (N : Net) (a : Int) : List (Int × Nat) → Option (Nat × Int) → Option (Nat × Int)
  | [], o => o
  | r :: l, o => foundL N a l (if r.1 ≤ a ∧ a < r.1 + burnOf N r.2 then some (r.2, a - r.1) else o)
theorem found_app (N : Net) (a : Int) (r : Int × Nat) : ∀ (l : List (Int × Nat)) (o : Option (Nat × Int)), foundL N a (l ++ [r]) o = if r.1 ≤ a ∧ a < r.1 + burnOf N r.2 then some (r.2, a - r.1) else foundL N a l o
  | [], o => rfl
  | s :: l, o => found_app N a r l _
theorem on_place {N : Net} (o : NetOk N) {b a : Int} {x : Nat} (hx : x < N.length) {r : Int × Nat} (h : OnWay N b x r.1 r.2) (h1 : r.1 ≤ a) (h2 : a < r.1 + burnOf N r.2) : placeL N a (lightsL N b x) = some (r.2, a - r.1) := by
  obtain ⟨j, laps, hj, e, h0, hc⟩ := h
  have := place_on o hx b hj (g := a - r.1) (laps := laps) (by omega) (by omega) h0 hc
  rw [← e, show r.1 + (a - r.1) = a by omega] at this
  exact this
theorem found_place {N : Net} (o : NetOk N) {b a : Int} {x : Nat} (hx : x < N.length) : ∀ (l : List (Int × Nat)) (q : Option (Nat × Int)), (∀ r ∈ l, OnWay N b x r.1 r.2) → ((∃ r ∈ l, r.1 ≤ a ∧ a < r.1 + burnOf N r.2) ∨ q = placeL N a (lightsL N b x)) → foundL N a l q = placeL N a (lightsL N b x)
  | [], q, _, h => by
    rcases h with ⟨r, hr, _⟩ | h
    · cases hr
    · exact h
  | s :: l, q, ho, h => by
    unfold foundL
    refine found_place o hx l _ (fun r hr => ho r (List.mem_cons_of_mem _ hr)) ?_
    by_cases hs : s.1 ≤ a ∧ a < s.1 + burnOf N s.2
    · rw [if_pos hs]
      exact .inr (on_place o hx (ho s List.mem_cons_self) hs.1 hs.2).symm
    · rw [if_neg hs]
      rcases h with ⟨r, hr, hr2⟩ | h
      · rcases List.mem_cons.mp hr with e | hr
        · rw [e] at hr2; exact absurd hr2 hs
        · exact .inl ⟨r, hr, hr2⟩
      · exact .inr h
/-- what the rows tell of a beat -/
def FreeEnd (N : Net) (b : Int) (x : Nat) (upto : Int) (rows : List (Int × Nat)) : Prop := ∃ t, FreeOk N b x rows t ∧ (upto ≤ t ∨ (wayR N x = [] ∧ t = frst N b x (path N x).length))
theorem free_tells {N : Net} (o : NetOk N) {b a upto : Int} {x : Nat} (hx : x < N.length) {rows : List (Int × Nat)} (h : FreeEnd N b x upto rows) (ha : a < upto) : foundL N a rows none = placeL N a (lightsL N b x) := by
  obtain ⟨t, f, he⟩ := h
  refine found_place o hx rows none f.on ?_
  by_cases hb : a < b
  · exact .inr (place_before o hx hb).symm
  by_cases ht : a < t
  · exact .inl (f.all a (by omega) ht)
  · rcases he with he | ⟨h1, h2⟩
    · omega
    · exact .inr (place_after o hx h1 (by omega)).symm
def freeD (rows : List (Int × Nat)) : List PyData := rows.map fun r => .tuple [.int r.1, .int r.2]
end Em

namespace Em
open PySem PySem.Spec PyProof.Rows L2 Qt

/-! ### a beat, lamp by lamp -/
theorem getD_set {α : Type} {l : List α} {k j : Nat} {v d : α} (hk : k < l.length) : (l.set k v).getD j d = if j = k then v else l.getD j d := by
  rw [List.getD_eq_getElem?_getD, List.getElem?_set, List.getD_eq_getElem?_getD]
  by_cases e : k = j
  · subst e
    rw [if_pos rfl, if_pos hk, if_pos rfl]; rfl
  · rw [if_neg e, if_neg (fun z => e z.symm)]
/-- the flame that leaves a lamp at a beat -/
def outB (N : Net) (b : Nat) (L : List Lt) (k : Nat) : Option Nat := match L.getD k none with
  | none => none
  | some (f, t) => if (b : Int) < (t : Int) + burnOf N k then none else some f
/-- a lamp when those that are over have gone dark -/
def leftB (N : Net) (b : Nat) (L : List Lt) (k : Nat) : Lt := match outB N b L k with
  | none => L.getD k none
  | some _ => none
def cameB (N : Net) (b : Nat) (L : List Lt) (y j : Nat) : Option Nat := (outB N b L j).bind fun f => if nxt N j = some y then some f else none
def overB (N : Net) (b : Nat) (L : List Lt) (j : Nat) : Option Row := (outB N b L j).bind fun f => if nxt N j = none then some (.ended b j f) else none
/-- the flames that come to a lamp from lamps -/
def cameL (N : Net) (b : Nat) (L : List Lt) (k y : Nat) : List Nat := (List.range k).filterMap (cameB N b L y)
def overL (N : Net) (b : Nat) (L : List Lt) (k : Nat) : List Row := (List.range k).filterMap (overB N b L)
theorem range_fm {α : Type} (g : Nat → Option α) (k : Nat) : (List.range (k + 1)).filterMap g = (List.range k).filterMap g ++ (g k).toList := by
  rw [List.range_succ, List.filterMap_append]
  cases h : g k with
  | none => simp [h]
  | some a => simp [h]
structure DkAt (N : Net) (b : Nat) (L : List Lt) (k : Nat) (s : Dk) : Prop where
  len : s.L.length = N.length
  cln : s.css.length = N.length
  lit : ∀ j, s.L.getD j none = if j < k then leftB N b L j else L.getD j none
  css : ∀ y, y < N.length → s.css.getD y [] = cameL N b L k y
  rows : s.rows = overL N b L k
theorem dark_at {N : Net} (o : NetOk N) {b : Nat} {L : List Lt} (hL : L.length = N.length) : ∀ k, k ≤ N.length → DkAt N b L k (darkN N b k ⟨L, List.replicate N.length [], []⟩)
  | 0, _ => ⟨hL, List.length_replicate, fun j => by rw [if_neg (Nat.not_lt_zero j)]; rfl, fun y hy => by
      show (List.replicate N.length []).getD y [] = []
      rw [List.getD_eq_getElem?_getD, List.getElem?_replicate]
      split <;> rfl, rfl⟩
  | k + 1, hk => by
    have ih := dark_at o (b := b) hL k (by omega)
    obtain ⟨s, es⟩ : ∃ s, s = darkN N b k ⟨L, List.replicate N.length [], []⟩ := ⟨_, rfl⟩
    show DkAt N b L (k + 1) (darkK N b k (darkN N b k ⟨L, List.replicate N.length [], []⟩))
    rw [← es] at ih ⊢
    have hlk : s.L.getD k none = L.getD k none := by rw [ih.lit k, if_neg (Nat.lt_irrefl k)]
    -- nothing leaves
    have stay : outB N b L k = none → DkAt N b L (k + 1) s := fun hout => by
      refine ⟨ih.len, ih.cln, fun j => ?_, fun y hy => ?_, ?_⟩
      · rw [ih.lit j]
        by_cases h1 : j < k
        · rw [if_pos h1, if_pos (by omega)]
        · rw [if_neg h1]
          by_cases h2 : j < k + 1
          · have : j = k := by omega
            subst this
            rw [if_pos h2]
            unfold leftB
            rw [hout]
          · rw [if_neg h2]
      · rw [ih.css y hy]
        unfold cameL
        rw [range_fm]
        unfold cameB
        rw [hout]
        exact (List.append_nil _).symm
      · rw [ih.rows]
        unfold overL
        rw [range_fm]
        unfold overB
        rw [hout]
        exact (List.append_nil _).symm
    unfold darkK
    rw [hlk]
    cases hl : L.getD k none with
    | none => exact stay (by unfold outB; rw [hl])
    | some p =>
      obtain ⟨f, t⟩ := p
      show DkAt N b L (k + 1) (if (b : Int) < (t : Int) + burnOf N k then s else _)
      by_cases hb : (b : Int) < (t : Int) + burnOf N k
      · rw [if_pos hb]
        exact stay (by unfold outB; rw [hl]; show (if _ then _ else _) = _; rw [if_pos hb])
      · rw [if_neg hb]
        have hout : outB N b L k = some f := by unfold outB; rw [hl]; show (if _ then _ else _) = _; rw [if_neg hb]
        have lit' : ∀ j, (s.L.set k none).getD j none = if j < k + 1 then leftB N b L j else L.getD j none := fun j => by
          rw [getD_set (by rw [ih.len]; omega)]
          by_cases h1 : j = k
          · subst h1
            rw [if_pos rfl, if_pos (by omega)]
            unfold leftB
            rw [hout]
          · rw [if_neg h1, ih.lit j]
            by_cases h2 : j < k
            · rw [if_pos h2, if_pos (by omega)]
            · rw [if_neg h2, if_neg (by omega)]
        cases hn : nxt N k with
        | none =>
          refine ⟨by rw [List.length_set]; exact ih.len, ih.cln, lit', fun y hy => ?_, ?_⟩
          · show s.css.getD y [] = _
            rw [ih.css y hy]
            unfold cameL
            rw [range_fm]
            unfold cameB
            rw [hout]
            show _ = _ ++ (if nxt N k = some y then some f else none).toList
            rw [hn, if_neg (fun z => by cases z)]
            exact (List.append_nil _).symm
          · show s.rows ++ [.ended b k f] = _
            rw [ih.rows]
            unfold overL
            rw [range_fm]
            unfold overB
            rw [hout]
            show _ = _ ++ (if nxt N k = none then some (Row.ended b k f) else none).toList
            rw [if_pos hn]
            rfl
        | some u =>
          have hu := nxt_lt o hn
          refine ⟨by rw [List.length_set]; exact ih.len, by rw [List.length_set]; exact ih.cln, lit', fun y hy => ?_, ?_⟩
          · show (s.css.set u (s.css.getD u [] ++ [f])).getD y [] = _
            rw [getD_set (by rw [ih.cln]; exact hu)]
            unfold cameL
            rw [range_fm]
            unfold cameB
            rw [hout]
            show _ = _ ++ (if nxt N k = some y then some f else none).toList
            rw [hn]
            by_cases e : y = u
            · subst e
              rw [if_pos rfl, if_pos rfl, ih.css y hy]
              rfl
            · rw [if_neg e, if_neg (fun z => e (Option.some.inj z).symm), ih.css y hy]
              exact (List.append_nil _).symm
          · show s.rows = _
            rw [ih.rows]
            unfold overL
            rw [range_fm]
            unfold overB
            rw [hout]
            show _ = _ ++ (if nxt N k = none then some (Row.ended b k f) else none).toList
            rw [if_neg (by rw [hn]; exact fun z => by cases z)]
            exact (List.append_nil _).symm
/-- those that are kindled at a lamp now -/
def newL (W : List (Nat × Nat)) (y : Nat) : List Nat := (W.filter fun p => decide (p.2 = y)).map (·.1)
theorem addW_at : ∀ (W : List (Nat × Nat)) (css : List (List Nat)) (y : Nat), (∀ p ∈ W, p.2 < css.length) → (addW css W).getD y [] = css.getD y [] ++ newL W y
  | [], css, y, _ => (List.append_nil _).symm
  | p :: r, css, y, h => by
    have hp := h p List.mem_cons_self
    show (addW (addK css p) r).getD y [] = _
    have hl : (addK css p).length = css.length := List.length_set
    rw [addW_at r (addK css p) y fun q hq => by rw [hl]; exact h q (List.mem_cons_of_mem _ hq)]
    unfold addK newL
    rw [getD_set hp]
    by_cases e : y = p.2
    · subst e
      rw [if_pos rfl, List.filter_cons_of_pos (by simp), List.map_cons, List.append_assoc]
      rfl
    · rw [if_neg e, List.filter_cons_of_neg (by simpa using fun z => e z.symm)]
/-- all that come to a lamp at a beat -/
def comeL (N : Net) (b : Nat) (L : List Lt) (W : List (Nat × Nat)) (y : Nat) : List Nat := cameL N b L N.length y ++ newL W y
def metB (N : Net) (b : Nat) (L : List Lt) (W : List (Nat × Nat)) (k : Nat) : Lt × List Row := meet b k (leftB N b L k) (srt (comeL N b L W k))
theorem metN_at {b n : Nat} {css : List (List Nat)} {s : Ms} (hs : s.L.length = n) : ∀ k, k ≤ n →
    (∀ j, (meetN b css k s).L.getD j none = if j < k then (meet b j (s.L.getD j none) (srt (css.getD j []))).1 else s.L.getD j none) ∧ (meetN b css k s).rows = s.rows ++ ((List.range k).map fun j => (meet b j (s.L.getD j none) (srt (css.getD j []))).2).flatten
  | 0, _ => ⟨fun j => by rw [if_neg (Nat.not_lt_zero j)]; rfl, (List.append_nil _).symm⟩
  | k + 1, hk => by
    obtain ⟨h1, h2⟩ := metN_at (b := b) (css := css) hs k (by omega)
    have hl := (meetN_len b css s k).1
    have hlk : (meetN b css k s).L.getD k none = s.L.getD k none := by rw [h1 k, if_neg (Nat.lt_irrefl k)]
    refine ⟨fun j => ?_, ?_⟩
    · show ((meetN b css k s).L.set k _).getD j none = _
      rw [getD_set (by rw [hl, hs]; omega), hlk]
      by_cases e : j = k
      · subst e
        rw [if_pos rfl, if_pos (by omega)]
      · rw [if_neg e, h1 j]
        by_cases h3 : j < k
        · rw [if_pos h3, if_pos (by omega)]
        · rw [if_neg h3, if_neg (by omega)]
    · show (meetN b css k s).rows ++ (meet b k ((meetN b css k s).L.getD k none) (srt (css.getD k []))).2 = _
      rw [hlk, h2, List.range_succ, List.map_append, List.flatten_append, List.append_assoc]
      show _ ++ (_ ++ _) = _ ++ (_ ++ (_ ++ []))
      rw [List.append_nil]
/-- a beat: what burns behind it, and what it tells -/
theorem beat_at {N : Net} (o : NetOk N) {b : Nat} {L : List Lt} {W : List (Nat × Nat)} (hL : L.length = N.length) (hW : ∀ p ∈ W, p.2 < N.length) :
    (beatA N b L W).L.length = N.length ∧ (∀ k, k < N.length → (beatA N b L W).L.getD k none = (metB N b L W k).1) ∧
    (beatA N b L W).rows = overL N b L N.length ++ ((List.range N.length).map fun k => (metB N b L W k).2).flatten := by
  have hd := dark_at o (b := b) hL N.length (Nat.le_refl _)
  have hdA : DkAt N b L N.length (darkA N b L) := hd
  have hcss : ∀ k, k < N.length → (addW (darkA N b L).css W).getD k [] = comeL N b L W k := fun k hk => by
    rw [addW_at W _ k (by rw [hdA.cln]; exact hW), hdA.css k hk]
    rfl
  have hleft : ∀ k, k < N.length → (darkA N b L).L.getD k none = leftB N b L k := fun k hk => by rw [hdA.lit k, if_pos hk]
  obtain ⟨h1, h2⟩   := metN_at (b := b) (css := addW (darkA N b L).css W) (s := ⟨(darkA N b L).L, (darkA N b L).rows⟩) hdA.len N.length (Nat.le_refl _)
  refine ⟨?_, fun k hk => ?_, ?_⟩
  · show (meetN b _ N.length _).L.length = _
    rw [(meetN_len b _ _ _).1]
    exact hdA.len
  · show (meetN b _ N.length _).L.getD k none = _
    rw [h1 k, if_pos hk]
    show (meet b k ((darkA N b L).L.getD k none) (srt ((addW (darkA N b L).css W).getD k []))).1 = _
    rw [hleft k hk, hcss k hk]
    rfl
  · show (meetN b _ N.length _).rows = _
    rw [h2]
    show (darkA N b L).rows ++ _ = _
    rw [hdA.rows]
    congr 2
    refine List.map_congr_left fun k hk => ?_
    have hk2 := List.mem_range.mp hk
    show (meet b k ((darkA N b L).L.getD k none) (srt ((addW (darkA N b L).css W).getD k []))).2 = _
    rw [hleft k hk2, hcss k hk2]
    rfl
end Em

namespace Em
open PySem PySem.Spec PyProof.Rows L2 Qt

theorem op_in_seqK {X : Cx} {K : PySem.W.Frag} (h : X.K = K) : OpR X (compareOp .In) (rIn K false) := h ▸ op_in_seq
theorem op_notIn_seqK {X : Cx} {K : PySem.W.Frag} (h : X.K = K) : OpR X (compareOp .NotIn) (rIn K true) := h ▸ op_notIn_seq
/-! ### going on, step by step -/
def goS (N : Net) : Nat → Nat → Option Nat
  | 0, x => some x
  | n + 1, x => (goS N n x).bind (nxt N)
theorem goS_add (N : Net) (x m : Nat) : ∀ n, goS N (m + n) x = (goS N m x).bind (goS N n)
  | 0 => by
    show goS N m x = _
    cases goS N m x <;> rfl
  | n + 1 => by
    show (goS N (m + n) x).bind (nxt N) = _
    rw [goS_add N x m n]
    cases goS N m x <;> rfl
theorem goS_path {N : Net} {x : Nat} : ∀ j z, (path N x)[j]? = some z → goS N j x = some z
  | 0, z, h => by
    obtain ⟨t, e⟩ := path_head N x
    rw [e] at h
    cases h
    rfl
  | j + 1, z, h => by
    have hj := (List.getElem?_eq_some_iff.mp h).1
    have h0 : (path N x)[j]? = some ((path N x)[j]'(by omega)) := List.getElem?_eq_getElem _
    show (goS N j x).bind (nxt N) = _
    rw [goS_path j _ h0]
    exact path_chain (N := N) (x := x) N.length j _ _ h0 h
theorem goS_mem {N : Net} (o : NetOk N) {x : Nat} (hx : x < N.length) : ∀ n y, goS N n x = some y → ∃ j, (path N x)[j]? = some y ∧ (cutN N x ≤ n → cutN N x < (path N x).length → cutN N x ≤ j)
  | 0, y, h => by
    cases h
    obtain ⟨t, e⟩ := path_head N x
    exact ⟨0, by rw [e]; rfl, fun h _ => h⟩
  | n + 1, y, h => by
    have h' : (goS N n x).bind (nxt N) = some y := h
    cases hz : goS N n x with
    | none => rw [hz] at h'; cases h'
    | some z =>
      rw [hz] at h'
      have hn : nxt N z = some y := h'
      obtain ⟨j, hj, hc⟩ := goS_mem o hx n z hz
      have hjl := (List.getElem?_eq_some_iff.mp hj).1
      rcases next_at o hx hj with ⟨h1, _, _⟩ | ⟨u, h1, h2⟩ | ⟨u, h1, h2, h3⟩
      · rw [hn] at h1; cases h1
      · rw [hn] at h1
        cases h1
        refine ⟨j + 1, h2, fun hcn hcl => ?_⟩
        by_cases hq : cutN N x ≤ n
        · have := hc hq hcl
          omega
        · -- the cut is reached just now
          have e : cutN N x = n + 1 := by omega
          have hp := goS_path (N := N) (x := x) (n + 1) _ (List.getElem?_eq_getElem (show n + 1 < (path N x).length by omega))
          rw [h] at hp
          have hy := Option.some.inj hp
          have hnd := (path_been o hx).nd
          obtain ⟨hj1, e1⟩ := List.getElem?_eq_some_iff.mp h2
          have := (List.getElem_inj (h₀ := hj1) (h₁ := show n + 1 < (path N x).length by omega) hnd).mp (e1.trans hy)
          omega
      · rw [hn] at h1
        cases h1
        exact ⟨cutN N x, h3, fun _ _ => Nat.le_refl _⟩
theorem wayR_get {N : Net} {x y : Nat} : y ∈ wayR N x ↔ ∃ j, cutN N x ≤ j ∧ (path N x)[j]? = some y := by
  unfold wayR
  constructor
  · intro h
    obtain ⟨i, hi, e⟩ := List.getElem_of_mem h
    have h2 := List.getElem?_eq_getElem hi
    rw [e, List.getElem?_drop] at h2
    exact ⟨cutAt N (path N x) + i, by show cutN N x ≤ cutN N x + i; omega, h2⟩
  · rintro ⟨j, hj, h⟩
    refine List.mem_of_getElem? (i := j - cutN N x) ?_
    rw [List.getElem?_drop]
    show (path N x)[cutN N x + (j - cutN N x)]? = _
    rw [show cutN N x + (j - cutN N x) = j by omega]; exact h
/-- behind the whole path -/
theorem goS_len {N : Net} (o : NetOk N) {x : Nat} (hx : x < N.length) : goS N (path N x).length x = if cutN N x < (path N x).length then (path N x)[cutN N x]? else none := by
  have hp := (path_been o hx).pos
  have h0 : (path N x)[(path N x).length - 1]? = some ((path N x)[(path N x).length - 1]'(by omega)) := List.getElem?_eq_getElem _
  have hg := goS_path _ _ h0
  have e : (path N x).length = ((path N x).length - 1) + 1 := by omega
  have h1 : goS N (path N x).length x = nxt N ((path N x)[(path N x).length - 1]'(by omega)) := by
    conv => lhs; rw [e]
    show (goS N ((path N x).length - 1) x).bind (nxt N) = _
    rw [hg]; rfl
  rw [h1]
  rcases next_at o hx h0 with ⟨h2, h3, h4⟩ | ⟨u, h2, h3⟩ | ⟨u, h2, h3, h4⟩
  · rw [h2, if_neg (by omega)]
  · have := (List.getElem?_eq_some_iff.mp h3).1
    omega
  · have := (List.getElem?_eq_some_iff.mp h4).1
    rw [h2, if_pos this, h4]
theorem goS_none {N : Net} {x m : Nat} (h : goS N m x = none) : ∀ n, goS N (m + n) x = none := fun n => by
  rw [goS_add, h]; rfl
/-- what comes again, by steps -/
theorem wayR_iff {N : Net} (o : NetOk N) {x y : Nat} (hx : x < N.length) : y ∈ wayR N x ↔ (∃ m, goS N m x = some y) ∧ ∃ n, 1 ≤ n ∧ goS N n y = some y := by
  constructor
  · intro h
    obtain ⟨j, hj, hy⟩ := wayR_get.mp h
    have hjl := (List.getElem?_eq_some_iff.mp hy).1
    have hg := goS_path j y hy
    refine ⟨⟨j, hg⟩, (path N x).length - cutN N x, by omega, ?_⟩
    have hl := goS_len o hx
    rw [if_pos (by omega)] at hl
    have hcg : goS N (cutN N x) x = (path N x)[cutN N x]? := by
      have := List.getElem?_eq_getElem (show cutN N x < (path N x).length by omega)
      rw [this]; exact goS_path _ _ this
    rw [← hcg] at hl
    have h1 := goS_add N x j ((path N x).length - cutN N x)
    rw [hg] at h1
    have h2 := goS_add N x (path N x).length (j - cutN N x)
    rw [hl, ← goS_add, show cutN N x + (j - cutN N x) = j by omega, hg, show (path N x).length + (j - cutN N x) = j + ((path N x).length - cutN N x) by omega] at h2
    rw [h2] at h1
    exact h1.symm
  · rintro ⟨⟨m, hm⟩, n, hn, hy⟩
    have again : ∀ k, goS N (m + k * n) x = some y := by
      intro k
      induction k with
      | zero => rw [Nat.zero_mul]; exact hm
      | succ k ih => rw [Nat.add_mul, Nat.one_mul, ← Nat.add_assoc, goS_add, ih]; exact hy
    have big : ∀ s, ∃ k, s ≤ m + k * n := fun s => ⟨s, by
      have : s * 1 ≤ s * n := Nat.mul_le_mul_left s hn
      omega⟩
    have hcl : cutN N x < (path N x).length := by
      by_cases hc : cutN N x < (path N x).length
      · exact hc
      · exfalso
        have hl := goS_len o hx
        rw [if_neg hc] at hl
        obtain ⟨k, hk⟩ := big (path N x).length
        have h1 := goS_none hl (m + k * n - (path N x).length)
        rw [show (path N x).length + (m + k * n - (path N x).length) = m + k * n by omega, again k] at h1
        cases h1
    obtain ⟨k, hk⟩ := big (cutN N x)
    obtain ⟨j, hj, hc⟩ := goS_mem o hx _ y (again k)
    exact wayR_get.mpr ⟨j, hc hk hcl, hj⟩
theorem wayR_nd {N : Net} (o : NetOk N) {x : Nat} (hx : x < N.length) : (wayR N x).Nodup := by
  have := (path_been o hx).nd
  rw [← way_cat N x] at this
  exact (List.nodup_append.mp this).2.1
theorem sumB_perm (N : Net) {g h : List Nat} (p : g.Perm h) : sumB N g = sumB N h := by
  induction p with
  | nil => rfl
  | cons x _ ih => rw [sumB_cons, sumB_cons, ih]
  | swap x y l => rw [sumB_cons, sumB_cons, sumB_cons, sumB_cons]; omega
  | trans _ _ h1 h2 => rw [h1, h2]
/-- one lap all along a way -/
theorem lap_along {N : Net} (o : NetOk N) {x z k : Nat} (hx : x < N.length) (hz : z < N.length) (h : goS N k x = some z) : lapOf N z = lapOf N x := by
  refine sumB_perm N ((List.perm_ext_iff_of_nodup (wayR_nd o hz) (wayR_nd o hx)).mpr fun y => ?_)
  rw [wayR_iff o hz, wayR_iff o hx]
  constructor
  · rintro ⟨⟨m, hm⟩, r⟩
    exact ⟨⟨k + m, by rw [goS_add, h]; exact hm⟩, r⟩
  · rintro ⟨⟨m, hm⟩, n, hn, hy⟩
    have again : ∀ i, goS N (m + i * n) x = some y := by
      intro i
      induction i with
      | zero => rw [Nat.zero_mul]; exact hm
      | succ i ih => rw [Nat.add_mul, Nat.one_mul, ← Nat.add_assoc, goS_add, ih]; exact hy
    refine ⟨⟨m + k * n - k, ?_⟩, n, hn, hy⟩
    have h1 : k * 1 ≤ k * n := Nat.mul_le_mul_left k hn
    have h2 := goS_add N x k (m + k * n - k)
    rw [show k + (m + k * n - k) = m + k * n by omega, again k, h] at h2
    exact h2.symm
theorem lap_nonneg {N : Net} (o : NetOk N) {x : Nat} (hx : x < N.length) : 0 ≤ lapOf N x := sumB_nonneg o (way_sub o hx)
/-! ### two flames -/
def frstOf (N : Net) (b : Int) (x y : Nat) : Int := frst N b x ((path N x).idxOf y)
theorem idx_get {g : List Nat} {y : Nat} (h : y ∈ g) : g[g.idxOf y]? = some y := by
  have hix := List.idxOf_lt_length_iff.mpr h
  rw [List.getElem?_eq_getElem hix, List.getElem_idxOf hix]
theorem idx_of {g : List Nat} (hn : g.Nodup) {j y : Nat} (h : g[j]? = some y) : g.idxOf y = j := by
  obtain ⟨h1, e1⟩ := List.getElem?_eq_some_iff.mp h
  have hm := List.mem_of_getElem? h
  obtain ⟨h2, e2⟩ := List.getElem?_eq_some_iff.mp (idx_get hm)
  exact (List.getElem_inj (h₀ := h2) (h₁ := h1) hn).mp (e2.trans e1.symm)
theorem look_frst {N : Net} (o : NetOk N) {x y : Nat} (hx : x < N.length) (b : Int) (h : y ∈ path N x) : ∃ lp, lookL y (lightsL N b x) = some (frstOf N b x y, lp) :=
  ⟨_, look_some (lights_nd o hx b) (lights_get o hx b (idx_get h))⟩
/-- from a lamp on both go alike -/
theorem go_alike {N : Net} (o : NetOk N) {x1 x2 m : Nat} (h1 : x1 < N.length) (h2 : x2 < N.length) (b1 b2 : Int) (hm1 : m ∈ path N x1) (hm2 : m ∈ path N x2) :
    ∀ (k z : Nat), (path N x1)[(path N x1).idxOf m + k]? = some z → OnWay N b2 x2 (frstOf N b2 x2 m + (frst N b1 x1 ((path N x1).idxOf m + k) - frstOf N b1 x1 m)) z
  | 0, z, h => by
    have : z = m := by
      have := idx_get hm1
      rw [Nat.add_zero] at h
      rw [h] at this
      exact Option.some.inj this
    subst this
    refine ⟨(path N x2).idxOf z, 0, idx_get hm2, ?_, by decide, .inl rfl⟩
    unfold frstOf
    rw [Nat.add_zero, Int.zero_mul]
    omega
  | k + 1, z, h => by
    have hj := (List.getElem?_eq_some_iff.mp h).1
    have h0 : (path N x1)[(path N x1).idxOf m + k]? = some ((path N x1)[(path N x1).idxOf m + k]'(by omega)) := List.getElem?_eq_getElem _
    have ih := go_alike o h1 h2 b1 b2 hm1 hm2 k _ h0
    have hn := path_chain (N := N) (x := x1) N.length _ _ _ h0 h
    rcases onWay_next o h2 ih with ⟨n1, _⟩ | ⟨y, n1, n2⟩
    · rw [hn] at n1; cases n1
    · rw [hn] at n1
      cases n1
      have e : frst N b1 x1 ((path N x1).idxOf m + (k + 1)) = frst N b1 x1 ((path N x1).idxOf m + k) + burnOf N ((path N x1)[(path N x1).idxOf m + k]'(by omega)) := by
        show b1 + sumB N ((path N x1).take ((path N x1).idxOf m + k + 1)) = _
        rw [take_succ_sum N h0]
        unfold frst
        omega
      rw [e, show frstOf N b2 x2 m + (frst N b1 x1 ((path N x1).idxOf m + k) + burnOf N ((path N x1)[(path N x1).idxOf m + k]'(by omega)) - frstOf N b1 x1 m) = frstOf N b2 x2 m + (frst N b1 x1 ((path N x1).idxOf m + k) - frstOf N b1 x1 m) + burnOf N ((path N x1)[(path N x1).idxOf m + k]'(by omega)) by omega]
      exact n2
/-- the gap at a lamp behind is the same, but for laps -/
theorem gap_stays {N : Net} (o : NetOk N) {x1 x2 m z : Nat} (h1 : x1 < N.length) (h2 : x2 < N.length) (b1 b2 : Int) (hm1 : m ∈ path N x1) (hm2 : m ∈ path N x2) {j : Nat} (hj : (path N x1).idxOf m ≤ j) (hz : (path N x1)[j]? = some z) :
    z ∈ path N x2 ∧ ∃ laps : Int, frstOf N b2 x2 z - frstOf N b1 x1 z = frstOf N b2 x2 m - frstOf N b1 x1 m - laps * lapOf N x1 := by
  have e : j = (path N x1).idxOf m + (j - (path N x1).idxOf m) := by omega
  rw [e] at hz
  obtain ⟨j2, laps, hj2, ht, _⟩ := go_alike o h1 h2 b1 b2 hm1 hm2 _ z hz
  have hmem := List.mem_of_getElem? hj2
  refine ⟨hmem, laps, ?_⟩
  have ml : m < N.length := (path_been o h1).lt m hm1
  have l1 := lap_along o h1 ml (goS_path _ _ (idx_get hm1))
  have l2 := lap_along o h2 ml (goS_path _ _ (idx_get hm2))
  rw [← l2, l1] at ht
  have f2 : frstOf N b2 x2 z = frst N b2 x2 j2 := by unfold frstOf; rw [idx_of (path_been o h2).nd hj2]
  have f1 : frstOf N b1 x1 z = frst N b1 x1 ((path N x1).idxOf m + (j - (path N x1).idxOf m)) := by unfold frstOf; rw [idx_of (path_been o h1).nd hz]
  rw [f1, f2]
  omega
/-- the gap told -/
def gapL (L2 : List Lgt) : List Lgt → Option (Nat × Int)
  | [] => none
  | z :: r => match lookL z.1 L2 with
    | none => gapL L2 r
    | some w => some (z.1, w.1 - z.2.1)
def gapN (N : Net) (b1 : Int) (x1 : Nat) (b2 : Int) (x2 : Nat) : Option (Nat × Int) := gapL (lightsL N b2 x2) (lightsL N b1 x1)
theorem gap_some {L2 : List Lgt} : ∀ {L : List Lgt} {j : Nat} {z : Lgt} {w : Int × Option Int}, L[j]? = some z → lookL z.1 L2 = some w → (∀ i, i < j → ∀ y, L[i]? = some y → lookL y.1 L2 = none) → gapL L2 L = some (z.1, w.1 - z.2.1)
  | [], _, _, _, h, _, _ => by cases h
  | y :: r, 0, z, w, h, hw, _ => by
    cases h
    unfold gapL
    rw [hw]
  | y :: r, j + 1, z, w, h, hw, hb => by
    unfold gapL
    rw [hb 0 (Nat.zero_lt_succ _) y rfl]
    exact gap_some (j := j) (by simpa using h) hw fun i hi y hy => hb (i + 1) (Nat.succ_lt_succ hi) y (by simpa using hy)
theorem gap_none {L2 : List Lgt} : ∀ {L : List Lgt}, (∀ y ∈ L, lookL y.1 L2 = none) → gapL L2 L = none
  | [], _ => rfl
  | y :: r, h => by
    unfold gapL
    rw [h y List.mem_cons_self]
    exact gap_none fun z hz => h z (List.mem_cons_of_mem _ hz)
def bothL (N : Net) (x1 x2 : Nat) : List Nat := (path N x1).filter fun y => decide (y ∈ path N x2)
theorem gap_due {N : Net} (o : NetOk N) {x1 x2 : Nat} (h1 : x1 < N.length) (h2 : x2 < N.length) (b1 b2 : Int) :
    gapN N b1 x1 b2 x2 = (bothL N x1 x2).head?.map fun m => (m, frstOf N b2 x2 m - frstOf N b1 x1 m) := by
  unfold gapN
  cases hb : bothL N x1 x2 with
  | nil =>
    refine gap_none fun y hy => look_none ?_
    rw [lights_fst]
    intro hm
    have hy1 : y.1 ∈ path N x1 := by rw [← lights_fst N b1 x1]; exact List.mem_map_of_mem hy
    have : y.1 ∈ bothL N x1 x2 := List.mem_filter.mpr ⟨hy1, decide_eq_true hm⟩
    rw [hb] at this
    cases this
  | cons m l =>
    have hm : m ∈ bothL N x1 x2 := by rw [hb]; exact List.mem_cons_self
    obtain ⟨hm1, hm2⟩ := List.mem_filter.mp hm
    have hm2' : m ∈ path N x2 := of_decide_eq_true hm2
    obtain ⟨lp, hlk⟩ := look_frst o h2 b2 hm2'
    have hz := lights_get o h1 b1 (idx_get hm1)
    rw [gap_some (w := (frstOf N b2 x2 m, lp)) hz hlk fun i hi y hy => ?_]
    · rfl
    · refine look_none ?_
      rw [lights_fst]
      intro hyp
      have hlen : (lightsL N b1 x1).length = (path N x1).length := by rw [← lights_fst N b1 x1, List.length_map]
      have hil := (List.getElem?_eq_some_iff.mp hy).1
      have hyi : (path N x1)[i]? = some ((path N x1)[i]'(by omega)) := List.getElem?_eq_getElem _
      have := lights_get o h1 b1 hyi
      rw [hy] at this
      have ey := Option.some.inj this
      rw [ey] at hyp
      -- the filter's head would stand sooner
      have hlt : i < (path N x1).idxOf m := hi
      have hb2 : bothL N x1 x2 = ((path N x1).take ((path N x1).idxOf m)).filter (fun y => decide (y ∈ path N x2)) ++ ((path N x1).drop ((path N x1).idxOf m)).filter (fun y => decide (y ∈ path N x2)) := by
        rw [← List.filter_append, List.take_append_drop]; rfl
      have hin : (path N x1)[i]'(by omega) ∈ ((path N x1).take ((path N x1).idxOf m)).filter (fun y => decide (y ∈ path N x2)) := by
        refine List.mem_filter.mpr ⟨?_, decide_eq_true hyp⟩
        exact List.mem_of_getElem? (i := i) (by rw [List.getElem?_take, if_pos hlt]; exact hyi)
      rw [hb] at hb2
      cases hc : ((path N x1).take ((path N x1).idxOf m)).filter (fun y => decide (y ∈ path N x2)) with
      | nil => rw [hc] at hin; cases hin
      | cons u v =>
        rw [hc] at hb2
        have eu : m = u := (List.cons.inj hb2).1
        have hu : u ∈ (path N x1).take ((path N x1).idxOf m) := (List.mem_filter.mp (by rw [hc]; exact List.mem_cons_self)).1
        rw [← eu] at hu
        exact nd_take (path_been o h1).nd (idx_get hm1) hu
theorem both_mem {N : Net} {x1 x2 m : Nat} (h : (bothL N x1 x2).head? = some m) : m ∈ path N x1 ∧ m ∈ path N x2 := by
  have hm : m ∈ bothL N x1 x2 := List.mem_of_mem_head? h
  obtain ⟨a, b⟩ := List.mem_filter.mp hm
  exact ⟨a, of_decide_eq_true b⟩
theorem both_head {N : Net} (o : NetOk N) {x1 x2 m u : Nat} (h1 : x1 < N.length) (h : (bothL N x1 x2).head? = some m) (hu1 : u ∈ path N x1) (hu2 : u ∈ path N x2) : (path N x1).idxOf m ≤ (path N x1).idxOf u := by
  by_cases hlt : (path N x1).idxOf u < (path N x1).idxOf m
  · exfalso
    obtain ⟨hm1, hm2⟩ := both_mem h
    have hb2 : bothL N x1 x2 = ((path N x1).take ((path N x1).idxOf m)).filter (fun y => decide (y ∈ path N x2)) ++ ((path N x1).drop ((path N x1).idxOf m)).filter (fun y => decide (y ∈ path N x2)) := by
      rw [← List.filter_append, List.take_append_drop]; rfl
    have hin : u ∈ ((path N x1).take ((path N x1).idxOf m)).filter (fun y => decide (y ∈ path N x2)) := by
      refine List.mem_filter.mpr ⟨?_, decide_eq_true hu2⟩
      exact List.mem_of_getElem? (i := (path N x1).idxOf u) (by rw [List.getElem?_take, if_pos hlt]; exact idx_get hu1)
    cases hc : ((path N x1).take ((path N x1).idxOf m)).filter (fun y => decide (y ∈ path N x2)) with
    | nil => rw [hc] at hin; cases hin
    | cons a l =>
      rw [hb2, hc] at h
      have ea : a = m := Option.some.inj h
      have ha : a ∈ (path N x1).take ((path N x1).idxOf m) := (List.mem_filter.mp (by rw [hc]; exact List.mem_cons_self)).1
      rw [ea] at ha
      exact nd_take (path_been o h1).nd (idx_get hm1) ha
  · omega
theorem both_none {N : Net} {x1 x2 : Nat} : bothL N x1 x2 = [] ↔ bothL N x2 x1 = [] := by
  have key : ∀ {a b : Nat}, bothL N a b = [] → bothL N b a = [] := fun {a b} h => by
    cases hc : bothL N b a with
    | nil => rfl
    | cons u l =>
      exfalso
      have hu : u ∈ bothL N b a := by rw [hc]; exact List.mem_cons_self
      obtain ⟨h1, h2⟩ := List.mem_filter.mp hu
      have : u ∈ bothL N a b := List.mem_filter.mpr ⟨of_decide_eq_true h2, decide_eq_true h1⟩
      rw [h] at this
      cases this
  exact ⟨key, key⟩
theorem gap_self {N : Net} (o : NetOk N) {x : Nat} (hx : x < N.length) (b : Int) : gapN N b x b x = some (x, 0) := by
  rw [gap_due o hx hx]
  have e : bothL N x x = path N x := by
    unfold bothL
    refine List.filter_eq_self.mpr fun y hy => decide_eq_true hy
  obtain ⟨t, et⟩ := path_head N x
  rw [e, et]
  show some (x, frstOf N b x x - frstOf N b x x) = _
  rw [Int.sub_self]
theorem gap_none_both {N : Net} (o : NetOk N) {x1 x2 : Nat} (h1 : x1 < N.length) (h2 : x2 < N.length) {b1 b2 : Int} : gapN N b1 x1 b2 x2 = none ↔ bothL N x1 x2 = [] := by
  rw [gap_due o h1 h2]
  cases bothL N x1 x2 with
  | nil => exact ⟨fun _ => rfl, fun _ => rfl⟩
  | cons u l => exact ⟨fun h => (by cases h), fun h => (by cases h)⟩
theorem gap_get {N : Net} (o : NetOk N) {x1 x2 m : Nat} {g : Int} (h1 : x1 < N.length) (h2 : x2 < N.length) {b1 b2 : Int} (h : gapN N b1 x1 b2 x2 = some (m, g)) : (bothL N x1 x2).head? = some m ∧ g = frstOf N b2 x2 m - frstOf N b1 x1 m := by
  rw [gap_due o h1 h2] at h
  cases hb : (bothL N x1 x2).head? with
  | none => rw [hb] at h; cases h
  | some u => rw [hb] at h; cases h; exact ⟨rfl, rfl⟩
theorem gap_back {N : Net} (o : NetOk N) {x1 x2 m m' : Nat} {g g' : Int} (h1 : x1 < N.length) (h2 : x2 < N.length) {b1 b2 : Int} (h : gapN N b1 x1 b2 x2 = some (m, g)) (h' : gapN N b2 x2 b1 x1 = some (m', g')) : ∃ laps : Int, g' = 0 - g - laps * lapOf N m := by
  obtain ⟨hb, rfl⟩ := gap_get o h1 h2 h
  obtain ⟨hb', rfl⟩ := gap_get o h2 h1 h'
  obtain ⟨m1, m2⟩ := both_mem hb
  obtain ⟨m2', m1'⟩ := both_mem hb'
  obtain ⟨_, laps, e⟩ := gap_stays o h1 h2 b1 b2 m1 m2 (both_head o h1 hb m1' m2') (idx_get m1')
  have ml : m < N.length := (path_been o h1).lt m m1
  rw [lap_along o h1 ml (goS_path _ _ (idx_get m1))]
  refine ⟨-laps, ?_⟩
  rw [Int.neg_mul]
  omega
/-- the light's own value -/
theorem valV_at {H : Hp} : ∀ {r : List (Key × V)} {L : List Lgt} {i : Nat} {z : Lgt} {v : V}, LtA H r L → (L.map (·.1)).Nodup → L[i]? = some z → r[i]? = some (Sum.inl (z.1 : Int), v) → valV r (Sum.inl (z.1 : Int) : Key) = some v
  | _, _, _, _, _, .nil, _, h, _ => by cases h
  | _, _, 0, _, _, .cons _ _, _, h, h2 => by
    cases h
    cases h2
    exact valV_pos rfl
  | _, _, i + 1, z, v, @LtA.cons _ y w u r l _ t, hn, h, h2 => by
    have hn2 : y ∉ l.map (·.1) ∧ (l.map (·.1)).Nodup := List.nodup_cons.mp hn
    have h3 : l[i]? = some z := by simpa using h
    have hne : ¬ y = z.1 := fun e => hn2.1 (by
      rw [e]
      exact List.mem_map_of_mem (List.mem_of_getElem? h3))
    rw [valV_neg (fun q => hne (by
      have := Sum.inl.inj q
      omega))]
    exact valV_at (i := i) t hn2.2 h3 (by simpa using h2)
end Em

namespace Em
open PySem PySem.Spec PyProof.Rows L2 Qt

/-! ### a flame that goes alone: where it is -/
theorem onWay_lt {N : Net} (o : NetOk N) {b t : Int} {x z : Nat} (hx : x < N.length) (h : OnWay N b x t z) : z < N.length := by
  obtain ⟨j, _, hj, _⟩ := h
  exact (path_been o hx).lt z (List.mem_of_getElem? hj)
theorem frst_ge {N : Net} (o : NetOk N) {x : Nat} (hx : x < N.length) (b : Int) (j : Nat) : b ≤ frst N b x j := by
  unfold frst
  have := sumB_nonneg o (g := (path N x).take j) fun y hy => (path_been o hx).lt y (List.mem_of_mem_take hy)
  omega
theorem onWay_ge {N : Net} (o : NetOk N) {b t : Int} {x z : Nat} (hx : x < N.length) (h : OnWay N b x t z) : b ≤ t := by
  obtain ⟨j, laps, hj, e, h0, _⟩ := h
  have h1 := frst_ge o hx b j
  have h2 : 0 ≤ laps * lapOf N x := Int.mul_nonneg h0 (lap_nonneg o hx)
  omega
theorem onWay_uniq {N : Net} (o : NetOk N) {b t t' : Int} {x z z' : Nat} (hx : x < N.length) (h : OnWay N b x t z) (h' : OnWay N b x t' z') (h1 : t ≤ t') (h2 : t' < t + burnOf N z) : t' = t ∧ z' = z := by
  have e1 := on_place o hx (r := (t, z)) h h1 h2
  have p := burn_pos o (onWay_lt o hx h')
  have e2 := on_place o (a := t') hx (r := (t', z')) h' (Int.le_refl _) (by show t' < t' + burnOf N z'; omega)
  rw [e1] at e2
  have e3 : (z, t' - t) = (z', t' - t') := Option.some.inj e2
  have e4 := congrArg Prod.fst e3
  have e5 := congrArg Prod.snd e3
  simp only at e4 e5
  exact ⟨by omega, e4.symm⟩
theorem onWay_prev {N : Net} (o : NetOk N) {b t : Int} {x y : Nat} (hx : x < N.length) (h : OnWay N b x t y) : (t = b ∧ y = x) ∨ ∃ z t0, OnWay N b x t0 z ∧ nxt N z = some y ∧ t = t0 + burnOf N z := by
  obtain ⟨j, laps, hj, e, h0, hc⟩ := h
  have hjl := (List.getElem?_eq_some_iff.mp hj).1
  have step : ∀ i l, i + 1 = j → (l = 0 ∨ cutN N x ≤ i) → l = laps → ∃ z t0, OnWay N b x t0 z ∧ nxt N z = some y ∧ t = t0 + burnOf N z := fun i l hi hl el => by
    subst el
    have hz : (path N x)[i]? = some ((path N x)[i]'(by omega)) := List.getElem?_eq_getElem _
    refine ⟨_, frst N b x i + l * lapOf N x, ⟨i, l, hz, rfl, h0, hl⟩, ?_, ?_⟩
    · exact path_chain (N := N) (x := x) N.length i _ y hz (by rw [hi]; exact hj)
    · have : frst N b x j = frst N b x i + burnOf N ((path N x)[i]'(by omega)) := by
        have q := take_succ_sum N hz
        rw [hi] at q
        unfold frst
        omega
      omega
  by_cases hl : laps = 0
  · subst hl
    by_cases hj0 : j = 0
    · subst hj0
      obtain ⟨g, eg⟩ := path_head N x
      rw [eg] at hj
      left
      refine ⟨?_, (Option.some.inj hj).symm⟩
      rw [e]
      show b + 0 + 0 * lapOf N x = b
      rw [Int.zero_mul]; omega
    · exact .inr (step (j - 1) 0 (by omega) (.inl rfl) rfl)
  · have hcj : cutN N x ≤ j := by rcases hc with z | z <;> omega
    by_cases hjc : j = cutN N x
    · right
      subst hjc
      have hz : (path N x)[(path N x).length - 1]? = some ((path N x)[(path N x).length - 1]'(by omega)) := List.getElem?_eq_getElem _
      have lp := lap_frst o hx b
      have hf : frst N b x (path N x).length = frst N b x ((path N x).length - 1) + burnOf N ((path N x)[(path N x).length - 1]'(by omega)) := by
        unfold frst
        have := take_succ_sum N hz
        rw [show (path N x).length - 1 + 1 = (path N x).length by omega] at this
        omega
      refine ⟨_, frst N b x ((path N x).length - 1) + (laps - 1) * lapOf N x, ⟨_, laps - 1, hz, rfl, by omega, .inr (by omega)⟩, ?_, ?_⟩
      · rcases next_at o hx hz with ⟨h1, h2, h3⟩ | ⟨u, h1, h2⟩ | ⟨u, h1, h2, h3⟩
        · omega
        · have := (List.getElem?_eq_some_iff.mp h2).1
          omega
        · rw [h1, ← hj, h3]
      · rw [Int.sub_mul, Int.one_mul]
        omega
    · exact .inr (step (j - 1) laps (by omega) (.inr (by omega)) rfl)

/-! ### kindlings, and the walk beat by beat -/
abbrev Kds := List (Nat × Nat)
def KdsOk (N : Net) (ks : Kds) : Prop := ∀ p ∈ ks, p.2 < N.length
def On (N : Net) (ks : Kds) (f : Nat) (t : Int) (z : Nat) : Prop := ∃ p, ks[f]? = some p ∧ OnWay N (p.1 : Nat) p.2 t z
section
variable {N : Net} {ks : Kds}
theorem On.lt (o : NetOk N) (hk : KdsOk N ks) {f z : Nat} {t : Int} (h : On N ks f t z) : z < N.length := by
  obtain ⟨p, hp, h⟩ := h
  exact onWay_lt o (hk p (List.mem_of_getElem? hp)) h
theorem On.nonneg (o : NetOk N) (hk : KdsOk N ks) {f z : Nat} {t : Int} (h : On N ks f t z) : 0 ≤ t := by
  obtain ⟨p, hp, h⟩ := h
  have := onWay_ge o (hk p (List.mem_of_getElem? hp)) h
  omega
theorem On.uniq (o : NetOk N) (hk : KdsOk N ks) {f z z' : Nat} {t t' : Int} (h : On N ks f t z) (h' : On N ks f t' z') (h1 : t ≤ t') (h2 : t' < t + burnOf N z) : t' = t ∧ z' = z := by
  obtain ⟨p, hp, h⟩ := h
  obtain ⟨p', hp', h'⟩ := h'
  rw [hp] at hp'
  cases hp'
  exact onWay_uniq o (hk p (List.mem_of_getElem? hp)) h h' h1 h2
theorem On.same (o : NetOk N) (hk : KdsOk N ks) {f z z' : Nat} {t : Int} (h : On N ks f t z) (h' : On N ks f t z') : z' = z :=
  (On.uniq o hk h h' (Int.le_refl _) (by have := burn_pos o (h.lt o hk); omega)).2
/-- at one beat it burns in one lamp alone -/
theorem On.burn (o : NetOk N) (hk : KdsOk N ks) {f z z' : Nat} {t t' a : Int} (h : On N ks f t z) (h' : On N ks f t' z') (h1 : t ≤ a) (h2 : a < t + burnOf N z) (h3 : t' ≤ a) (h4 : a < t' + burnOf N z') : t' = t ∧ z' = z := by
  rcases Int.le_total t t' with q | q
  · exact On.uniq o hk h h' q (by omega)
  · obtain ⟨e1, e2⟩ := On.uniq o hk h' h q (by omega)
    exact ⟨e1.symm, e2.symm⟩
def waitK (ks : Kds) (t : Nat) : List (Nat × Nat) := (List.range ks.length).filterMap fun f => (ks[f]?).bind fun p => if p.1 = t then some (f, p.2) else none
theorem wait_mem {t : Nat} {q : Nat × Nat} : q ∈ waitK ks t ↔ ks[q.1]? = some (t, q.2) := by
  unfold waitK
  rw [List.mem_filterMap]
  constructor
  · rintro ⟨f, hf, h⟩
    cases hp : ks[f]? with
    | none => rw [hp] at h; cases h
    | some p =>
      rw [hp] at h
      simp only [Option.bind_some] at h
      by_cases e : p.1 = t
      · rw [if_pos e] at h
        cases h
        rw [hp, ← e]
      · rw [if_neg e] at h; cases h
  · intro h
    refine ⟨q.1, List.mem_range.mpr (List.getElem?_eq_some_iff.mp h).1, ?_⟩
    rw [h]
    simp
theorem wait_lt (hk : KdsOk N ks) {t : Nat} : ∀ q ∈ waitK ks t, q.2 < N.length := fun q hq => hk (t, q.2) (List.mem_of_getElem? (wait_mem.mp hq))
def stW (N : Net) (ks : Kds) : Nat → List Lt
  | 0 => List.replicate N.length none
  | t + 1 => (beatA N t (stW N ks t) (waitK ks t)).L
def rowsW (N : Net) (ks : Kds) (t : Nat) : List Row := (beatA N t (stW N ks t) (waitK ks t)).rows
theorem stW_len (o : NetOk N) (hk : KdsOk N ks) : ∀ t, (stW N ks t).length = N.length
  | 0 => List.length_replicate
  | t + 1 => (beat_at o (stW_len o hk t) (wait_lt hk)).1
def LostAt (N : Net) (ks : Kds) (t x f g : Nat) : Prop := Row.lost t x f g ∈ rowsW N ks t
def Alive (N : Net) (ks : Kds) (f t : Nat) : Prop := ∀ t', t' < t → ∀ x g, ¬ LostAt N ks t' x f g
theorem Alive.mono {f t t' : Nat} (h : Alive N ks f t) (l : t' ≤ t) : Alive N ks f t' := fun u hu => h u (by omega)
theorem Alive.next {f t : Nat} (h : Alive N ks f t) (h2 : ∀ x g, ¬ LostAt N ks t x f g) : Alive N ks f (t + 1) := fun u hu => by
  by_cases e : u = t
  · subst e; exact h2
  · exact h u (by omega)
/-- what burns ahead of a beat -/
structure InvW (N : Net) (ks : Kds) (t : Nat) : Prop where
  at_ : ∀ x f t0, (stW N ks t).getD x none = some (f, t0) ↔ t0 < t ∧ (t : Int) ≤ (t0 : Int) + burnOf N x ∧ On N ks f t0 x ∧ Alive N ks f t
  lo : ∀ t' x f g, t' < t → LostAt N ks t' x f g → On N ks f t' x
/-- it burns on at this beat -/
def Stay (N : Net) (ks : Kds) (t x g t0 : Nat) : Prop := On N ks g t0 x ∧ t0 < t ∧ (t : Int) < (t0 : Int) + burnOf N x ∧ Alive N ks g t
/-- those that come to a lamp now -/
def cmW (N : Net) (ks : Kds) (t x : Nat) : List Nat := comeL N t (stW N ks t) (waitK ks t) x
variable {t : Nat}
theorem out_iff (o : NetOk N) (hk : KdsOk N ks) (I : InvW N ks t) {x f : Nat} : outB N t (stW N ks t) x = some f ↔ ∃ t0 : Nat, t0 < t ∧ (t : Int) = (t0 : Int) + burnOf N x ∧ On N ks f t0 x ∧ Alive N ks f t := by
  unfold outB
  constructor
  · intro h
    cases e : (stW N ks t).getD x none with
    | none => rw [e] at h; cases h
    | some q =>
      obtain ⟨g, t0⟩ := q
      rw [e] at h
      simp only at h
      obtain ⟨h1, h2, h3, h4⟩ := (I.at_ x g t0).mp e
      by_cases hb : (t : Int) < (t0 : Int) + burnOf N x
      · rw [if_pos hb] at h; cases h
      · rw [if_neg hb] at h
        cases h
        exact ⟨t0, h1, by omega, h3, h4⟩
  · rintro ⟨t0, h1, h2, h3, h4⟩
    rw [(I.at_ x f t0).mpr ⟨h1, by omega, h3, h4⟩]
    simp only
    rw [if_neg (by omega)]
theorem left_iff (o : NetOk N) (hk : KdsOk N ks) (I : InvW N ks t) {x g t0 : Nat} : leftB N t (stW N ks t) x = some (g, t0) ↔ Stay N ks t x g t0 := by
  unfold leftB
  constructor
  · intro h
    cases e : outB N t (stW N ks t) x with
    | some f => rw [e] at h; cases h
    | none =>
      rw [e] at h
      simp only at h
      obtain ⟨h1, h2, h3, h4⟩ := (I.at_ x g t0).mp h
      refine ⟨h3, h1, ?_, h4⟩
      unfold outB at e
      rw [h] at e
      simp only at e
      by_cases hb : (t : Int) < (t0 : Int) + burnOf N x
      · exact hb
      · rw [if_neg hb] at e; cases e
  · rintro ⟨h1, h2, h3, h4⟩
    have hs := (I.at_ x g t0).mpr ⟨h2, by omega, h1, h4⟩
    have : outB N t (stW N ks t) x = none := by
      unfold outB
      rw [hs]
      simp only
      rw [if_pos h3]
    rw [this]
    exact hs
theorem new_mem {W : List (Nat × Nat)} {x f : Nat} : f ∈ newL W x ↔ (f, x) ∈ W := by
  unfold newL
  rw [List.mem_map]
  constructor
  · rintro ⟨p, hp, rfl⟩
    obtain ⟨h1, h2⟩ := List.mem_filter.mp hp
    have h3 : p.2 = x := of_decide_eq_true h2
    rw [← h3]
    exact h1
  · intro h
    exact ⟨(f, x), List.mem_filter.mpr ⟨h, by simp⟩, rfl⟩
theorem cm_iff (o : NetOk N) (hk : KdsOk N ks) (I : InvW N ks t) {x f : Nat} : f ∈ cmW N ks t x ↔ On N ks f t x ∧ Alive N ks f t := by
  unfold cmW comeL
  rw [List.mem_append, new_mem, wait_mem]
  unfold cameL
  rw [List.mem_filterMap]
  constructor
  · rintro (⟨j, hj, h⟩ | h)
    · unfold cameB at h
      cases e : outB N t (stW N ks t) j with
      | none => rw [e] at h; cases h
      | some g =>
        rw [e] at h
        simp only [Option.bind_some] at h
        by_cases hn : nxt N j = some x
        · rw [if_pos hn] at h
          cases h
          obtain ⟨t0, h1, h2, h3, h4⟩ := (out_iff o hk I).mp e
          refine ⟨?_, h4⟩
          obtain ⟨p, hp, h3⟩ := h3
          rcases onWay_next o (hk p (List.mem_of_getElem? hp)) h3 with ⟨q, _, _⟩ | ⟨y, q1, q2⟩
          · rw [hn] at q; cases q
          · rw [hn] at q1
            cases q1
            rw [← h2] at q2
            exact ⟨p, hp, q2⟩
        · rw [if_neg hn] at h; cases h
    · refine ⟨⟨(t, x), h, onWay_start _ _⟩, fun t' ht' y g hl => ?_⟩
      -- one that is not kindled yet is not lost
      obtain ⟨p, hp, q⟩ := I.lo t' y f g ht' hl
      rw [h] at hp
      cases hp
      have := onWay_ge o (hk _ (List.mem_of_getElem? h)) q
      omega
  · rintro ⟨⟨p, hp, h⟩, ha⟩
    rcases onWay_prev o (hk p (List.mem_of_getElem? hp)) h with ⟨h1, h2⟩ | ⟨z, t0, h1, h2, h3⟩
    · right
      rw [hp]
      have : p.1 = t := by omega
      rw [h2, ← this]
    · left
      have hz := onWay_lt o (hk p (List.mem_of_getElem? hp)) h1
      have hbz := burn_pos o hz
      have hg := onWay_ge o (hk p (List.mem_of_getElem? hp)) h1
      obtain ⟨u, rfl⟩ := Int.eq_ofNat_of_zero_le (show 0 ≤ t0 by omega)
      have : outB N t (stW N ks t) z = some f := (out_iff o hk I).mpr ⟨u, by omega, h3, ⟨p, hp, h1⟩, ha⟩
      refine ⟨z, List.mem_range.mpr hz, ?_⟩
      unfold cameB
      rw [this]
      simp only [Option.bind_some]
      rw [if_pos h2]
theorem cm_nd (o : NetOk N) (hk : KdsOk N ks) (I : InvW N ks t) (x : Nat) : (cmW N ks t x).Nodup := by
  unfold cmW comeL
  rw [List.nodup_append]
  refine ⟨?_, ?_, fun f hf g hg e => ?_⟩
  · unfold cameL
    refine List.Pairwise.filterMap (R := fun i j => i ≠ j) _ (fun i j hij f hf g hg e => ?_) List.nodup_range
    subst e
    have out : ∀ k, cameB N t (stW N ks t) x k = some f → outB N t (stW N ks t) k = some f := fun k h => by
      unfold cameB at h
      cases e : outB N t (stW N ks t) k with
      | none => rw [e] at h; cases h
      | some g =>
        rw [e] at h
        simp only [Option.bind_some] at h
        by_cases hn : nxt N k = some x
        · rw [if_pos hn] at h; exact h
        · rw [if_neg hn] at h; cases h
    obtain ⟨t1, a1, a2, a3, _⟩ := (out_iff o hk I).mp (out i hf)
    obtain ⟨t2, b1, b2, b3, _⟩ := (out_iff o hk I).mp (out j hg)
    have := On.burn o hk a3 b3 (a := (t : Int) - 1) (by omega) (by omega) (by omega) (by omega)
    exact hij this.2.symm
  · unfold newL
    rw [List.nodup_iff_pairwise_ne, List.pairwise_map]
    refine List.Pairwise.filter _ ?_
    unfold waitK
    refine List.Pairwise.filterMap (R := fun i j => i ≠ j) (S := fun a b : Nat × Nat => a.1 ≠ b.1) _ (fun i j hij p hp q hq => fun e => hij ?_) List.nodup_range
    have key : ∀ (f : Nat) (p : Nat × Nat), ((ks[f]?).bind fun p => if p.1 = t then some (f, p.2) else none) = some p → p.1 = f := fun f p h => by
      cases hp : ks[f]? with
      | none => rw [hp] at h; cases h
      | some p =>
        rw [hp] at h
        simp only [Option.bind_some] at h
        by_cases e : p.1 = t
        · rw [if_pos e] at h; cases h; rfl
        · rw [if_neg e] at h; cases h
    rw [← key i p hp, ← key j q hq, e]
  · subst e
    rw [new_mem, wait_mem] at hg
    unfold cameL at hf
    rw [List.mem_filterMap] at hf
    obtain ⟨j, _, h⟩ := hf
    unfold cameB at h
    cases e : outB N t (stW N ks t) j with
    | none => rw [e] at h; cases h
    | some g =>
      rw [e] at h
      simp only [Option.bind_some] at h
      by_cases hn : nxt N j = some x
      · rw [if_pos hn] at h
        cases h
        obtain ⟨t0, h1, h2, ⟨p, hp, h3⟩, h4⟩ := (out_iff o hk I).mp e
        rw [hg] at hp
        cases hp
        have := onWay_ge o (hk _ (List.mem_of_getElem? hg)) h3
        omega
      · rw [if_neg hn] at h; cases h
/-! ### the rows of a beat -/
theorem row_cases (o : NetOk N) (hk : KdsOk N ks) {r : Row} : r ∈ rowsW N ks t ↔ r ∈ overL N t (stW N ks t) N.length ∨ ∃ x, x < N.length ∧ r ∈ (metB N t (stW N ks t) (waitK ks t) x).2 := by
  unfold rowsW
  rw [(beat_at o (stW_len o hk t) (wait_lt hk)).2.2, List.mem_append, List.mem_flatten]
  constructor
  · rintro (h | ⟨l, h1, h2⟩)
    · exact .inl h
    · obtain ⟨x, hx, rfl⟩ := List.mem_map.mp h1
      exact .inr ⟨x, List.mem_range.mp hx, h2⟩
  · rintro (h | ⟨x, hx, h2⟩)
    · exact .inl h
    · exact .inr ⟨_, List.mem_map.mpr ⟨x, List.mem_range.mpr hx, rfl⟩, h2⟩
theorem over_is {r : Row} (h : r ∈ overL N t (stW N ks t) N.length) : ∃ x f, x < N.length ∧ r = .ended t x f ∧ nxt N x = none ∧ outB N t (stW N ks t) x = some f := by
  unfold overL at h
  obtain ⟨x, hx, e⟩ := List.mem_filterMap.mp h
  unfold overB at e
  cases q : outB N t (stW N ks t) x with
  | none => rw [q] at e; cases e
  | some f =>
    rw [q] at e
    simp only [Option.bind_some] at e
    by_cases hn : nxt N x = none
    · rw [if_pos hn] at e
      cases e
      exact ⟨x, f, List.mem_range.mp hx, rfl, hn, q⟩
    · rw [if_neg hn] at e; cases e
theorem meet_lost {b k k' f g : Nat} {l : Lt} {fs : List Nat} : Row.lost b k' f g ∈ (meet b k l fs).2 ↔ k' = k ∧ ((∃ t0, l = some (g, t0) ∧ f ∈ fs) ∨ (l = none ∧ ∃ r, fs = g :: r ∧ f ∈ r)) := by
  cases l with
  | some p =>
    obtain ⟨h, t0⟩ := p
    show Row.lost b k' f g ∈ fs.map _ ↔ _
    rw [List.mem_map]
    constructor
    · rintro ⟨u, hu, e⟩
      cases e
      exact ⟨rfl, .inl ⟨t0, rfl, hu⟩⟩
    · rintro ⟨rfl, ⟨t1, e, hf⟩ | ⟨e, _⟩⟩
      · cases e; exact ⟨f, hf, rfl⟩
      · cases e
  | none =>
    cases fs with
    | nil =>
      constructor
      · intro h; cases h
      · rintro ⟨_, ⟨t1, e, hf⟩ | ⟨_, r, e, _⟩⟩
        · cases e
        · cases e
    | cons m r =>
      show Row.lost b k' f g ∈ Row.lit b k m :: r.map _ ↔ _
      rw [List.mem_cons, List.mem_map]
      constructor
      · rintro (h | ⟨u, hu, e⟩)
        · cases h
        · cases e
          exact ⟨rfl, .inr ⟨rfl, r, rfl, hu⟩⟩
      · rintro ⟨rfl, ⟨t1, e, hf⟩ | ⟨_, r', e, hf⟩⟩
        · cases e
        · cases e
          exact .inr ⟨f, hf, rfl⟩
theorem lost_iff (o : NetOk N) (hk : KdsOk N ks) {x f g : Nat} : LostAt N ks t x f g ↔ x < N.length ∧ ((∃ t0, leftB N t (stW N ks t) x = some (g, t0) ∧ f ∈ cmW N ks t x) ∨ (leftB N t (stW N ks t) x = none ∧ ∃ r, srt (cmW N ks t x) = g :: r ∧ f ∈ r)) := by
  unfold LostAt
  rw [row_cases o hk]
  constructor
  · rintro (h | ⟨k, hk, h⟩)
    · obtain ⟨_, _, _, e, _⟩ := over_is h
      cases e
    · unfold metB at h
      rw [meet_lost] at h
      obtain ⟨rfl, h⟩ := h
      refine ⟨hk, ?_⟩
      rcases h with ⟨t0, h1, h2⟩ | h
      · exact .inl ⟨t0, h1, (srt_perm _).mem_iff.mp h2⟩
      · exact .inr h
  · rintro ⟨hx, h⟩
    refine .inr ⟨x, hx, ?_⟩
    unfold metB
    rw [meet_lost]
    refine ⟨rfl, ?_⟩
    rcases h with ⟨t0, h1, h2⟩ | h
    · exact .inl ⟨t0, h1, (srt_perm _).mem_iff.mpr h2⟩
    · exact .inr h
theorem srt_head {g : List Nat} {m : Nat} {r : List Nat} (h : srt g = m :: r) : m ∈ g ∧ (∀ f ∈ g, m ≤ f) ∧ (∀ f, f ∈ g ↔ f = m ∨ f ∈ r) := by
  have hp := srt_perm g
  rw [h] at hp
  have hu := srt_up g
  rw [h, List.pairwise_cons] at hu
  have key : ∀ f, f ∈ g ↔ f = m ∨ f ∈ r := fun f => by rw [← hp.mem_iff, List.mem_cons]
  refine ⟨(key m).mpr (.inl rfl), fun f hf => ?_, key⟩
  rcases (key f).mp hf with e | e
  · omega
  · exact hu.1 f e
theorem srt_tail_ne {g : List Nat} {m : Nat} {r : List Nat} (hn : g.Nodup) (h : srt g = m :: r) : m ∉ r := by
  have hp := (srt_perm g).nodup_iff.mpr hn
  rw [h, List.nodup_cons] at hp
  exact hp.1
/-- the flame that lights a dark lamp -/
def Best (N : Net) (ks : Kds) (t x m : Nat) : Prop := On N ks m t x ∧ Alive N ks m t ∧ ∀ f, On N ks f t x → Alive N ks f t → m ≤ f
def Held (N : Net) (ks : Kds) (t x : Nat) : Prop := ∃ g t0, Stay N ks t x g t0
/-- who is lost at a beat: one that comes where another one burns on, or lights just now -/
theorem lost_sem (o : NetOk N) (hk : KdsOk N ks) (I : InvW N ks t) {x f g : Nat} : LostAt N ks t x f g ↔ On N ks f t x ∧ Alive N ks f t ∧ ((∃ t0, Stay N ks t x g t0) ∨ (¬ Held N ks t x ∧ Best N ks t x g ∧ g ≠ f)) := by
  rw [lost_iff o hk]
  have hnone : leftB N t (stW N ks t) x = none ↔ ¬ Held N ks t x := by
    constructor
    · rintro h ⟨g, t0, hs⟩
      rw [(left_iff o hk I).mpr hs] at h
      cases h
    · intro h
      cases e : leftB N t (stW N ks t) x with
      | none => rfl
      | some p => exact absurd ⟨p.1, p.2, (left_iff o hk I).mp e⟩ h
  constructor
  · rintro ⟨hx, ⟨t0, h1, h2⟩ | ⟨h1, r, h2, h3⟩⟩
    · obtain ⟨a, b⟩ := (cm_iff o hk I).mp h2
      exact ⟨a, b, .inl ⟨t0, (left_iff o hk I).mp h1⟩⟩
    · obtain ⟨q1, q2, q3⟩ := srt_head h2
      obtain ⟨a, b⟩ := (cm_iff o hk I).mp ((q3 f).mpr (.inr h3))
      obtain ⟨a', b'⟩ := (cm_iff o hk I).mp q1
      refine ⟨a, b, .inr ⟨hnone.mp h1, ⟨a', b', fun u hu hv => q2 u ((cm_iff o hk I).mpr ⟨hu, hv⟩)⟩, fun e => ?_⟩⟩
      exact srt_tail_ne (cm_nd o hk I x) h2 (e ▸ h3)
  · rintro ⟨h1, h2, h3⟩
    have hf := (cm_iff o hk I).mpr ⟨h1, h2⟩
    refine ⟨h1.lt o hk, ?_⟩
    rcases h3 with ⟨t0, h⟩ | ⟨h4, ⟨h5, h6, h7⟩, h8⟩
    · exact .inl ⟨t0, (left_iff o hk I).mpr h, hf⟩
    · refine .inr ⟨hnone.mpr h4, ?_⟩
      cases e : srt (cmW N ks t x) with
      | nil =>
        have := srt_perm (cmW N ks t x)
        rw [e] at this
        rw [← this.mem_iff] at hf
        cases hf
      | cons m r =>
        obtain ⟨q1, q2, q3⟩ := srt_head e
        obtain ⟨a', b'⟩ := (cm_iff o hk I).mp q1
        have e1 := h7 m a' b'
        have e2 := q2 g ((cm_iff o hk I).mpr ⟨h5, h6⟩)
        have : m = g := by omega
        subst this
        rcases (q3 f).mp hf with z | z
        · exact absurd z.symm h8
        · exact ⟨r, rfl, z⟩
/-- what burns behind a beat -/
theorem next_st (o : NetOk N) (hk : KdsOk N ks) (I : InvW N ks t) {x f t0 : Nat} (hx : x < N.length) : (stW N ks (t + 1)).getD x none = some (f, t0) ↔ Stay N ks t x f t0 ∨ (¬ Held N ks t x ∧ Best N ks t x f ∧ t0 = t) := by
  have hnone : leftB N t (stW N ks t) x = none ↔ ¬ Held N ks t x := by
    constructor
    · rintro h ⟨g, t0, hs⟩
      rw [(left_iff o hk I).mpr hs] at h
      cases h
    · intro h
      cases e : leftB N t (stW N ks t) x with
      | none => rfl
      | some p => exact absurd ⟨p.1, p.2, (left_iff o hk I).mp e⟩ h
  show (beatA N t (stW N ks t) (waitK ks t)).L.getD x none = _ ↔ _
  rw [(beat_at o (stW_len o hk t) (wait_lt hk)).2.1 x hx]
  unfold metB
  cases e : leftB N t (stW N ks t) x with
  | some p =>
    obtain ⟨g, u⟩ := p
    have hs := (left_iff o hk I).mp e
    show some (g, u) = some (f, t0) ↔ _
    constructor
    · intro h
      cases h
      exact .inl hs
    · rintro (h | ⟨h, _⟩)
      · have := (left_iff o hk I).mpr h
        rw [e] at this
        exact this
      · exact absurd ⟨g, u, hs⟩ h
  | none =>
    have hn := hnone.mp e
    cases e2 : srt (comeL N t (stW N ks t) (waitK ks t) x) with
    | nil =>
      show none = some (f, t0) ↔ _
      constructor
      · intro h; cases h
      · rintro (h | ⟨_, ⟨h1, h2, _⟩, _⟩)
        · exact absurd ⟨f, t0, h⟩ hn
        · have hf := (cm_iff o hk I).mpr ⟨h1, h2⟩
          have := srt_perm (cmW N ks t x)
          rw [show srt (cmW N ks t x) = [] from e2] at this
          rw [← this.mem_iff] at hf
          cases hf
    | cons m r =>
      obtain ⟨q1, q2, q3⟩ := srt_head (g := cmW N ks t x) e2
      obtain ⟨a', b'⟩ := (cm_iff o hk I).mp q1
      show some (m, t) = some (f, t0) ↔ _
      constructor
      · intro h
        cases h
        exact .inr ⟨hn, ⟨a', b', fun u hu hv => q2 u ((cm_iff o hk I).mpr ⟨hu, hv⟩)⟩, rfl⟩
      · rintro (h | ⟨_, ⟨h1, h2, h3⟩, rfl⟩)
        · exact absurd ⟨f, t0, h⟩ hn
        · have e1 := h3 m a' b'
          have e4 := q2 f ((cm_iff o hk I).mpr ⟨h1, h2⟩)
          have : m = f := by omega
          rw [this]
theorem inv_step (o : NetOk N) (hk : KdsOk N ks) (I : InvW N ks t) : InvW N ks (t + 1) := by
  refine ⟨fun x f t0 => ?_, fun t' x f g ht hl => ?_⟩
  · by_cases hx : x < N.length
    · rw [next_st o hk I hx]
      constructor
      · rintro (⟨h1, h2, h3, h4⟩ | ⟨h1, ⟨h2, h3, h4⟩, rfl⟩)
        · refine ⟨by omega, by omega, h1, h4.next fun y g hl => ?_⟩
          obtain ⟨q1, q2, q3⟩ := (lost_sem o hk I).mp hl
          have := On.uniq o hk h1 q1 (by omega) h3
          omega
        · have hb := burn_pos o hx
          refine ⟨by omega, by omega, h2, h3.next fun y g hl => ?_⟩
          obtain ⟨q1, q2, q3⟩ := (lost_sem o hk I).mp hl
          have e := On.same o hk h2 q1
          subst e
          rcases q3 with ⟨t1, q3⟩ | ⟨_, q3, q4⟩
          · exact h1 ⟨g, t1, q3⟩
          · have e1 := h4 g q3.1 q3.2.1
            have e2 := q3.2.2 f h2 h3
            omega
      · rintro ⟨h1, h2, h3, h4⟩
        by_cases e : t0 = t
        · subst e
          right
          have ha : Alive N ks f t0 := h4.mono (Nat.le_succ _)
          have hnl := h4 t0 (Nat.lt_succ_self _)
          have hh : ¬ Held N ks t0 x := fun ⟨g, u, hs⟩ => hnl x g ((lost_sem o hk I).mpr ⟨h3, ha, .inl ⟨u, hs⟩⟩)
          refine ⟨hh, ⟨h3, ha, fun u hu hv => ?_⟩, rfl⟩
          -- the least of those that come
          rcases Nat.lt_or_ge u f with q | q
          · exfalso
            have hne : cmW N ks t0 x ≠ [] := fun z => by
              have := (cm_iff o hk I).mpr ⟨hu, hv⟩
              rw [z] at this
              cases this
            cases e2 : srt (cmW N ks t0 x) with
            | nil =>
              have := srt_perm (cmW N ks t0 x)
              rw [e2] at this
              exact hne this.symm.eq_nil
            | cons m r =>
              obtain ⟨q1, q2, q3⟩ := srt_head e2
              obtain ⟨a', b'⟩ := (cm_iff o hk I).mp q1
              have := q2 u ((cm_iff o hk I).mpr ⟨hu, hv⟩)
              exact hnl x m ((lost_sem o hk I).mpr ⟨h3, ha, .inr ⟨hh, ⟨a', b', fun v hv1 hv2 => q2 v ((cm_iff o hk I).mpr ⟨hv1, hv2⟩)⟩, by omega⟩⟩)
          · exact q
        · exact .inl ⟨h3, by omega, by omega, h4.mono (Nat.le_succ _)⟩
    · constructor
      · intro h
        rw [List.getD_eq_getElem?_getD, List.getElem?_eq_none (by rw [stW_len o hk]; omega)] at h
        cases h
      · rintro ⟨_, _, h, _⟩
        exact absurd (h.lt o hk) hx
  · by_cases e : t' = t
    · subst e
      exact ((lost_sem o hk I).mp hl).1
    · exact I.lo t' x f g (by omega) hl
theorem inv_all (o : NetOk N) (hk : KdsOk N ks) : ∀ t, InvW N ks t
  | 0 => ⟨fun x f t0 => by
      constructor
      · intro h
        rw [show stW N ks 0 = List.replicate N.length none from rfl, List.getD_eq_getElem?_getD, List.getElem?_replicate] at h
        split at h <;> cases h
      · rintro ⟨h, _⟩
        omega, fun t' x f g h => by omega⟩
  | t + 1 => inv_step o hk (inv_all o hk t)
end
end Em

namespace Em
open PySem PySem.Spec PyProof.Rows L2 Qt

/-! ### two flames that clash, each going as if alone -/
def Cl (N : Net) (ks : Kds) (b : Int) (x f g : Nat) : Prop := f ≠ g ∧ On N ks f b x ∧ ((On N ks g b x ∧ g < f) ∨ ∃ t0, On N ks g t0 x ∧ t0 < b ∧ b < t0 + burnOf N x)
/-- their first clash -/
def FC (N : Net) (ks : Kds) (b : Int) (x f g : Nat) : Prop := Cl N ks b x f g ∧ ∀ b' x', b' < b → ¬ Cl N ks b' x' f g ∧ ¬ Cl N ks b' x' g f
section
variable {N : Net} {ks : Kds}
theorem Cl.nonneg (o : NetOk N) (hk : KdsOk N ks) {b : Int} {x f g : Nat} (h : Cl N ks b x f g) : 0 ≤ b := h.2.1.nonneg o hk
theorem best_has (o : NetOk N) (hk : KdsOk N ks) {t x f : Nat} (h1 : On N ks f t x) (h2 : Alive N ks f t) : ∃ m, Best N ks t x m ∧ m ≤ f := by
  have I := inv_all o hk t
  have hf := (cm_iff o hk I).mpr ⟨h1, h2⟩
  cases e : srt (cmW N ks t x) with
  | nil =>
    have := srt_perm (cmW N ks t x)
    rw [e] at this
    rw [← this.mem_iff] at hf
    cases hf
  | cons m r =>
    obtain ⟨q1, q2, q3⟩ := srt_head e
    obtain ⟨a', b'⟩ := (cm_iff o hk I).mp q1
    exact ⟨m, ⟨a', b', fun u hu hv => q2 u ((cm_iff o hk I).mpr ⟨hu, hv⟩)⟩, q2 f hf⟩
/-- where two clash that were not lost ahead, the one is lost to the other, or the other one is lost just there -/
theorem clash_sharp (o : NetOk N) (hk : KdsOk N ks) {t x u v : Nat} (h : Cl N ks t x u v) (hu : Alive N ks u t) (hv : Alive N ks v t) : LostAt N ks t x u v ∨ ∃ h, LostAt N ks t x v h ∧ v < u := by
  have I := inv_all o hk t
  obtain ⟨hne, h1, ⟨h2, h3⟩ | ⟨t0, h2, h3, h4⟩⟩ := h
  · by_cases hh : Held N ks t x
    · obtain ⟨g, t0, hs⟩ := hh
      exact .inr ⟨g, (lost_sem o hk I).mpr ⟨h2, hv, .inl ⟨t0, hs⟩⟩, h3⟩
    · obtain ⟨m, hm, hmv⟩ := best_has o hk h2 hv
      by_cases e : m = v
      · subst e
        exact .inl ((lost_sem o hk I).mpr ⟨h1, hu, .inr ⟨hh, hm, by omega⟩⟩)
      · exact .inr ⟨m, (lost_sem o hk I).mpr ⟨h2, hv, .inr ⟨hh, hm, e⟩⟩, h3⟩
  · have := h2.nonneg o hk
    obtain ⟨u0, rfl⟩ := Int.eq_ofNat_of_zero_le this
    exact .inl ((lost_sem o hk I).mpr ⟨h1, hu, .inl ⟨u0, h2, by omega, h4, hv⟩⟩)
theorem lost_cl (o : NetOk N) (hk : KdsOk N ks) {t x f g : Nat} (h : LostAt N ks t x f g) : Cl N ks t x f g ∧ Alive N ks f t ∧ Alive N ks g t := by
  have I := inv_all o hk t
  obtain ⟨h1, h2, ⟨t0, a1, a2, a3, a4⟩ | ⟨h3, h4, h5⟩⟩ := (lost_sem o hk I).mp h
  · refine ⟨⟨fun e => ?_, h1, .inr ⟨t0, a1, by omega, a3⟩⟩, h2, a4⟩
    subst e
    have := On.uniq o hk a1 h1 (by omega) a3
    omega
  · have := h4.2.2 f h1 h2
    exact ⟨⟨fun e => h5 e.symm, h1, .inl ⟨h4.1, by omega⟩⟩, h2, h4.2.1⟩
/-- the other one goes on -/
theorem lost_goes (o : NetOk N) (hk : KdsOk N ks) {t x f g : Nat} (h : LostAt N ks t x f g) : ∀ y h, ¬ LostAt N ks t y g h := by
  intro y u hl
  have I := inv_all o hk t
  obtain ⟨q1, q2, q3⟩ := (lost_sem o hk I).mp hl
  obtain ⟨h1, h2, ⟨t0, a1, a2, a3, a4⟩ | ⟨h3, h4, h5⟩⟩ := (lost_sem o hk I).mp h
  · have := On.uniq o hk a1 q1 (by omega) a3
    omega
  · have e := On.same o hk h4.1 q1
    subst e
    rcases q3 with ⟨t0, q3⟩ | ⟨_, q4, q5⟩
    · exact h3 ⟨u, t0, q3⟩
    · have e1 := h4.2.2 u q4.1 q4.2.1
      have e2 := q4.2.2 g h4.1 h4.2.1
      omega
theorem lost_fc (o : NetOk N) (hk : KdsOk N ks) {t x f g : Nat} (h : LostAt N ks t x f g) : FC N ks t x f g := by
  obtain ⟨hc, hf, hg⟩ := lost_cl o hk h
  refine ⟨hc, fun b' x' hb => ⟨fun z => ?_, fun z => ?_⟩⟩
  · obtain ⟨s, rfl⟩ := Int.eq_ofNat_of_zero_le (z.nonneg o hk)
    have hs : s < t := by omega
    rcases clash_sharp o hk z (hf.mono (Nat.le_of_lt hs)) (hg.mono (Nat.le_of_lt hs)) with q | ⟨u, q, _⟩
    · exact hf s hs _ _ q
    · exact hg s hs _ _ q
  · obtain ⟨s, rfl⟩ := Int.eq_ofNat_of_zero_le (z.nonneg o hk)
    have hs : s < t := by omega
    rcases clash_sharp o hk z (hg.mono (Nat.le_of_lt hs)) (hf.mono (Nat.le_of_lt hs)) with q | ⟨u, q, _⟩
    · exact hg s hs _ _ q
    · exact hf s hs _ _ q
theorem lost_once (o : NetOk N) (hk : KdsOk N ks) {t t' x x' f g g' : Nat} (h : LostAt N ks t x f g) (h' : LostAt N ks t' x' f g') : t' = t ∧ x' = x ∧ g' = g := by
  have ha := (lost_cl o hk h).2.1
  have ha' := (lost_cl o hk h').2.1
  have et : t' = t := by
    rcases Nat.lt_trichotomy t t' with q | q | q
    · exact absurd h (ha' t q _ _)
    · exact q.symm
    · exact absurd h' (ha t' q _ _)
  subst et
  have I := inv_all o hk t'
  obtain ⟨h1, h2, h3⟩ := (lost_sem o hk I).mp h
  obtain ⟨h1', h2', h3'⟩ := (lost_sem o hk I).mp h'
  have ex := On.same o hk h1 h1'
  subst ex
  refine ⟨rfl, rfl, ?_⟩
  rcases h3 with ⟨t0, a⟩ | ⟨n, b1, b2⟩ <;> rcases h3' with ⟨t1, a'⟩ | ⟨n', b1', b2'⟩
  · have e1 := (left_iff o hk I).mpr a
    rw [(left_iff o hk I).mpr a'] at e1
    exact congrArg Prod.fst (Option.some.inj e1)
  · exact absurd ⟨_, _, a⟩ n'
  · exact absurd ⟨_, _, a'⟩ n
  · have e1 := b1.2.2 g' b1'.1 b1'.2.1
    have e2 := b1'.2.2 g b1.1 b1.2.1
    omega
/-! ### the losses out of the first clashes, in their order -/
abbrev C4 := Int × Nat × Nat × Nat
def c4L (c : C4) : List Int := [c.1, c.2.1, c.2.2.1, c.2.2.2]
def LostC (N : Net) (ks : Kds) (c : C4) : Prop := ∃ t : Nat, c.1 = t ∧ LostAt N ks t c.2.1 c.2.2.1 c.2.2.2
def FCc (N : Net) (ks : Kds) (c : C4) : Prop := FC N ks c.1 c.2.1 c.2.2.1 c.2.2.2
def grd (rows : List C4) (e : C4) : List C4 := if e.2.2.1 ∈ rows.map (·.2.2.1) ∨ e.2.2.2 ∈ rows.map (·.2.2.1) then rows else rows ++ [e]
def grdA (C : List C4) : List C4 := C.foldl grd []
theorem lex_beat {a b : C4} (h : a.1 < b.1) : lexL (c4L a) (c4L b) = true := by
  unfold c4L
  rw [lexL_cons, if_neg (by omega)]
  exact decide_eq_true h
theorem lex_flame {b : Int} {x f f' g g' : Nat} (h : f < f') : lexL (c4L (b, x, f, g)) (c4L (b, x, f', g')) = true := by
  unfold c4L
  simp only
  rw [lexL_cons, if_pos rfl, lexL_cons, if_pos rfl, lexL_cons, if_neg (by omega)]
  exact decide_eq_true (by omega)
theorem lexL_irr : ∀ x : List Int, lexL x x = false
  | [] => rfl
  | a :: as => by rw [lexL_cons, if_pos rfl]; exact lexL_irr as
theorem lexL_le {x y z : List Int} (h1 : lexL y x = false) (h2 : lexL z x = true) : lexL z y = true := by
  cases h : lexL z y with
  | true => rfl
  | false => rw [lexL_tr x y z h1 h] at h2; cases h2
def SrtC (C : List C4) : Prop := C.Pairwise fun a b => lexL (c4L b) (c4L a) = false
theorem grd_ok (o : NetOk N) (hk : KdsOk N ks) {C : List C4} (hs : SrtC C) (hc : ∀ c ∈ C, FCc N ks c) (ha : ∀ c, LostC N ks c → c ∈ C) :
    ∀ (post pre rows : List C4), C = pre ++ post → (∀ c, c ∈ rows ↔ c ∈ pre ∧ LostC N ks c) → rows.Sublist pre → C.Nodup → (∀ c, c ∈ post.foldl grd rows ↔ LostC N ks c) ∧ (post.foldl grd rows).Sublist C
  | [], pre, rows, e, h1, h2, _ => by
    rw [List.append_nil] at e
    subst e
    exact ⟨fun c => ⟨fun h => ((h1 c).mp h).2, fun h => (h1 c).mpr ⟨ha c h, h⟩⟩, h2⟩
  | e :: post, pre, rows, eC, h1, h2, hn => by
    have eC2 : C = (pre ++ [e]) ++ post := by rw [eC]; simp
    have hin : e ∈ C := by rw [eC]; simp
    have hpre : ∀ c ∈ C, lexL (c4L c) (c4L e) = true → c ∈ pre := fun c hcC hl => by
      rw [eC] at hcC
      rcases List.mem_append.mp hcC with z | z
      · exact z
      · exfalso
        have hs2 : SrtC (pre ++ e :: post) := by rw [← eC]; exact hs
        have hp := (List.pairwise_append.mp hs2).2.1
        rcases List.mem_cons.mp z with rfl | z
        · rw [lexL_irr] at hl; cases hl
        · rw [(List.pairwise_cons.mp hp).1 c z] at hl; cases hl
    have hnp : e ∉ pre := fun z => by
      rw [eC] at hn
      exact (List.nodup_append.mp hn).2.2 e z e (by simp) rfl
    -- the flames that were lost by now
    have hlost : ∀ f, f ∈ rows.map (·.2.2.1) ↔ ∃ c ∈ pre, LostC N ks c ∧ c.2.2.1 = f := fun f => by
      rw [List.mem_map]
      constructor
      · rintro ⟨c, hc, rfl⟩
        exact ⟨c, ((h1 c).mp hc).1, ((h1 c).mp hc).2, rfl⟩
      · rintro ⟨c, hc, hl, rfl⟩
        exact ⟨c, (h1 c).mpr ⟨hc, hl⟩, rfl⟩
    obtain ⟨b, x, f, g⟩ := e
    have hfc : FC N ks b x f g := hc _ hin
    obtain ⟨t, rfl⟩ := Int.eq_ofNat_of_zero_le (hfc.1.nonneg o hk)
    by_cases hL : LostC N ks ((t : Int), x, f, g)
    · -- it is a loss: neither was lost ahead
      have hLA : LostAt N ks t x f g := by
        obtain ⟨t', e1, h⟩ := hL
        simp only at e1
        have : t' = t := by omega
        subst this
        exact h
      have hno : ¬ (f ∈ rows.map (·.2.2.1) ∨ g ∈ rows.map (·.2.2.1)) := by
        rintro (z | z)
        · obtain ⟨c, hcp, ⟨t', e1, hl⟩, e2⟩ := (hlost f).mp z
          obtain ⟨b', x', f', g'⟩ := c
          simp only at e1 e2 hl
          subst e2
          obtain ⟨r1, r2, r3⟩ := lost_once o hk hLA hl
          subst r1; subst r2; subst r3; subst e1
          exact hnp hcp
        · obtain ⟨c, hcp, ⟨t', e1, hl⟩, e2⟩ := (hlost g).mp z
          obtain ⟨b', x', f', g'⟩ := c
          simp only at e1 e2 hl
          subst e2; subst e1
          have hle : lexL (c4L ((t : Int), x, f, f')) (c4L ((t' : Int), x', f', g')) = false := by
            have hs2 : SrtC (pre ++ ((t : Int), x, f, f') :: post) := by rw [← eC]; exact hs
            exact (List.pairwise_append.mp hs2).2.2 _ hcp _ (by simp)
          have htt : t' ≤ t := by
            rcases Nat.lt_or_ge t t' with q | q
            · have := lex_beat (a := ((t : Int), x, f, f')) (b := ((t' : Int), x', f', g')) (by show (t : Int) < t'; omega)
              rw [this] at hle; cases hle
            · exact q
          by_cases e3 : t' = t
          · subst e3
            exact lost_goes o hk hLA x' g' hl
          · exact (lost_cl o hk hLA).2.2 t' (by omega) _ _ hl
      have estep : grd rows ((t : Int), x, f, g) = rows ++ [((t : Int), x, f, g)] := by unfold grd; rw [if_neg hno]
      rw [List.foldl_cons, estep]
      refine grd_ok o hk hs hc ha post (pre ++ [((t : Int), x, f, g)]) _ eC2 (fun c => ?_) (h2.append (List.Sublist.refl _)) hn
      rw [List.mem_append, List.mem_append, h1 c]
      constructor
      · rintro (⟨z1, z2⟩ | z)
        · exact ⟨.inl z1, z2⟩
        · rw [List.mem_singleton.mp z]; exact ⟨.inr (by simp), hL⟩
      · rintro ⟨z1 | z1, z2⟩
        · exact .inl ⟨z1, z2⟩
        · exact .inr z1
    · -- it is none: one of the two was lost ahead
      have hyes : f ∈ rows.map (·.2.2.1) ∨ g ∈ rows.map (·.2.2.1) := by
        have ahead : ∀ u, ¬ Alive N ks u t → u ∈ rows.map (·.2.2.1) := fun u hu => by
          obtain ⟨s, hst, y, h, hl⟩ : ∃ s, s < t ∧ ∃ y h, LostAt N ks s y u h := Classical.byContradiction fun z => hu fun s hs y h hl => z ⟨s, hs, y, h, hl⟩
          refine (hlost u).mpr ⟨((s : Int), y, u, h), ?_, ⟨s, rfl, hl⟩, rfl⟩
          exact hpre _ (ha _ ⟨s, rfl, hl⟩) (lex_beat (by show (s : Int) < t; omega))
        by_cases hf : Alive N ks f t
        · by_cases hg : Alive N ks g t
          · rcases clash_sharp o hk hfc.1 hf hg with q | ⟨u, q, hlt⟩
            · exact absurd ⟨t, rfl, q⟩ hL
            · right
              refine (hlost g).mpr ⟨((t : Int), x, g, u), ?_, ⟨t, rfl, q⟩, rfl⟩
              exact hpre _ (ha _ ⟨t, rfl, q⟩) (lex_flame hlt)
          · exact .inr (ahead g hg)
        · exact .inl (ahead f hf)
      have estep : grd rows ((t : Int), x, f, g) = rows := by unfold grd; rw [if_pos hyes]
      rw [List.foldl_cons, estep]
      refine grd_ok o hk hs hc ha post (pre ++ [((t : Int), x, f, g)]) _ eC2 (fun c => ?_) (h2.trans (List.sublist_append_left _ _)) hn
      rw [List.mem_append, h1 c]
      constructor
      · rintro ⟨z1, z2⟩
        exact ⟨.inl z1, z2⟩
      · rintro ⟨z1 | z1, z2⟩
        · exact ⟨z1, z2⟩
        · rw [List.mem_singleton.mp z1] at z2
          exact absurd z2 hL
/-- the told losses are those of the walk -/
theorem grd_all (o : NetOk N) (hk : KdsOk N ks) {C : List C4} (hs : SrtC C) (hn : C.Nodup) (hc : ∀ c ∈ C, FCc N ks c) (ha : ∀ c, LostC N ks c → c ∈ C) :
    (∀ c, c ∈ grdA C ↔ LostC N ks c) ∧ (grdA C).Sublist C :=
  grd_ok o hk hs hc ha C [] [] rfl (fun c => by simp) (List.Sublist.refl _) hn
end
end Em

namespace Em
open PySem PySem.Spec PyProof.Rows L2 Qt

/-! ### when a lamp is lit by a flame that goes alone -/
def Hits (w : Int × Option Int) (t : Int) : Prop := match w.2 with
  | none => t = w.1
  | some L => ∃ k : Int, 0 ≤ k ∧ t = w.1 + k * L
def lapY (N : Net) (y : Nat) : Option Int := if y ∈ wayR N y then some (lapOf N y) else none
section
variable {N : Net}
theorem path_lt (o : NetOk N) {x y : Nat} (hx : x < N.length) (h : y ∈ path N x) : y < N.length := (path_been o hx).lt y h
theorem goS_idx {x y : Nat} (h : y ∈ path N x) : goS N ((path N x).idxOf y) x = some y := goS_path _ _ (idx_get h)
theorem wayR_own (o : NetOk N) {x y : Nat} (hx : x < N.length) (h : y ∈ path N x) : y ∈ wayR N x ↔ y ∈ wayR N y := by
  have hy := path_lt o hx h
  rw [wayR_iff o hx, wayR_iff o hy]
  constructor
  · rintro ⟨_, h2⟩
    exact ⟨⟨0, rfl⟩, h2⟩
  · rintro ⟨_, h2⟩
    exact ⟨⟨_, goS_idx h⟩, h2⟩
theorem look_lap (o : NetOk N) {x y : Nat} (hx : x < N.length) (b : Int) (h : y ∈ path N x) : lookL y (lightsL N b x) = some (frstOf N b x y, lapY N y) := by
  have hg := lights_get o hx b (idx_get h)
  rw [look_some (lights_nd o hx b) hg]
  congr 2
  have hcut : (path N x).idxOf y < cutN N x ↔ y ∉ wayR N x := by
    rw [wayR_get]
    constructor
    · rintro h1 ⟨j, h2, h3⟩
      have := idx_of (path_been o hx).nd h3
      omega
    · intro h1
      rcases Nat.lt_or_ge ((path N x).idxOf y) (cutN N x) with q | q
      · exact q
      · exact absurd ⟨_, q, idx_get h⟩ h1
  unfold lapY
  by_cases hr : y ∈ wayR N x
  · rw [if_neg (fun z => hcut.mp z hr), if_pos ((wayR_own o hx h).mp hr), lap_along o hx (path_lt o hx h) (goS_idx h)]
  · rw [if_pos (hcut.mpr hr), if_neg (fun z => hr ((wayR_own o hx h).mpr z))]
theorem look_mem {x y : Nat} {b : Int} {w : Int × Option Int} (h : lookL y (lightsL N b x) = some w) : y ∈ path N x := by
  rw [← lights_fst N b x]
  by_cases hy : y ∈ (lightsL N b x).map (·.1)
  · exact hy
  · rw [look_none hy] at h; cases h
theorem look_not {x y : Nat} {b : Int} (h : y ∉ path N x) : lookL y (lightsL N b x) = none := look_none (by rw [lights_fst]; exact h)
theorem onWay_iff (o : NetOk N) {x y : Nat} (hx : x < N.length) {b t : Int} : OnWay N b x t y ↔ y ∈ path N x ∧ Hits (frstOf N b x y, lapY N y) t := by
  constructor
  · rintro ⟨j, laps, hj, e, h0, hc⟩
    have hm := List.mem_of_getElem? hj
    have hi := idx_of (path_been o hx).nd hj
    have ef : frstOf N b x y = frst N b x j := by unfold frstOf; rw [hi]
    refine ⟨hm, ?_⟩
    unfold Hits lapY
    by_cases hr : y ∈ wayR N y
    · simp only
      rw [if_pos hr]
      simp only
      exact ⟨laps, h0, by rw [ef, e, lap_along o hx (path_lt o hx hm) (goS_idx hm)]⟩
    · simp only
      rw [if_neg hr]
      simp only
      have : laps = 0 := by
        rcases hc with z | z
        · exact z
        · exact absurd ((wayR_own o hx hm).mp (wayR_get.mpr ⟨j, z, hj⟩)) hr
      rw [e, ef, this, Int.zero_mul, Int.add_zero]
  · rintro ⟨hm, h⟩
    have hj := idx_get hm
    unfold Hits lapY at h
    by_cases hr : y ∈ wayR N y
    · simp only at h
      rw [if_pos hr] at h
      simp only at h
      obtain ⟨k, h0, e⟩ := h
      refine ⟨_, k, hj, ?_, h0, .inr ?_⟩
      · rw [e, lap_along o hx (path_lt o hx hm) (goS_idx hm)]; rfl
      · obtain ⟨j, h2, h3⟩ := wayR_get.mp ((wayR_own o hx hm).mpr hr)
        rw [idx_of (path_been o hx).nd h3]
        exact h2
    · simp only at h
      rw [if_neg hr] at h
      simp only at h
      refine ⟨_, 0, hj, ?_, by decide, .inl rfl⟩
      rw [h, Int.zero_mul, Int.add_zero]; rfl
theorem burn_lap (o : NetOk N) {y : Nat} (hy : y < N.length) (hr : y ∈ wayR N y) : burnOf N y ≤ lapOf N y := by
  have key : ∀ g : List Nat, (∀ z ∈ g, z < N.length) → y ∈ g → burnOf N y ≤ sumB N g := fun g => by
    induction g with
    | nil => intro _ h; cases h
    | cons z r ih =>
      intro h1 h2
      rw [sumB_cons]
      have hz := burn_pos o (h1 z List.mem_cons_self)
      have hs := sumB_nonneg o (g := r) fun u hu => h1 u (List.mem_cons_of_mem _ hu)
      rcases List.mem_cons.mp h2 with rfl | h2
      · omega
      · have := ih (fun u hu => h1 u (List.mem_cons_of_mem _ hu)) h2
        omega
  exact key _ (way_sub o hy) hr
end
/-! ### the first clash on a lamp -/
def gapC (lap : Option Int) (d : Int) : Int := match lap with
  | none => d
  | some L => d % L
def clashL (len : Int) (lap : Option Int) (e l : Int × Nat) : Option (Int × Nat × Nat) :=
  if gapC lap (l.1 - e.1) = 0 then some (l.1, max e.2 l.2, min e.2 l.2)
  else if gapC lap (l.1 - e.1) < len then some (l.1, l.2, e.2)
  else match lap with
    | none => none
    | some L => if L - gapC lap (l.1 - e.1) < len then some (l.1 + L - gapC lap (l.1 - e.1), e.2, l.2) else none
/-- two that clash on a lamp, by when each lights it -/
def Cw (len : Int) (A B : Int → Prop) (b : Int) (f g : Nat) : Prop := f ≠ g ∧ A b ∧ ((B b ∧ g < f) ∨ ∃ t0, B t0 ∧ t0 < b ∧ b < t0 + len)
theorem mod_is {L d e k : Int} (h0 : 0 ≤ d) (h1 : d < L) (h : d = e + k * L) : d = e % L := by
  rw [← Int.emod_eq_of_lt h0 h1, h, Int.add_mul_emod_self_right]
theorem clash_ok {len : Int} {lap : Option Int} {e l : Int × Nat} (h1 : 1 ≤ len) (hL : ∀ L, lap = some L → len ≤ L) (hel : e.1 ≤ l.1) (hne : e.2 ≠ l.2) {A B : Int → Prop} (hA : ∀ t, A t ↔ Hits (e.1, lap) t) (hB : ∀ t, B t ↔ Hits (l.1, lap) t) :
    (∀ b u v, clashL len lap e l = some (b, u, v) → ((u = e.2 ∧ v = l.2 ∧ Cw len A B b u v) ∨ (u = l.2 ∧ v = e.2 ∧ Cw len B A b u v)) ∧ ∀ b', (Cw len A B b' e.2 l.2 ∨ Cw len B A b' l.2 e.2) → b ≤ b') ∧
    (clashL len lap e l = none → ∀ b', ¬ Cw len A B b' e.2 l.2 ∧ ¬ Cw len B A b' l.2 e.2) := by
  obtain ⟨fe, ue⟩ := e
  obtain ⟨fl, ul⟩ := l
  simp only at hel hne hA hB
  cases lap with
  | none =>
    have hA' : ∀ t, A t ↔ t = fe := hA
    have hB' : ∀ t, B t ↔ t = fl := hB
    have hc : clashL len none (fe, ue) (fl, ul) = if fl - fe = 0 then some (fl, max ue ul, min ue ul) else if fl - fe < len then some (fl, ul, ue) else none := rfl
    rw [hc]
    have c1 : ∀ b', Cw len A B b' ue ul → b' = fe ∧ fl = fe := fun b' ⟨_, a, q⟩ => by
      have a := (hA' _).mp a
      rcases q with ⟨q, _⟩ | ⟨t0, q, q1, q2⟩
      · have := (hB' _).mp q; omega
      · have := (hB' _).mp q; omega
    have c2 : ∀ b', Cw len B A b' ul ue → b' = fl ∧ fl - fe < len := fun b' ⟨_, a, q⟩ => by
      have a := (hB' _).mp a
      rcases q with ⟨q, _⟩ | ⟨t0, q, q1, q2⟩
      · have := (hA' _).mp q; omega
      · have := (hA' _).mp q; omega
    by_cases g0 : fl - fe = 0
    · rw [if_pos g0]
      refine ⟨fun b u v h => ?_, fun h => by cases h⟩
      cases h
      have e1 : fl = fe := by omega
      subst e1
      refine ⟨?_, fun b' q => ?_⟩
      · rcases Nat.lt_or_ge ue ul with q | q
        · right
          rw [Nat.max_eq_right (Nat.le_of_lt q), Nat.min_eq_left (Nat.le_of_lt q)]
          exact ⟨rfl, rfl, fun z => hne z.symm, (hB' _).mpr rfl, .inl ⟨(hA' _).mpr rfl, q⟩⟩
        · left
          rw [Nat.max_eq_left q, Nat.min_eq_right q]
          exact ⟨rfl, rfl, hne, (hA' _).mpr rfl, .inl ⟨(hB' _).mpr rfl, by omega⟩⟩
      · rcases q with q | q
        · have := (c1 b' q).1; omega
        · have := (c2 b' q).1; omega
    · rw [if_neg g0]
      by_cases g1 : fl - fe < len
      · rw [if_pos g1]
        refine ⟨fun b u v h => ?_, fun h => by cases h⟩
        cases h
        refine ⟨.inr ⟨rfl, rfl, fun z => hne z.symm, (hB' _).mpr rfl, .inr ⟨fe, (hA' _).mpr rfl, by omega, by omega⟩⟩, fun b' q => ?_⟩
        rcases q with q | q
        · have := (c1 b' q).2; omega
        · have := (c2 b' q).1; omega
      · rw [if_neg g1]
        refine ⟨(fun b u v h => by cases h), fun _ b' => ⟨fun q => ?_, fun q => ?_⟩⟩
        · have := (c1 b' q).2; omega
        · have := (c2 b' q).2; omega
  | some L =>
    have hLl := hL L rfl
    have hA' : ∀ t, A t ↔ ∃ k : Int, 0 ≤ k ∧ t = fe + k * L := hA
    have hB' : ∀ t, B t ↔ ∃ k : Int, 0 ≤ k ∧ t = fl + k * L := hB
    obtain ⟨gp, eg⟩ : ∃ gp, gp = (fl - fe) % L := ⟨_, rfl⟩
    have hc : clashL len (some L) (fe, ue) (fl, ul) = if gp = 0 then some (fl, max ue ul, min ue ul) else if gp < len then some (fl, ul, ue) else if L - gp < len then some (fl + L - gp, ue, ul) else none := by
      rw [eg]; rfl
    rw [hc]
    have g0 : 0 ≤ gp := by rw [eg]; exact Int.emod_nonneg _ (by omega)
    have gL : gp < L := by rw [eg]; exact Int.emod_lt_of_pos _ (by omega)
    obtain ⟨q, eq⟩ : ∃ q : Int, q = (fl - fe) / L := ⟨_, rfl⟩
    have hq0 : 0 ≤ q := by rw [eq]; exact Int.ediv_nonneg (by omega) (by omega)
    have hfl : fl = fe + q * L + gp := by
      have := Int.emod_add_mul_ediv (fl - fe) L
      rw [← eg, ← eq] at this
      rw [Int.mul_comm] at this
      omega
    have bB : ∀ t, B t → fl ≤ t := fun t h => by
      obtain ⟨k, k0, e⟩ := (hB' t).mp h
      have : 0 ≤ k * L := Int.mul_nonneg k0 (by omega)
      omega
    -- how far they stand apart
    have dAB : ∀ s t, A s → B t → 0 ≤ t - s → t - s < L → t - s = gp := fun s t hs ht z1 z2 => by
      obtain ⟨k, k0, e1⟩ := (hA' s).mp hs
      obtain ⟨m, m0, e2⟩ := (hB' t).mp ht
      rw [eg]
      refine mod_is z1 z2 (k := m - k) ?_
      rw [Int.sub_mul]; omega
    have dBA : ∀ s t, A s → B t → 0 < s - t → s - t < L → s - t = L - gp ∧ gp ≠ 0 := fun s t hs ht z1 z2 => by
      obtain ⟨k, k0, e1⟩ := (hA' s).mp hs
      obtain ⟨m, m0, e2⟩ := (hB' t).mp ht
      have : L - (s - t) = gp := by
        rw [eg]
        refine mod_is (by omega) (by omega) (k := m - k + 1) ?_
        rw [Int.add_mul, Int.sub_mul]; omega
      omega
    have c1 : ∀ b', Cw len A B b' ue ul → fl ≤ b' ∧ (gp = 0 ∨ (L - gp < len ∧ gp ≠ 0 ∧ fl + L - gp ≤ b')) := fun b' ⟨_, a, q⟩ => by
      rcases q with ⟨q, _⟩ | ⟨t0, q, q1, q2⟩
      · have := dAB b' b' a q (by omega) (by omega)
        exact ⟨bB _ q, .inl (by omega)⟩
      · have h3 := bB _ q
        obtain ⟨h4, h5⟩ := dBA b' t0 a q (by omega) (by omega)
        exact ⟨by omega, .inr ⟨by omega, h5, by omega⟩⟩
    have c2 : ∀ b', Cw len B A b' ul ue → fl ≤ b' ∧ gp < len := fun b' ⟨_, a, q⟩ => by
      rcases q with ⟨q, _⟩ | ⟨t0, q, q1, q2⟩
      · have := dAB b' b' q a (by omega) (by omega)
        exact ⟨bB _ a, by omega⟩
      · have := dAB t0 b' q a (by omega) (by omega)
        exact ⟨bB _ a, by omega⟩
    have hBl : B fl := (hB' _).mpr ⟨0, by omega, by rw [Int.zero_mul]; omega⟩
    by_cases z0 : gp = 0
    · rw [if_pos z0]
      refine ⟨fun b u v h => ?_, fun h => by cases h⟩
      cases h
      have hAl : A fl := (hA' _).mpr ⟨q, hq0, by omega⟩
      refine ⟨?_, fun b' q => ?_⟩
      · rcases Nat.lt_or_ge ue ul with q | q
        · right
          rw [Nat.max_eq_right (Nat.le_of_lt q), Nat.min_eq_left (Nat.le_of_lt q)]
          exact ⟨rfl, rfl, fun z => hne z.symm, hBl, .inl ⟨hAl, q⟩⟩
        · left
          rw [Nat.max_eq_left q, Nat.min_eq_right q]
          exact ⟨rfl, rfl, hne, hAl, .inl ⟨hBl, by omega⟩⟩
      · rcases q with q | q
        · exact (c1 b' q).1
        · exact (c2 b' q).1
    · rw [if_neg z0]
      by_cases z1 : gp < len
      · rw [if_pos z1]
        refine ⟨fun b u v h => ?_, fun h => by cases h⟩
        cases h
        refine ⟨.inr ⟨rfl, rfl, fun z => hne z.symm, hBl, .inr ⟨fe + q * L, (hA' _).mpr ⟨q, hq0, rfl⟩, by omega, by omega⟩⟩, fun b' q => ?_⟩
        rcases q with q | q
        · exact (c1 b' q).1
        · exact (c2 b' q).1
      · rw [if_neg z1]
        by_cases z2 : L - gp < len
        · rw [if_pos z2]
          refine ⟨fun b u v h => ?_, fun h => by cases h⟩
          cases h
          refine ⟨.inl ⟨rfl, rfl, hne, (hA' _).mpr ⟨q + 1, by omega, by rw [Int.add_mul]; omega⟩, .inr ⟨fl, hBl, by omega, by omega⟩⟩, fun b' q => ?_⟩
          rcases q with q | q
          · rcases (c1 b' q).2 with z | ⟨_, _, z⟩
            · exact absurd z z0
            · exact z
          · exact absurd (c2 b' q).2 z1
        · rw [if_neg z2]
          refine ⟨(fun b u v h => by cases h), fun _ b' => ⟨fun q => ?_, fun q => ?_⟩⟩
          · rcases (c1 b' q).2 with z | ⟨z, _, _⟩
            · exact absurd z z0
            · exact absurd z z2
          · exact absurd (c2 b' q).2 z1
/-! ### the first clash of two flames -/
def srt2 (a b : Int × Nat) : (Int × Nat) × (Int × Nat) := if b.1 < a.1 ∨ (b.1 = a.1 ∧ b.2 < a.2) then (b, a) else (a, b)
theorem srt2_le (a b : Int × Nat) : (srt2 a b).1.1 ≤ (srt2 a b).2.1 := by
  unfold srt2
  split
  · show b.1 ≤ a.1; omega
  · show a.1 ≤ b.1; omega
theorem srt2_or (a b : Int × Nat) : srt2 a b = (a, b) ∨ srt2 a b = (b, a) := by
  unfold srt2
  split
  · exact .inr rfl
  · exact .inl rfl
def pairC (N : Net) (Lo : List Lgt) (one other : Nat) (z : Lgt) : Option C4 := (lookL z.1 Lo).bind fun w =>
  (clashL (burnOf N z.1) z.2.2 (srt2 (z.2.1, one) (w.1, other)).1 (srt2 (z.2.1, one) (w.1, other)).2).map fun c => (c.1, z.1, c.2.1, c.2.2)
def pairL (N : Net) (Ln Lo : List Lgt) (one other : Nat) : List C4 := Ln.filterMap (pairC N Lo one other)
section
variable {N : Net} {ks : Kds}
/-- on a lamp of both ways -/
theorem pair_lamp (o : NetOk N) (hk : KdsOk N ks) {one other y : Nat} {p p' : Nat × Nat} (hp : ks[one]? = some p) (hp' : ks[other]? = some p') (hne : one ≠ other) (hy : y ∈ path N p.2) (hy' : y ∈ path N p'.2) {z : Lgt} (hz : z = (y, frstOf N p.1 p.2 y, lapY N y)) :
    (∀ c, pairC N (lightsL N p'.1 p'.2) one other z = some c → Cl N ks c.1 c.2.1 c.2.2.1 c.2.2.2 ∧ c.2.1 = y ∧ ((c.2.2.1 = one ∧ c.2.2.2 = other) ∨ (c.2.2.1 = other ∧ c.2.2.2 = one)) ∧ ∀ b', (Cl N ks b' y one other ∨ Cl N ks b' y other one) → c.1 ≤ b') ∧
    (pairC N (lightsL N p'.1 p'.2) one other z = none → ∀ b', ¬ Cl N ks b' y one other ∧ ¬ Cl N ks b' y other one) := by
  subst hz
  have hx := hk p (List.mem_of_getElem? hp)
  have hx' := hk p' (List.mem_of_getElem? hp')
  have hyl := path_lt o hx hy
  have onA : ∀ t, On N ks one t y ↔ Hits (frstOf N p.1 p.2 y, lapY N y) t := fun t => by
    constructor
    · rintro ⟨q, hq, h⟩
      rw [hp] at hq
      cases hq
      exact ((onWay_iff o hx).mp h).2
    · intro h
      exact ⟨p, hp, (onWay_iff o hx).mpr ⟨hy, h⟩⟩
  have onB : ∀ t, On N ks other t y ↔ Hits (frstOf N p'.1 p'.2 y, lapY N y) t := fun t => by
    constructor
    · rintro ⟨q, hq, h⟩
      rw [hp'] at hq
      cases hq
      exact ((onWay_iff o hx').mp h).2
    · intro h
      exact ⟨p', hp', (onWay_iff o hx').mpr ⟨hy', h⟩⟩
  have hL : ∀ L, lapY N y = some L → burnOf N y ≤ L := fun L h => by
    unfold lapY at h
    by_cases hr : y ∈ wayR N y
    · rw [if_pos hr] at h
      cases h
      exact burn_lap o hyl hr
    · rw [if_neg hr] at h; cases h
  have hc : pairC N (lightsL N p'.1 p'.2) one other (y, frstOf N p.1 p.2 y, lapY N y) = (clashL (burnOf N y) (lapY N y) (srt2 (frstOf N p.1 p.2 y, one) (frstOf N p'.1 p'.2 y, other)).1 (srt2 (frstOf N p.1 p.2 y, one) (frstOf N p'.1 p'.2 y, other)).2).map fun c => (c.1, y, c.2.1, c.2.2) := by
    unfold pairC
    simp only
    rw [look_lap o hx' p'.1 hy']
    rfl
  rw [hc]
  have cw : ∀ {b f g}, Cw (burnOf N y) (fun t => On N ks f t y) (fun t => On N ks g t y) b f g ↔ Cl N ks b y f g := Iff.rfl
  have hle := srt2_le (frstOf N p.1 p.2 y, one) (frstOf N p'.1 p'.2 y, other)
  rcases srt2_or (frstOf N p.1 p.2 y, one) (frstOf N p'.1 p'.2 y, other) with e | e
  · rw [e] at hle ⊢
    simp only at hle ⊢
    obtain ⟨k1, k2⟩ := clash_ok (e := (frstOf N p.1 p.2 y, one)) (l := (frstOf N p'.1 p'.2 y, other)) (burn_pos o hyl) hL hle hne onA onB
    refine ⟨fun c h => ?_, fun h => k2 (by simpa using h)⟩
    cases e1 : clashL (burnOf N y) (lapY N y) (frstOf N p.1 p.2 y, one) (frstOf N p'.1 p'.2 y, other) with
    | none => rw [e1] at h; cases h
    | some d =>
      obtain ⟨b, u, v⟩ := d
      rw [e1] at h
      cases h
      obtain ⟨r1, r2⟩ := k1 b u v e1
      rcases r1 with ⟨rfl, rfl, r⟩ | ⟨rfl, rfl, r⟩
      · exact ⟨cw.mp r, rfl, .inl ⟨rfl, rfl⟩, fun b' q => r2 b' (q.imp cw.mpr cw.mpr)⟩
      · exact ⟨cw.mp r, rfl, .inr ⟨rfl, rfl⟩, fun b' q => r2 b' (q.imp cw.mpr cw.mpr)⟩
  · rw [e] at hle ⊢
    simp only at hle ⊢
    obtain ⟨k1, k2⟩ := clash_ok (e := (frstOf N p'.1 p'.2 y, other)) (l := (frstOf N p.1 p.2 y, one)) (burn_pos o hyl) hL hle (Ne.symm hne) onB onA
    refine ⟨fun c h => ?_, fun h b' => (k2 (by simpa using h) b').symm⟩
    cases e1 : clashL (burnOf N y) (lapY N y) (frstOf N p'.1 p'.2 y, other) (frstOf N p.1 p.2 y, one) with
    | none => rw [e1] at h; cases h
    | some d =>
      obtain ⟨b, u, v⟩ := d
      rw [e1] at h
      cases h
      obtain ⟨r1, r2⟩ := k1 b u v e1
      rcases r1 with ⟨rfl, rfl, r⟩ | ⟨rfl, rfl, r⟩
      · exact ⟨cw.mp r, rfl, .inr ⟨rfl, rfl⟩, fun b' q => r2 b' (q.symm.imp cw.mpr cw.mpr)⟩
      · exact ⟨cw.mp r, rfl, .inl ⟨rfl, rfl⟩, fun b' q => r2 b' (q.symm.imp cw.mpr cw.mpr)⟩
theorem lights_is (o : NetOk N) {x : Nat} (hx : x < N.length) {b : Int} {z : Lgt} (h : z ∈ lightsL N b x) : z.1 ∈ path N x ∧ z = (z.1, frstOf N b x z.1, lapY N z.1) := by
  have hm : z.1 ∈ path N x := by rw [← lights_fst N b x]; exact List.mem_map.mpr ⟨z, h, rfl⟩
  refine ⟨hm, ?_⟩
  obtain ⟨j, hj, e⟩ := List.getElem_of_mem h
  have h2 := List.getElem?_eq_getElem hj
  rw [e] at h2
  have h3 := look_some (lights_nd o hx b) (j := j) (y := z.1) (w := z.2) h2
  rw [look_lap o hx b hm] at h3
  have := Option.some.inj h3
  rw [this]
/-- each clash that is told is one, and the first on its lamp; a clash is no sooner than one that is told -/
theorem pair_mem (o : NetOk N) (hk : KdsOk N ks) {one other : Nat} {p p' : Nat × Nat} (hp : ks[one]? = some p) (hp' : ks[other]? = some p') (hne : one ≠ other) :
    (∀ c ∈ pairL N (lightsL N p.1 p.2) (lightsL N p'.1 p'.2) one other, Cl N ks c.1 c.2.1 c.2.2.1 c.2.2.2 ∧ ((c.2.2.1 = one ∧ c.2.2.2 = other) ∨ (c.2.2.1 = other ∧ c.2.2.2 = one))) ∧
    (∀ b' y, (Cl N ks b' y one other ∨ Cl N ks b' y other one) → ∃ c ∈ pairL N (lightsL N p.1 p.2) (lightsL N p'.1 p'.2) one other, c.1 ≤ b') := by
  have hx := hk p (List.mem_of_getElem? hp)
  have hx' := hk p' (List.mem_of_getElem? hp')
  refine ⟨fun c hc => ?_, fun b' y h => ?_⟩
  · unfold pairL at hc
    obtain ⟨z, hz, e⟩ := List.mem_filterMap.mp hc
    obtain ⟨m1, m2⟩ := lights_is o hx hz
    have m3 : z.1 ∈ path N p'.2 := by
      unfold pairC at e
      cases q : lookL z.1 (lightsL N p'.1 p'.2) with
      | none => rw [q] at e; cases e
      | some w => exact look_mem q
    obtain ⟨a, b, c', _⟩ := (pair_lamp o hk hp hp' hne m1 m3 m2).1 c e
    exact ⟨a, c'⟩
  · have on1 : y ∈ path N p.2 := by
      have hon : ∃ t, On N ks one t y := by
        rcases h with ⟨_, h, _⟩ | ⟨_, _, ⟨h, _⟩ | ⟨t0, h, _⟩⟩
        · exact ⟨_, h⟩
        · exact ⟨_, h⟩
        · exact ⟨_, h⟩
      obtain ⟨t, q, hq, h⟩ := hon
      rw [hp] at hq
      cases hq
      exact ((onWay_iff o hx).mp h).1
    have on2 : y ∈ path N p'.2 := by
      have hon : ∃ t, On N ks other t y := by
        rcases h with ⟨_, _, ⟨h, _⟩ | ⟨t0, h, _⟩⟩ | ⟨_, h, _⟩
        · exact ⟨_, h⟩
        · exact ⟨_, h⟩
        · exact ⟨_, h⟩
      obtain ⟨t, q, hq, h⟩ := hon
      rw [hp'] at hq
      cases hq
      exact ((onWay_iff o hx').mp h).1
    have hz : (y, frstOf N p.1 p.2 y, lapY N y) ∈ lightsL N p.1 p.2 := by
      have h1 : y ∈ (lightsL N p.1 p.2).map (·.1) := by rw [lights_fst]; exact on1
      obtain ⟨z, hz, e⟩ := List.mem_map.mp h1
      have := (lights_is o hx hz).2
      rw [e] at this
      rw [← this]
      exact hz
    obtain ⟨k1, k2⟩ := pair_lamp o hk hp hp' hne on1 on2 rfl
    cases e : pairC N (lightsL N p'.1 p'.2) one other (y, frstOf N p.1 p.2 y, lapY N y) with
    | none =>
      have := k2 e b'
      rcases h with h | h
      · exact absurd h this.1
      · exact absurd h this.2
    | some c => exact ⟨c, List.mem_filterMap.mpr ⟨_, hz, e⟩, (k1 c e).2.2.2 b' h⟩
/-- at one beat two clash in one lamp, one way -/
theorem cl_uniq (o : NetOk N) (hk : KdsOk N ks) {b : Int} {x x' f g : Nat} (h : Cl N ks b x f g) : (Cl N ks b x' f g → x' = x) ∧ ¬ Cl N ks b x' g f := by
  obtain ⟨hne, h1, h2⟩ := h
  refine ⟨fun h' => On.same o hk h1 h'.2.1, ?_⟩
  rintro ⟨_, h3, h4⟩
  rcases h2 with ⟨h2, q⟩ | ⟨t0, h2, q1, q2⟩
  · rcases h4 with ⟨h4, q'⟩ | ⟨t1, h4, q1', q2'⟩
    · omega
    · have := On.uniq o hk h4 h1 (by omega) q2'
      omega
  · have := On.uniq o hk h2 h3 (by omega) q2
    omega
theorem fc_uniq (o : NetOk N) (hk : KdsOk N ks) {c c' : C4} (h : FCc N ks c) (h' : FCc N ks c') (hp : (c'.2.2.1 = c.2.2.1 ∧ c'.2.2.2 = c.2.2.2) ∨ (c'.2.2.1 = c.2.2.2 ∧ c'.2.2.2 = c.2.2.1)) : c' = c := by
  obtain ⟨b, x, f, g⟩ := c
  obtain ⟨b', x', f', g'⟩ := c'
  obtain ⟨h1, h2⟩ : FC N ks b x f g := h
  obtain ⟨h1', h2'⟩ : FC N ks b' x' f' g' := h'
  simp only at hp
  have eb : b' = b := by
    rcases Int.lt_trichotomy b b' with q | q | q
    · exfalso
      have := h2' b x q
      rcases hp with ⟨rfl, rfl⟩ | ⟨rfl, rfl⟩
      · exact this.1 h1
      · exact this.2 h1
    · exact q.symm
    · exfalso
      have := h2 b' x' q
      rcases hp with ⟨rfl, rfl⟩ | ⟨rfl, rfl⟩
      · exact this.1 h1'
      · exact this.2 h1'
  subst eb
  rcases hp with ⟨rfl, rfl⟩ | ⟨rfl, rfl⟩
  · rw [(cl_uniq o hk h1).1 h1']
  · exact absurd h1' (cl_uniq o hk h1).2
/-- the least one told is their first clash -/
theorem pair_min (o : NetOk N) (hk : KdsOk N ks) {one other : Nat} {p p' : Nat × Nat} (hp : ks[one]? = some p) (hp' : ks[other]? = some p') (hne : one ≠ other) {c : C4} (hc : c ∈ pairL N (lightsL N p.1 p.2) (lightsL N p'.1 p'.2) one other)
    (hm : ∀ d ∈ pairL N (lightsL N p.1 p.2) (lightsL N p'.1 p'.2) one other, lexL (c4L d) (c4L c) = false) : FCc N ks c := by
  obtain ⟨k1, k2⟩ := pair_mem o hk hp hp' hne
  obtain ⟨a, b⟩ := k1 c hc
  have key : ∀ b' x', b' < c.1 → ¬ (Cl N ks b' x' one other ∨ Cl N ks b' x' other one) := fun b' x' hb h => by
    obtain ⟨d, hd, hle⟩ := k2 b' x' h
    have := lex_beat (a := d) (b := c) (by omega)
    rw [hm d hd] at this
    cases this
  refine ⟨a, fun b' x' hb => ⟨fun h => key b' x' hb ?_, fun h => key b' x' hb ?_⟩⟩
  · rcases b with ⟨e1, e2⟩ | ⟨e1, e2⟩ <;> rw [e1, e2] at h
    · exact .inl h
    · exact .inr h
  · rcases b with ⟨e1, e2⟩ | ⟨e1, e2⟩ <;> rw [e1, e2] at h
    · exact .inr h
    · exact .inl h
end
end Em

namespace Em
open PySem PySem.Spec PyProof.Rows L2 Qt

/-! ### min(xs, default=d), xs a list of tuples of ints -/
section
variable {prog : Program} {w : World} {A : Around}
/-- what stood stands, but for what the walk writes, and the list that holds the best -/
def Stoods (wr : List Addr) (S : Addr) (h h' : Heap) : Prop := ∀ a ob, a ∉ wr → a ≠ S → h.get? a = some ob → h'.get? a = some ob
theorem Stoods.tr {wr : List Addr} {S : Addr} {h h1 h2 : Heap} (p : Stoods wr S h h1) (q : Stoods wr S h1 h2) : Stoods wr S h h2 := fun a ob n m e => q a ob n m (p a ob n m e)
/-- comparisons that need something of the heap -/
def CmpGm (prog : Program) (w : World) (A : Around) (op : CmpOp) (G : Heap → Prop) (P : Nat → Value → Prop) (bt : Nat → Nat → Bool) : Prop :=
  ∀ i j x y (s : Shared) (Q E : Value → Shared → Prop), G s.heap → P i x → P j y → Q (.bool (bt i j)) s → wpAny (model prog w) A (richCompare op x y) Q E s
theorem bestS {wr fp : List Addr} {I S : Addr} (hs : S ∉ fp) {h : Heap} (f : Array Value → Array Value) : ∀ b ∈ fp, ∀ ob, h.get? b = some ob → (h.update S (Obj.mapSeq f)).get? b = some ob := fun b hb ob e =>
  (Heap.get?_update_other _ _ (fun z : S = b => hs (z ▸ hb))).trans e
theorem stoodS {wr : List Addr} {S : Addr} {h : Heap} (f : Array Value → Array Value) : Stoods wr S h (h.update S (Obj.mapSeq f)) := fun b ob _ hb e => (Heap.get?_update_other _ _ (Ne.symm hb)).trans e
theorem minG_go {R : Result → Shared → Prop} {I S : Addr} {fp wr : List Addr} {n : Nat} {P : Nat → Value → Prop} {St : Nat → Heap → Prop} (W : Walks prog w A.in1 I fp wr n P St) {G : Heap → Prop} {bt : Nat → Nat → Bool} {kw : List (Str × Value)}
    (hg : ∀ h h', G h → Stoods wr S h h' → G h') (hc : CmpGm prog w A.in1 .Lt G P bt) (hs : S ∉ fp) :
    ∀ (m i : Nat) (s : Shared) (best : Value) (ep : Nat), n = i + 1 + m → St (i + 1) s.heap → G s.heap → P (argBest bt i) best → s.heap.get? S = some { cls := .type "list", dict := none, data := .seq #[best, best] ep, slots := #[] } →
      (∀ v h' tk, P (argBest bt (n - 1)) v → Stoods wr S s.heap h' → R (.ok (.ret v)) { s with heap := h', toks := tk }) → codeAny (model prog w) A (.builtin "min.loop" ⟨[.ref I, .none, .ref S], kw⟩) R s := by
  have hw : S ∉ wr := fun z => hs (W.sub _ z)
  have nm : (toString "min" ++ toString ".loop" : String) = "min.loop" := by decide
  intro m
  induction m with
  | zero =>
    intro i s best ep en st g hp hS hR
    refine codeAny_builtin F.entry_min_loop ?_
    rw [Around.under_plainId F.plain_min_loop _]
    show wpAny _ A.in1 (seqItems? (Value.ref S) >>= _) _ _ s
    refine wpAny_bind (wpAny_seqItems hS rfl ?_)
    show wpAny _ A.in1 (tryCatch (pyNext (Value.ref I)) _ >>= _) _ _ s
    have e1 : i + 1 = n := by omega
    refine wpAny_bind (wpAny_tryCatch (W.done s _ _ (e1 ▸ st) fun h1 tk k1 => ?_))
    have hS1 := k1 S _ hw hS
    show wpAny _ A.in1 (updateSeq S (fun _ => #[]) >>= _) _ _ _
    refine wpAny_bind (wpAny_updateSeq hS1 rfl (wpAny_bind (wpAny_letGo (wpAny_pure ?_))))
    have e2 : n - 1 = i := by omega
    exact hR best _ tk (by rw [e2]; exact hp) (Stoods.tr (fun b ob hb _ e => k1 b ob hb e) (stoodS _))
  | succ m ih =>
    intro i s best ep en st g hp hS hR
    refine codeAny_builtin F.entry_min_loop ?_
    rw [Around.under_plainId F.plain_min_loop _]
    show wpAny _ A.in1 (seqItems? (Value.ref S) >>= _) _ _ s
    refine wpAny_bind (wpAny_seqItems hS rfl ?_)
    show wpAny _ A.in1 (tryCatch (pyNext (Value.ref I)) _ >>= _) _ _ s
    refine wpAny_bind (wpAny_tryCatch (W.item (i + 1) s _ _ (by omega) st fun x h1 tk px st1 k1 => ?_))
    have hS1 := k1 S _ hw hS
    have kk : Stoods wr S s.heap h1 := fun b ob hb _ e => k1 b ob hb e
    have g1 := hg _ _ g kk
    show wpAny _ A.in1 (tryCatch (holding [x, x] (richCompare .Lt x best >>= _)) _ >>= _) _ _ _
    refine wpAny_bind (wpAny_tryCatch (wpAny_holding (wpAny_bind (hc (i + 1) (argBest bt i) x best _ _ _ g1 px hp ?_))))
    refine wpAny_bind (wpAny_holding (wpAny_truthy_bool ?_))
    refine wpAny_bind (wpAny_letGo (wpAny_pure ?_))
    cases eb : bt (i + 1) (argBest bt i) with
    | true =>
      have ebest : argBest bt (i + 1) = i + 1 := by
        show (if bt (i + 1) (argBest bt i) = true then _ else _) = _
        rw [if_pos eb]
      rw [if_pos rfl]
      refine wpAny_bind (wpAny_updateSeq hS1 rfl (wpAny_bind (wpAny_letGo ?_)))
      rw [nm]
      have ks : Stoods wr S s.heap _ := Stoods.tr kk (stoodS (h := h1) (fun _ => #[x, x]))
      refine wpAny_pure ⟨plainId_quiet F.plain_min_loop _, ih (i + 1) _ x _ (by omega) (W.frame _ _ _ st1 (bestS (wr := wr) (I := I) hs _)) (hg _ _ g ks) (by rw [ebest]; exact px) (Heap.get?_update_self _ hS1 rfl) fun v h2 tk2 pv k2 => ?_⟩
      exact hR v h2 tk2 pv (ks.tr k2)
    | false =>
      have ebest : argBest bt (i + 1) = argBest bt i := by
        show (if bt (i + 1) (argBest bt i) = true then _ else _) = _
        rw [if_neg (by rw [eb]; exact Bool.false_ne_true)]
      rw [if_neg Bool.false_ne_true]
      refine wpAny_bind (wpAny_letGo ?_)
      rw [nm]
      refine wpAny_pure ⟨plainId_quiet F.plain_min_loop _, ih (i + 1) _ best ep (by omega) st1 g1 (by rw [ebest]; exact hp) hS1 fun v h2 tk2 pv k2 => ?_⟩
      exact hR v h2 tk2 pv (kk.tr k2)
theorem minG_start {R : Result → Shared → Prop} {I S : Addr} {fp wr : List Addr} {n : Nat} {P : Nat → Value → Prop} {St : Nat → Heap → Prop} (W : Walks prog w A.in1 I fp wr n P St) {G : Heap → Prop} {bt : Nat → Nat → Bool} {d : Value} {s : Shared} {ep : Nat}
    (hg : ∀ h h', G h → Stoods wr S h h' → G h') (hc : CmpGm prog w A.in1 .Lt G P bt) (hs : S ∉ fp) (st : St 0 s.heap) (g : G s.heap) (hS : s.heap.get? S = some { cls := .type "list", dict := none, data := .seq #[] ep, slots := #[] })
    (h0 : n = 0 → ∀ h' tk, Stoods wr S s.heap h' → R (.ok (.ret d)) { s with heap := h', toks := tk })
    (h1 : 0 < n → ∀ v h' tk, P (argBest bt (n - 1)) v → Stoods wr S s.heap h' → R (.ok (.ret v)) { s with heap := h', toks := tk }) : codeAny (model prog w) A (.builtin "min.loop" ⟨[.ref I, .none, .ref S], [("default", d)]⟩) R s := by
  have hw : S ∉ wr := fun z => hs (W.sub _ z)
  have nm : (toString "min" ++ toString ".loop" : String) = "min.loop" := by decide
  refine codeAny_builtin F.entry_min_loop ?_
  rw [Around.under_plainId F.plain_min_loop _]
  show wpAny _ A.in1 (seqItems? (Value.ref S) >>= _) _ _ s
  refine wpAny_bind (wpAny_seqItems hS rfl ?_)
  show wpAny _ A.in1 (tryCatch (pyNext (Value.ref I)) _ >>= _) _ _ s
  cases n with
  | zero =>
    refine wpAny_bind (wpAny_tryCatch (W.done s _ _ st fun h' tk k => ?_))
    show wpAny _ A.in1 (rule _ >>= _) _ _ _
    refine wpAny_bind (wpAny_rule (wpAny_pure ?_))
    exact h0 rfl h' tk fun b ob hb _ e => k b ob hb e
  | succ n =>
    refine wpAny_bind (wpAny_tryCatch (W.item 0 s _ _ (Nat.zero_lt_succ _) st fun x h' tk px st1 k1 => ?_))
    have hS1 := k1 S _ hw hS
    have kk : Stoods wr S s.heap h' := fun b ob hb _ e => k1 b ob hb e
    have ks : Stoods wr S s.heap _ := Stoods.tr kk (stoodS (h := h') (fun _ => #[x, x]))
    show wpAny _ A.in1 (updateSeq S (fun _ => #[x, x]) >>= _) _ _ _
    refine wpAny_bind (wpAny_updateSeq hS1 rfl ?_)
    rw [nm]
    refine wpAny_pure ⟨plainId_quiet F.plain_min_loop _, minG_go W hg hc hs n 0 _ x _ (by omega) (W.frame _ _ _ st1 (bestS (wr := wr) (I := I) hs _)) (hg _ _ g ks) px (Heap.get?_update_self _ hS1 rfl) fun v h2 tk2 pv k2 => ?_⟩
    exact h1 (Nat.zero_lt_succ _) v h2 tk2 pv (ks.tr k2)
theorem argsMinD (a d : Value) : argsOk "min" ⟨[a], [("default", d)]⟩ := by unfold argsOk; kernel_rfl
theorem minD_call {E : Value → Shared → Prop} {s : Shared} {x d : Value} {Q : Value → Shared → Prop}
    (h : wpAny (model prog w) A.in1 (pyIter x) (fun it s2 => ∃ I fp wr n P St bt G, it = .ref I ∧ Walks prog w A.in1 I fp wr n P St ∧ St 0 s2.heap ∧ (∀ b ∈ fp, b < s2.heap.objs.size) ∧ (∀ S, s2.heap.objs.size ≤ S → ∀ h h', G h → Stoods wr S h h' → G h') ∧ G (s2.heap.push { cls := .type "list", dict := none, data := .seq #[] 0, slots := #[] }) ∧ CmpGm prog w A.in1 .Lt G P bt ∧
      (n = 0 → ∀ h' tk, (∀ b o, b ∉ wr → s2.heap.get? b = some o → h'.get? b = some o) → Q d { s2 with heap := h', toks := tk }) ∧
      (0 < n → ∀ v h' tk, P (argBest bt (n - 1)) v → (∀ b o, b ∉ wr → s2.heap.get? b = some o → h'.get? b = some o) → Q v { s2 with heap := h', toks := tk })) E s) :
    wpAny (model prog w) A (call (.builtin "min") [x] [("default", d)]) Q E s := by
  have nm : (toString "min" ++ toString ".loop" : String) = "min.loop" := by decide
  have body : wpAny (model prog w) A.in1 (Builtin.«min» ⟨[x], [("default", d)]⟩) (fun fin s' => match fin with
      | .done f => (match (Except.ok f : Result) with | .ok (.ret v) => Q v s' | .ok _ => False | .error e => E e s')
      | .again c => c.quiet = true ∧ codeAny (model prog w) A c (fun r s2 => match r with | .ok (.ret v) => Q v s2 | .ok _ => False | .error e => E e s2) s') E s := by
    show wpAny _ A.in1 (Builtin.Builtins.bindParams "min" ["key", "default"] 0 ⟨[], [("default", d)]⟩ >>= _) _ _ s
    refine wpAny_bind (wpAny_of_eq (show Builtin.Builtins.bindParams "min" ["key", "default"] 0 ⟨[], [("default", d)]⟩ = pure [none, some d] from rfl) ?_)
    refine wpAny_bind (wpAny_pure (wpAny_bind (wpAny_mono h (fun it s2 hh => ?_) fun _ _ e => e)))
    obtain ⟨I, fp, wr, n, P, St, bt, G, rfl, W, st, hfp, hg, g, hc, q0, q1⟩ := hh
    refine wpAny_bind (wpAny_newObj_type ?_)
    have hs : s2.heap.objs.size ∉ fp := fun z => Nat.lt_irrefl _ (hfp _ z)
    rw [nm]
    have old : ∀ h' : Heap, Stoods wr s2.heap.objs.size (s2.heap.push { cls := .type "list", dict := none, data := .seq #[] 0, slots := #[] }) h' → ∀ b o, b ∉ wr → s2.heap.get? b = some o → h'.get? b = some o := fun h' k b o hb e =>
      k b o hb (Nat.ne_of_lt (Heap.lt_size e)) (Heap.get?_push_of_some _ e)
    exact wpAny_pure ⟨plainId_quiet F.plain_min_loop _, minG_start W (hg _ (Nat.le_refl _)) hc hs (W.frame _ _ _ st fun b _ o e => Heap.get?_push_of_some _ e) g (Heap.get?_push_size _ rfl) (fun z h' tk k => q0 z h' tk (old h' k)) fun z v h' tk pv k => q1 z v h' tk pv (old h' k)⟩
  refine wpAny_call (codeAny_call_builtin F.plain_min F.entry_min ?_)
  simp only [checkBuiltinCall, F.kind_min]
  cases hsig : Manifest.signature? "min" with
  | none => exact wpAny_pure body
  | some sig =>
    have ha : Bind.checkArgs "min" sig ⟨[x], [("default", d)]⟩ = pure () := by
      have := argsMinD x d
      simpa only [argsOk, hsig] using this
    simp only [ha]
    exact wpAny_pure body
end
theorem lexL_lt : ∀ x y : List Int, lexL x y = HT.lexLt x y
  | [], [] => rfl
  | [], _ :: _ => rfl
  | _ :: _, [] => rfl
  | a :: as, b :: bs => by
    rw [lexL_cons, HT.lexLt_cons, lexL_lt as bs]
/-- the best so far is the least -/
theorem best_least {bt : Nat → Nat → Bool} {key : Nat → List Int} (h : ∀ i j, bt i j = lexL (key i) (key j)) : ∀ n, argBest bt n ≤ n ∧ ∀ j, j ≤ n → lexL (key j) (key (argBest bt n)) = false
  | 0 => ⟨Nat.le_refl _, fun j hj => by
      obtain rfl : j = 0 := by omega
      show lexL (key 0) (key 0) = false
      cases e : lexL (key 0) (key 0) with
      | false => rfl
      | true => exact (lexL_asym _ _ e).symm.trans e ▸ rfl⟩
  | n + 1 => by
    obtain ⟨h1, h2⟩ := best_least h n
    show (if bt (n + 1) (argBest bt n) = true then n + 1 else argBest bt n) ≤ n + 1 ∧ ∀ j, j ≤ n + 1 → lexL (key j) (key (if bt (n + 1) (argBest bt n) = true then n + 1 else argBest bt n)) = false
    have irr : ∀ x : List Int, lexL x x = false := fun x => by
      cases e : lexL x x with
      | false => rfl
      | true => rw [lexL_asym _ _ e] at e; cases e
    cases eb : bt (n + 1) (argBest bt n) with
    | true =>
      rw [if_pos rfl]
      rw [h] at eb
      refine ⟨Nat.le_refl _, fun j hj => ?_⟩
      by_cases e : j = n + 1
      · rw [e]; exact irr _
      · exact lexL_tr _ _ _ (lexL_asym _ _ eb) (h2 j (by omega))
    | false =>
      rw [if_neg Bool.false_ne_true]
      rw [h] at eb
      refine ⟨by omega, fun j hj => ?_⟩
      by_cases e : j = n + 1
      · rw [e]; exact eb
      · exact h2 j (by omega)
def rMinD (K : PySem.W.Frag) : List V → List V → Hp → VK → Prop := fun vs zs H Q => ∃ (a : Addr) (xs : List V) (k : V → List Int) (d : V), vs = [V.ref a] ∧ zs = [d] ∧ SqL K H a xs ∧ (∀ x ∈ xs, ∃ t, x = V.ref t ∧ H t = some (.tup ((k x).map V.int))) ∧
  (xs = [] → Q d H) ∧ ∀ x ∈ xs, (∀ y ∈ xs, lexL (k y) (k x) = false) → Q x H
theorem cr_minD {X : Cx} (hcalm : X.calm = true) (hu : X.A.in1.units < cLine) : CallRK X (.builtin "min") [Str.ofString "default"] (rMinD X.K) := by
  intro pins s σ H vs zs us ws Q I r rz h
  obtain ⟨a, xs, k, d, rfl, rfl, hs, hx, q0, q1⟩ := h
  obtain rfl := Vals.ref1 r
  obtain ⟨w1, rfl, e1⟩ := vals1 rz
  obtain ⟨its, rv, hl, hz⟩ := I.list hs
  obtain ⟨ex, e2⟩ := refs_back rv fun x m => by
    obtain ⟨t, e, _⟩ := hx x m
    exact ⟨t, e⟩
  have tn : ∀ v ∈ its, TupN s.heap v (k (backV v)) := fun v hv => by
    obtain ⟨t, rfl⟩ := e2 v hv
    have hm : V.ref t ∈ xs := by rw [ex]; exact List.mem_map.mpr ⟨_, hv, rfl⟩
    obtain ⟨t', e, ht⟩ := hx _ hm
    cases e
    obtain ⟨_, its2, r2, o, ho, hc, n, hd⟩ := I.hok _ _ ht
    exact ⟨t, o, _, n, rfl, ho, hc, hd, by rw [List.toList_toArray]; exact r2.ints⟩
  have hlt : a < s.heap.objs.size := by
    obtain ⟨_, e, _⟩ := hl.isList
    exact Heap.lt_size e
  show wpAny _ _ (call (.builtin "min") [Value.ref a] [("default", w1)]) _ _ _
  refine minD_call ?_
  refine wpAny_pyIter_list hl.isList ?_
  let key : Nat → List Int := fun i => (its[i]?.map fun v => k (backV v)).getD []
  have irr : ∀ x : List Int, lexL x x = false := fun x => by
    cases e : lexL x x with
    | false => rfl
    | true => rw [lexL_asym _ _ e] at e; cases e
  have hW := Walks.list (prog := X.prog) (w := X.w) (A := X.A.in1) (I.ok.hd hcalm) s.heap.objs.size a (Nat.ne_of_lt hlt) its.toArray
  refine ⟨_, [_, a], [_], _, _, _, fun i j => lexL (key i) (key j), fun g => ∀ b o, s.heap.get? b = some o → g.get? b = some o, rfl, hW, ⟨⟨_, Heap.get?_push_size _ rfl, rfl, rfl⟩, hl.isList.push _⟩, fun c hc => ?_, fun S hS h h' g kk b o e => ?_, fun b o e => Heap.get?_push_of_some _ (Heap.get?_push_of_some _ e), fun i j x y t Q' E' g hi hj q => ?_, fun z h' tk kk => ?_, fun z v h' tk hv kk => ?_⟩
  · show c < (s.heap.push _).objs.size
    rw [Heap.size_push]
    rcases List.mem_cons.mp hc with rfl | hc
    · exact Nat.lt_succ_self _
    · rw [List.mem_singleton.mp hc]
      exact Nat.lt_succ_of_lt hlt
  · have hb := Heap.lt_size e
    refine kk b o (fun z => ?_) (fun z => ?_) (g b o e)
    · rw [List.mem_singleton.mp z] at hb
      exact Nat.lt_irrefl _ hb
    · have e9 : (s.heap.push { cls := .type "list_iterator", data := .fields #[.ref a, .int 0 0] }).objs.size = s.heap.objs.size + 1 := Heap.size_push ..
      have hS2 : s.heap.objs.size + 1 ≤ S := by
        rw [← e9]
        exact hS
      rw [z] at hb
      exact absurd (Nat.lt_of_lt_of_le hb (Nat.le_trans (Nat.le_succ _) hS2)) (Nat.lt_irrefl _)
  · have hi' : its[i]? = some x := by simpa using hi
    have hj' : its[j]? = some y := by simpa using hj
    obtain ⟨tx, ox, ix, nx, rfl, ho, hc, hd, hn⟩ := tn x (List.mem_of_getElem? hi')
    obtain ⟨ty, oy, iy, ny, rfl, ho', hc', hd', hn'⟩ := tn y (List.mem_of_getElem? hj')
    have e3 : key i = k (backV (.ref tx)) := by
      show (its[i]?.map _).getD [] = _
      rw [hi']; rfl
    have e4 : key j = k (backV (.ref ty)) := by
      show (its[j]?.map _).getD [] = _
      rw [hj']; rfl
    rw [← e3] at hn
    rw [← e4] at hn'
    refine (HT.lt_tupInts (items := ix) (items2 := iy) ⟨ox, g _ _ ho, hc, nx, hd⟩ ⟨oy, g _ _ ho', hc', ny, hd'⟩ hn hn' hu ?_ : wpAny _ _ (compareOp .Lt (Value.ref tx) (Value.ref ty)) _ _ _)
    rw [← lexL_lt]
    exact q
  · have kk' : ∀ b o, s.heap.get? b = some o → h'.get? b = some o := fun b o e => kk b o (fun z => absurd (List.mem_singleton.mp z ▸ Heap.lt_size e) (Nat.lt_irrefl _)) (Heap.get?_push_of_some _ e)
    have hx0 : xs = [] := by
      have := rv.length
      have z2 : its.length = 0 := by simpa using z
      rw [z2] at this
      exact List.length_eq_zero_iff.mp this
    exact ⟨d, H, I.kept kk', e1, q0 hx0⟩
  · have kk' : ∀ b o, s.heap.get? b = some o → h'.get? b = some o := fun b o e => kk b o (fun z => absurd (List.mem_singleton.mp z ▸ Heap.lt_size e) (Nat.lt_irrefl _)) (Heap.get?_push_of_some _ e)
    have z2 : 0 < its.length := by simpa using z
    obtain ⟨b1, b2⟩ := best_least (bt := fun i j => lexL (key i) (key j)) (key := key) (fun _ _ => rfl) (its.toArray.size - 1)
    have hv' : its[argBest (fun i j => lexL (key i) (key j)) (its.toArray.size - 1)]? = some v := by simpa using hv
    have hm := List.mem_of_getElem? hv'
    obtain ⟨t, rfl⟩ := e2 v hm
    refine ⟨backV (.ref t), H, I.kept kk', rfl, q1 _ (by rw [ex]; exact List.mem_map.mpr ⟨_, hm, rfl⟩) fun y hy => ?_⟩
    rw [ex] at hy
    obtain ⟨u, hu', rfl⟩ := List.mem_map.mp hy
    obtain ⟨j, hj, e⟩ := List.getElem_of_mem hu'
    have := b2 j (by simp; omega)
    have e5 : key j = k (backV u) := by
      show (its[j]?.map _).getD [] = _
      rw [List.getElem?_eq_getElem hj, e]; rfl
    have e6 : key (argBest (fun i j => lexL (key i) (key j)) (its.toArray.size - 1)) = k (backV (.ref t)) := by
      show (its[_]?.map _).getD [] = _
      rw [hv']; rfl
    rw [e5, e6] at this
    exact this
end Em

namespace Em
open PySem PySem.Spec PyProof.Rows L2 Qt

/-! ### an Embers' fields -/
def emF (v : V) (b n : Int) (w l r : Addr) : List (Str × V) := [("_net", v), ("_beat", .int b), ("_flames", .int n), ("_waiting", .ref w), ("_lights", .ref l), ("_rows", .ref r)]
section
variable {v : V} {b n : Int} {w l r : Addr}
theorem em_ne : (("_net" : Str) == "_beat") = false ∧ (("_net" : Str) == "_flames") = false ∧ (("_net" : Str) == "_waiting") = false ∧ (("_net" : Str) == "_lights") = false ∧ (("_net" : Str) == "_rows") = false ∧
    (("_beat" : Str) == "_flames") = false ∧ (("_beat" : Str) == "_waiting") = false ∧ (("_beat" : Str) == "_lights") = false ∧ (("_beat" : Str) == "_rows") = false ∧
    (("_flames" : Str) == "_waiting") = false ∧ (("_flames" : Str) == "_lights") = false ∧ (("_flames" : Str) == "_rows") = false ∧
    (("_waiting" : Str) == "_lights") = false ∧ (("_waiting" : Str) == "_rows") = false ∧ (("_lights" : Str) == "_rows") = false := by decide +kernel
theorem look_c {α : Type} {x y : Str} {v : α} {r : List (Str × α)} (h : (y == x) = false) : List.lookup x ((y, v) :: r) = List.lookup x r := by
  have h2 : (x == y) = false := by
    have : y ≠ x := by simpa using h
    simpa using this.symm
  show (match x == y with | true => some v | false => List.lookup x r) = _
  rw [h2]
theorem look_h {α : Type} {x : Str} {v : α} {r : List (Str × α)} : List.lookup x ((x, v) :: r) = some v := by
  show (match x == x with | true => some v | false => List.lookup x r) = _
  rw [beq_self_eq_true]
theorem em_net : (emF v b n w l r).lookup ("_net" : Str) = some v := look_h
theorem em_beat : (emF v b n w l r).lookup ("_beat" : Str) = some (.int b) := (look_c (by decide +kernel)).trans look_h
theorem em_flames : (emF v b n w l r).lookup ("_flames" : Str) = some (.int n) := (look_c (by decide +kernel)).trans ((look_c (by decide +kernel)).trans look_h)
theorem em_waiting : (emF v b n w l r).lookup ("_waiting" : Str) = some (.ref w) := (look_c (by decide +kernel)).trans ((look_c (by decide +kernel)).trans ((look_c (by decide +kernel)).trans look_h))
theorem em_lights : (emF v b n w l r).lookup ("_lights" : Str) = some (.ref l) := (look_c (by decide +kernel)).trans ((look_c (by decide +kernel)).trans ((look_c (by decide +kernel)).trans ((look_c (by decide +kernel)).trans look_h)))
theorem em_rows : (emF v b n w l r).lookup ("_rows" : Str) = some (.ref r) := (look_c (by decide +kernel)).trans ((look_c (by decide +kernel)).trans ((look_c (by decide +kernel)).trans ((look_c (by decide +kernel)).trans ((look_c (by decide +kernel)).trans look_h))))
theorem em_no {m : Str} (h : m ∉ (["_net", "_beat", "_flames", "_waiting", "_lights", "_rows"] : List Str)) : (emF v b n w l r).lookup m = none := by
  simp only [List.mem_cons, List.not_mem_nil, or_false, not_or] at h
  obtain ⟨h1, h2, h3, h4, h5, h6⟩ := h
  have f : ∀ {x : Str}, m ≠ x → (x == m) = false := fun {x} e => by simpa using fun z => e z.symm
  unfold emF
  rw [look_c (f h1), look_c (f h2), look_c (f h3), look_c (f h4), look_c (f h5), look_c (f h6)]
  rfl
theorem putF_c {x y : Str} {v u : V} {r : List (Str × V)} (h : ¬ y = x) : putF x v ((y, u) :: r) = (y, u) :: putF x v r := by
  rw [putF]
  exact if_neg h
theorem putF_h {x : Str} {v u : V} {r : List (Str × V)} : putF x v ((x, u) :: r) = (x, v) :: r := by
  rw [putF]
  exact if_pos rfl
theorem pl {x : Str} {v : V} : ∀ {r : List (Str × V)} {k : Nat}, r.length ≤ k → (putF x v r).length ≤ k + 1
  | [], k, _ => Nat.succ_le_succ (Nat.zero_le _)
  | (y, u) :: r, 0, h => absurd h (Nat.not_succ_le_zero _)
  | (y, u) :: r, k + 1, h => by
    rw [putF]
    split
    · exact Nat.le_succ_of_le h
    · exact Nat.succ_le_succ (pl (Nat.le_of_succ_le_succ h))
theorem putF_n {x : Str} {v : V} : putF x v [] = [(x, v)] := rfl
theorem em_putBeat {y : Int} : putF "_beat" (.int y) (emF v b n w l r) = emF v y n w l r := by
  unfold emF
  rw [putF_c (by decide +kernel), putF_h]
theorem em_putFlames {y : Int} : putF "_flames" (.int y) (emF v b n w l r) = emF v b y w l r := by
  unfold emF
  rw [putF_c (by decide +kernel), putF_c (by decide +kernel), putF_h]
theorem em_putWaiting {y : Addr} : putF "_waiting" (.ref y) (emF v b n w l r) = emF v b n y l r := by
  unfold emF
  rw [putF_c (by decide +kernel), putF_c (by decide +kernel), putF_c (by decide +kernel), putF_h]
theorem em_new : putF "_rows" (.ref r) (putF "_lights" (.ref l) (putF "_waiting" (.ref w) (putF "_flames" (.int n) (putF "_beat" (.int b) (putF "_net" v []))))) = emF v b n w l r := by
  have p2 : putF "_beat" (.int b) (putF "_net" v []) = ([("_net", v), ("_beat", .int b)] : List (Str × V)) := by rw [putF_n, putF_c (by decide +kernel), putF_n]
  have p3 : putF "_flames" (.int n) ([("_net", v), ("_beat", .int b)] : List (Str × V)) = ([("_net", v), ("_beat", .int b), ("_flames", .int n)] : List (Str × V)) := by rw [putF_c (by decide +kernel), putF_c (by decide +kernel), putF_n]
  have p4 : putF "_waiting" (.ref w) ([("_net", v), ("_beat", .int b), ("_flames", .int n)] : List (Str × V)) = ([("_net", v), ("_beat", .int b), ("_flames", .int n), ("_waiting", .ref w)] : List (Str × V)) := by
    rw [putF_c (by decide +kernel), putF_c (by decide +kernel), putF_c (by decide +kernel), putF_n]
  have p5 : putF "_lights" (.ref l) ([("_net", v), ("_beat", .int b), ("_flames", .int n), ("_waiting", .ref w)] : List (Str × V)) = ([("_net", v), ("_beat", .int b), ("_flames", .int n), ("_waiting", .ref w), ("_lights", .ref l)] : List (Str × V)) := by
    rw [putF_c (by decide +kernel), putF_c (by decide +kernel), putF_c (by decide +kernel), putF_c (by decide +kernel), putF_n]
  rw [p2, p3, p4, p5, putF_c (by decide +kernel), putF_c (by decide +kernel), putF_c (by decide +kernel), putF_c (by decide +kernel), putF_c (by decide +kernel), putF_n]
  rfl
end
/-- a test's way -/
theorem condT {A B : Bool → Hp → Prop} {H : Hp} (h : A true H) : (fun (b : Bool) (H1 : Hp) => if b = true then A b H1 else B b H1) true H := by
  show (if true = true then _ else B true H)
  rw [if_pos rfl]; exact h
theorem condF {A B : Bool → Hp → Prop} {H : Hp} (h : B false H) : (fun (b : Bool) (H1 : Hp) => if b = true then A b H1 else B b H1) false H := by
  show (if false = true then A false H else _)
  rw [if_neg Bool.false_ne_true]; exact h
/-- a def with defaults, its body -/
theorem okKw {P : Program} {w : World} {K : PySem.W.Frag} {mg : Str → Option Value} {base : Heap} {x qual : Str} {st : Stmt} {dvs : List V} {kws : List (Str × V)} {f : Addr} {fd : FuncData} {N ps : List Str} {k : Nat} {sp : Sp}
    (F : FunD K x qual (defArgs st) (defBody st) (defScope st) dvs kws f fd) (S : FnScope N ps (defScope st)) (len : ∀ vs H Q E, sp vs H Q E → vs.length = ps.length)
    (hb : ∀ (cdv : Value) (A : Around) (outer : List Env) (s : Shared) (H : Hp) (vs : List V) (Q : VK) (E : XK), Room k (A.deeper (envOfC qual (defScope st) s.heap.objs.size f cdv)) → sp vs H Q E →
      ∃ t, PSs (cxOf CX0 P w K mg base N qual (defScope st) f cdv A outer s H E).nox (defBody st) t ∧ t { nx := fun _ H' => Q .non H', rt := Q } (start N vs) H) : FnOk P w K mg base CX0 (k + 1) f fd ps sp :=
  F.ok S len fun cdv A outer s H vs Q E hr h => let ⟨t, h1, q⟩ := hb cdv A outer s H vs Q E hr h; ⟨t, h1.nox, q⟩
/-- what an Embers has come to -/
structure EmS where
  N : Net
  b : Nat
  n : Nat
  W : List (Nat × Nat)
  L : List Lt
  R : List Row
structure Emb (C : Addr) (H : Hp) (e w l r : Addr) (s : EmS) : Prop where
  ex : ∃ (dx : Addr) (v : V), H e = some (.ins C dx (emF v s.b s.n w l r)) ∧ Tu H v (netD s.N)
  wt : ∃ ws, H w = some (.lst ws) ∧ TuA H ws (s.W.map waitD)
  lt : ∃ ls, H l = some (.lst ls) ∧ TuA H ls (s.L.map lightD)
  rw : ∃ rs, H r = some (.lst rs) ∧ TuA H rs (s.R.map rowD)
  nd : w ≠ l ∧ w ≠ r ∧ l ≠ r
  ok : NetOk s.N
  ln : s.L.length = s.N.length
  wk : ∀ p ∈ s.W, p.2 < s.N.length
theorem Emb.kp {C : Addr} {H H1 : Hp} {e w l r : Addr} {s : EmS} {S : List Addr} (h : Emb C H e w l r s) (k : Kp S H H1) (t : Kt H H1) (hS : ∀ x ∈ [e, w, l, r], x ∉ S) : Emb C H1 e w l r s := by
  obtain ⟨⟨dx, v, h1, h2⟩, ⟨ws, h3, h4⟩, ⟨ls, h5, h6⟩, ⟨rs, h7, h8⟩, nd, ok, ln, wk⟩ := h
  simp only [List.mem_cons, List.not_mem_nil, or_false, forall_eq_or_imp, forall_eq] at hS
  obtain ⟨n1, n2, n3, n4⟩ := hS
  exact ⟨⟨dx, v, k.ins n1 h1, h2.kt t⟩, ⟨ws, k.lst n2 h3, h4.kt t⟩, ⟨ls, k.lst n3 h5, h6.kt t⟩, ⟨rs, k.lst n4 h7, h8.kt t⟩, nd, ok, ln, wk⟩
theorem Emb.tr {C : Addr} {H : Hp} {e w l r : Addr} {s : EmS} (h : Emb C H e w l r s) : ∀ x ∈ [e, w, l, r], H x ≠ none := by
  obtain ⟨⟨dx, v, h1, h2⟩, ⟨ws, h3, h4⟩, ⟨ls, h5, h6⟩, ⟨rs, h7, h8⟩, _⟩ := h
  simp only [List.mem_cons, List.not_mem_nil, or_false, forall_eq_or_imp, forall_eq]
  refine ⟨?_, ?_, ?_, ?_⟩
  · rw [h1]; exact fun z => by cases z
  · rw [h3]; exact fun z => by cases z
  · rw [h5]; exact fun z => by cases z
  · rw [h7]; exact fun z => by cases z
theorem Emb.nt {C : Addr} {H : Hp} {e w l r : Addr} {s : EmS} (h : Emb C H e w l r s) : ∀ x ∈ [e, w, l, r], ∀ xs, H x ≠ some (.tup xs) := by
  obtain ⟨⟨dx, v, h1, h2⟩, ⟨ws, h3, h4⟩, ⟨ls, h5, h6⟩, ⟨rs, h7, h8⟩, _⟩ := h
  simp only [List.mem_cons, List.not_mem_nil, or_false, forall_eq_or_imp, forall_eq]
  refine ⟨fun xs => ?_, fun xs => ?_, fun xs => ?_, fun xs => ?_⟩
  · rw [h1]; exact fun z => by cases z
  · rw [h3]; exact fun z => by cases z
  · rw [h5]; exact fun z => by cases z
  · rw [h7]; exact fun z => by cases z
/-- one beat gone -/
def EmS.go (s : EmS) : EmS := { s with b := s.b + 1, W := [], L := (beatA s.N s.b s.L s.W).L }
def EmS.rows (s : EmS) : List Row := (beatA s.N s.b s.L s.W).rows
/-- so many beats gone, what happened so far apart -/
def EmS.goN (s : EmS) : Nat → EmS × List Row
  | 0 => (s, [])
  | k + 1 => ((s.goN k).1.go, (s.goN k).2 ++ (s.goN k).1.rows)
theorem getD_some {L : List Lt} {k : Nat} {x : Lt} (h : L[k]? = some x) : L.getD k none = x := by
  rw [List.getD_eq_getElem?_getD, h]; rfl
theorem getD_css {css : List (List Nat)} {k : Nat} {g : List Nat} (h : css[k]? = some g) : css.getD k [] = g := by
  rw [List.getD_eq_getElem?_getD, h]; rfl
/-- a light in the heap -/
theorem light_at {H : Hp} {v : V} {x : Lt} (h : Tu H v (lightD x)) : (x = none ∧ v = .non) ∨ ∃ f t a, x = some (f, t) ∧ v = .ref a ∧ H a = some (.tup [.int (f : Nat), .int (t : Nat)]) := by
  cases x with
  | none =>
    cases h
    exact .inl ⟨rfl, rfl⟩
  | some p =>
    obtain ⟨f, t⟩ := p
    cases h with
    | @tup a xs ds h r =>
      cases r with
      | cons r1 r =>
        cases r1
        cases r with
        | cons r2 r =>
          cases r2
          cases r
          exact .inr ⟨f, t, a, rfl, rfl, h⟩
theorem wait_at {H : Hp} {v : V} {p : Nat × Nat} (h : Tu H v (waitD p)) : ∃ a, v = .ref a ∧ H a = some (.tup [.int (p.1 : Nat), .int (p.2 : Nat)]) := by
  cases h with
  | @tup a xs ds h r =>
    cases r with
    | cons r1 r =>
      cases r1
      cases r with
      | cons r2 r =>
        cases r2
        cases r
        exact ⟨a, rfl, h⟩
end Em

namespace Em
open PySem PySem.Spec PyProof.Rows L2 Qt

/-! ### new lists in a list -/
structure BagNew (H : Hp) (c : Addr) (ps : List Addr) (j : Nat) (H' : Hp) : Prop where
  bag : Bag H' c ps (List.replicate j [])
  new : ∀ x ∈ c :: ps, H x = none
  kp : Kp [] H H'
theorem BagNew.start {H : Hp} {c : Addr} (nc : H c = none) : BagNew H c [] 0 (upd H c (.lst [])) :=
  ⟨⟨upd_same, by simp, rfl, fun i p g hp => by simp at hp⟩, fun x hx => by rw [List.mem_singleton.mp hx]; exact nc, Kp.new nc⟩
theorem BagNew.step {H H' : Hp} {c q : Addr} {ps : List Addr} {j : Nat} (h : BagNew H c ps j H') (nq : H' q = none) :
    (upd H' q (.lst [])) c = some (.lst (ps.map V.ref)) ∧ BagNew H c (ps ++ [q]) (j + 1) (upd (upd H' q (.lst [])) c (.lst (ps.map V.ref ++ [.ref q]))) := by
  have kq : Kp [] H' (upd H' q (.lst [])) := Kp.new nq
  have hc := kq.lst (by simp) h.bag.top
  have nc := h.new c List.mem_cons_self
  refine ⟨hc, ?_, fun x hx => ?_, ?_⟩
  · rw [List.replicate_succ']
    exact h.bag.more nq
  · rcases List.mem_cons.mp hx with z | z
    · rw [z]; exact nc
    · rcases List.mem_append.mp z with z | z
      · exact h.new x (List.mem_cons_of_mem _ z)
      · rw [List.mem_singleton.mp z]
        cases y : H q with
        | none => rfl
        | some o => exact absurd nq (h.kp.tr_ q (by rw [y]; exact fun y => by cases y))
  · exact Kp.drop nc ((h.kp.tr kq).of0.tr (Kp.put (S := [c]) (by simp) hc fun ps z => by cases z))

/-! ### the law's own walk: what burns, and since how many beats -/
def burnD (c : Int) : Lt → PyData
  | none => .none
  | some (f, t) => .tuple [.int f, .int (c - t)]
theorem burn_at {H : Hp} {v : V} {c : Int} {x : Lt} (h : Tu H v (burnD c x)) : (x = none ∧ v = .non) ∨ ∃ f t a, x = some (f, t) ∧ v = .ref a ∧ H a = some (.tup [.int (f : Nat), .int (c - (t : Nat))]) := by
  cases x with
  | none =>
    cases h
    exact .inl ⟨rfl, rfl⟩
  | some p =>
    obtain ⟨f, t⟩ := p
    cases h with
    | @tup a xs ds h r =>
      cases r with
      | cons r1 r =>
        cases r1
        cases r with
        | cons r2 r =>
          cases r2
          cases r
          exact .inr ⟨f, t, a, rfl, rfl, h⟩
/-- the first k of it at the clock c, the others a beat ago -/
def mixD (c : Int) (k : Nat) (L : List Lt) : List PyData := (List.range L.length).map fun i => burnD (if i < k then c else c - 1) (L.getD i none)
theorem mixD_len (c : Int) (k : Nat) (L : List Lt) : (mixD c k L).length = L.length := by unfold mixD; rw [List.length_map, List.length_range]
theorem mixD_get {c : Int} {k i : Nat} {L : List Lt} {x : Lt} (h : L[i]? = some x) : (mixD c k L)[i]? = some (burnD (if i < k then c else c - 1) x) := by
  have hi := (List.getElem?_eq_some_iff.mp h).1
  unfold mixD
  rw [List.getElem?_map, List.getElem?_range hi]
  show some (burnD _ (L.getD i none)) = _
  rw [getD_some h]
theorem mixD_zero (c : Int) (L : List Lt) : mixD c 0 L = L.map (burnD (c - 1)) := by
  refine List.ext_getElem? fun i => ?_
  cases h : L[i]? with
  | none => rw [List.getElem?_map, h, List.getElem?_eq_none (by rw [mixD_len]; exact List.getElem?_eq_none_iff.mp h)]; rfl
  | some x => rw [mixD_get h, List.getElem?_map, h]; rfl
theorem mixD_all (c : Int) (L : List Lt) : mixD c L.length L = L.map (burnD c) := by
  refine List.ext_getElem? fun i => ?_
  cases h : L[i]? with
  | none => rw [List.getElem?_map, h, List.getElem?_eq_none (by rw [mixD_len]; exact List.getElem?_eq_none_iff.mp h)]; rfl
  | some x =>
    rw [mixD_get h, List.getElem?_map, h, if_pos (List.getElem?_eq_some_iff.mp h).1]; rfl
theorem mixD_set {c : Int} {k : Nat} {L : List Lt} (hk : k < L.length) (x : Lt) : mixD c (k + 1) (L.set k x) = (mixD c k L).set k (burnD c x) := by
  refine List.ext_getElem? fun i => ?_
  by_cases e : i = k
  · subst e
    rw [mixD_get (List.getElem?_set_self hk), if_pos (Nat.lt_succ_self _), List.getElem?_set_self (by rw [mixD_len]; exact hk)]
  · rw [List.getElem?_set_ne (fun z => e z.symm)]
    cases h : L[i]? with
    | none =>
      have := List.getElem?_eq_none_iff.mp h
      rw [List.getElem?_eq_none (by rw [mixD_len, List.length_set]; exact this), List.getElem?_eq_none (by rw [mixD_len]; exact this)]
    | some y =>
      rw [mixD_get h, mixD_get (by rw [List.getElem?_set_ne (fun z => e z.symm)]; exact h)]
      congr 1
      by_cases h1 : i < k
      · rw [if_pos h1, if_pos (by omega)]
      · rw [if_neg h1, if_neg (by omega)]
theorem set_self {L : List Lt} {k : Nat} {x : Lt} (h : L[k]? = some x) : L.set k x = L := by
  obtain ⟨hk, rfl⟩ := List.getElem?_eq_some_iff.mp h
  exact List.set_getElem_self hk
theorem mixD_same {c : Int} {k : Nat} {L : List Lt} {x : Lt} (h : L[k]? = some x) : mixD c (k + 1) L = (mixD c k L).set k (burnD c x) := by
  have := mixD_set (c := c) (List.getElem?_eq_some_iff.mp h).1 x
  rwa [set_self h] at this
theorem mixD_none {c : Int} {k : Nat} {L : List Lt} (h : L[k]? = some none) : mixD c (k + 1) L = mixD c k L := by
  rw [mixD_same h]
  refine List.ext_getElem? fun i => ?_
  by_cases e : i = k
  · subst e
    rw [List.getElem?_set_self (by rw [mixD_len]; exact (List.getElem?_eq_some_iff.mp h).1), mixD_get h]
    rfl
  · rw [List.getElem?_set_ne (fun z => e z.symm)]
/-! a flame more comes -/
theorem meet_snoc (b k f : Nat) (l : Lt) (fs : List Nat) : meet b k l (fs ++ [f]) = match (meet b k l fs).1 with
    | none => (some (f, b), (meet b k l fs).2 ++ [.lit b k f])
    | some (g, t) => (some (g, t), (meet b k l fs).2 ++ [.lost b k f g]) := by
  cases l with
  | some p =>
    obtain ⟨g, t⟩ := p
    show (some (g, t), (fs ++ [f]).map _) = _
    rw [List.map_append]
    rfl
  | none =>
    cases fs with
    | nil => rfl
    | cons h r =>
      show (some (h, b), Row.lit b k h :: (r ++ [f]).map _) = _
      rw [List.map_append]
      rfl
theorem meetN_pre (b : Nat) (css : List (List Nat)) (L : List Lt) (R0 : List Em.Row) : ∀ k, (meetN b css k ⟨L, R0⟩).L = (meetN b css k ⟨L, []⟩).L ∧ (meetN b css k ⟨L, R0⟩).rows = R0 ++ (meetN b css k ⟨L, []⟩).rows
  | 0 => ⟨rfl, (List.append_nil _).symm⟩
  | k + 1 => by
    obtain ⟨a1, a2⟩ := meetN_pre b css L R0 k
    refine ⟨?_, ?_⟩
    · show (meetK b css k _).L = (meetK b css k _).L
      unfold meetK
      rw [a1]
    · show (meetK b css k _).rows = R0 ++ (meetK b css k _).rows
      unfold meetK
      rw [a1, a2, List.append_assoc]
/-! ### the walk -/
def numW : Nat → List Nat → List (Nat × Nat)
  | _, [] => []
  | m, k :: g => (m, k) :: numW (m + 1) g
theorem numW_len : ∀ (m : Nat) (g : List Nat), (numW m g).length = g.length
  | _, [] => rfl
  | m, k :: g => by show _ + 1 = _ + 1; rw [numW_len]
theorem numW_take : ∀ (m : Nat) (g : List Nat) (j : Nat) (k : Nat), g[j]? = some k → numW m (g.take (j + 1)) = numW m (g.take j) ++ [(m + j, k)]
  | m, [], j, k, h => by cases h
  | m, x :: g, 0, k, h => by cases h; rfl
  | m, x :: g, j + 1, k, h => by
    have := numW_take (m + 1) g j k (by simpa using h)
    show (m, x) :: numW (m + 1) (g.take (j + 1)) = (m, x) :: numW (m + 1) (g.take j) ++ _
    rw [this, show m + 1 + j = m + (j + 1) by omega]
    rfl
theorem numW_mem : ∀ (m : Nat) (g : List Nat) (p : Nat × Nat), p ∈ numW m g → p.2 ∈ g
  | m, x :: g, p, h => by
    rcases List.mem_cons.mp (show p ∈ (m, x) :: numW (m + 1) g from h) with rfl | h
    · exact List.mem_cons_self
    · exact List.mem_cons_of_mem _ (numW_mem (m + 1) g p h)
structure Wk where
  L : List Lt
  rows : List Em.Row
  many : Nat
  stands : List (List Lt)
def wk (N : Net) (css : List (List Nat)) : Nat → Wk
  | 0 => ⟨List.replicate N.length none, [], 0, []⟩
  | b + 1 =>
    let s := wk N css b
    let B := beatA N b s.L (numW s.many (css.getD b []))
    ⟨B.L, s.rows ++ B.rows, s.many + (css.getD b []).length, s.stands ++ [B.L]⟩
theorem wk_len {N : Net} {css : List (List Nat)} : ∀ b, (wk N css b).L.length = N.length ∧ (wk N css b).rows.length ≤ N.length * b + tot (css.take b) ∧ (wk N css b).many = tot (css.take b)
  | 0 => ⟨List.length_replicate, Nat.zero_le _, rfl⟩
  | b + 1 => by
    obtain ⟨a1, a2, a3⟩ := wk_len (N := N) (css := css) b
    obtain ⟨b1, b2⟩ := beatA_len (b := b) (W := numW (wk N css b).many (css.getD b [])) a1
    have e : tot (css.take (b + 1)) = tot (css.take b) + (css.getD b []).length := by
      by_cases hk : b < css.length
      · rw [List.take_add_one, List.getElem?_eq_getElem hk]
        unfold tot
        rw [List.map_append, List.sum_append, List.getD_eq_getElem?_getD, List.getElem?_eq_getElem hk]
        simp
      · rw [show css.getD b [] = [] by rw [List.getD_eq_getElem?_getD, List.getElem?_eq_none (by omega)]; rfl, List.take_of_length_le (by omega), List.take_of_length_le (by omega)]
        rfl
    refine ⟨b1, ?_, ?_⟩
    · show ((wk N css b).rows ++ _).length ≤ _
      rw [numW_len] at b2
      rw [List.length_append, Nat.mul_succ]
      omega
    · show (wk N css b).many + _ = _
      omega
theorem wk_stands {N : Net} {css : List (List Nat)} : ∀ b, (wk N css b).stands.length = b ∧ ∀ i, i < b → (wk N css b).stands[i]? = some (wk N css (i + 1)).L
  | 0 => ⟨rfl, fun i h => absurd h (Nat.not_lt_zero _)⟩
  | b + 1 => by
    obtain ⟨a1, a2⟩ := wk_stands (N := N) (css := css) b
    refine ⟨by show ((wk N css b).stands ++ [_]).length = _; rw [List.length_append, a1]; rfl, fun i h => ?_⟩
    show ((wk N css b).stands ++ [_])[i]? = _
    by_cases e : i < b
    · rw [List.getElem?_append_left (by omega)]
      exact a2 i e
    · obtain rfl : i = b := by omega
      rw [List.getElem?_append_right (by omega), a1, Nat.sub_self]
      rfl
theorem wk_at {N : Net} {css : List (List Nat)} : ∀ b, ∀ r ∈ (wk N css b).rows, r.at_ < b
  | 0 => fun r h => by cases h
  | b + 1 => fun r h => by
    rcases List.mem_append.mp (show r ∈ (wk N css b).rows ++ _ from h) with z | z
    · exact Nat.lt_succ_of_lt (wk_at b r z)
    · rw [beatA_at _ _ _ _ r z]
      exact Nat.lt_succ_self _
/-- what happens at a beat of it -/
def wkB (N : Net) (css : List (List Nat)) (b : Nat) : List Em.Row := (beatA N b (wk N css b).L (numW (wk N css b).many (css.getD b []))).rows
theorem wk_filter {N : Net} {css : List (List Nat)} {b : Nat} : ∀ n, b < n → (wk N css n).rows.filter (fun r => decide (r.at_ = b)) = wkB N css b
  | 0, h => absurd h (Nat.not_lt_zero _)
  | n + 1, h => by
    show ((wk N css n).rows ++ wkB N css n).filter _ = _
    rw [List.filter_append]
    have hn : ∀ r ∈ wkB N css n, r.at_ = n := beatA_at _ _ _ _
    by_cases e : b = n
    · subst e
      rw [List.filter_eq_nil_iff.mpr (fun r hr => by have := wk_at b r hr; simp; omega), List.filter_eq_self.mpr (fun r hr => by simp [hn r hr])]
      rfl
    · rw [wk_filter n (by omega), List.filter_eq_nil_iff.mpr (fun r hr => by rw [hn r hr]; simp; omega), List.append_nil]
/-! what burns is not over -/
theorem darkK_get {N : Net} {b k i : Nat} {s : Dk} {f t : Nat} (h : (darkK N b k s).L[i]? = some (some (f, t))) : s.L[i]? = some (some (f, t)) ∧ (i = k → (b : Int) < (t : Int) + burnOf N k) := by
  unfold darkK at h
  split at h
  · rename_i hn
    refine ⟨h, fun e => ?_⟩
    subst e
    rw [getD_some h] at hn
    cases hn
  · rename_i f' t' hn
    have key : ∀ L', L' = s.L.set k none → L'[i]? = some (some (f, t)) → s.L[i]? = some (some (f, t)) ∧ (i = k → (b : Int) < (t : Int) + burnOf N k) := fun L' e hL => by
      by_cases hk : i = k
      · subst hk
        rw [e] at hL
        by_cases hl : i < s.L.length
        · rw [List.getElem?_set_self hl] at hL; cases hL
        · rw [List.getElem?_eq_none (by rw [List.length_set]; omega)] at hL; cases hL
      · rw [e, List.getElem?_set_ne (fun z => hk z.symm)] at hL
        exact ⟨hL, fun z => absurd z hk⟩
    split at h
    · rename_i hc
      refine ⟨h, fun e => ?_⟩
      subst e
      rw [getD_some h] at hn
      cases hn
      exact hc
    · split at h
      · exact key _ rfl h
      · exact key _ rfl h
theorem darkN_get {N : Net} {b i : Nat} {s : Dk} {f t : Nat} : ∀ k, (darkN N b k s).L[i]? = some (some (f, t)) → s.L[i]? = some (some (f, t)) ∧ (i < k → (b : Int) < (t : Int) + burnOf N i)
  | 0, h => ⟨h, fun z => absurd z (Nat.not_lt_zero _)⟩
  | k + 1, h => by
    obtain ⟨a1, a2⟩ := darkK_get (show (darkK N b k (darkN N b k s)).L[i]? = _ from h)
    obtain ⟨b1, b2⟩ := darkN_get k a1
    refine ⟨b1, fun hi => ?_⟩
    by_cases e : i = k
    · subst e; exact a2 rfl
    · exact b2 (by omega)
theorem meetN_get {b i : Nat} {css : List (List Nat)} {s : Ms} {f t : Nat} : ∀ k, (meetN b css k s).L[i]? = some (some (f, t)) → s.L[i]? = some (some (f, t)) ∨ t = b
  | 0, h => .inl h
  | k + 1, h => by
    have h2 : ((meetN b css k s).L.set k _)[i]? = _ := h
    by_cases e : i = k
    · subst e
      by_cases hl : i < (meetN b css i s).L.length
      · rw [List.getElem?_set_self hl] at h2
        have h3 := Option.some.inj h2
        obtain ⟨x, hx⟩ : ∃ x, (meetN b css i s).L[i]? = some x := ⟨_, List.getElem?_eq_getElem hl⟩
        rw [getD_some hx] at h3
        cases x with
        | none =>
          generalize srt (css.getD i []) = fs at h3
          cases fs with
          | nil => cases h3
          | cons g r =>
            cases h3
            exact .inr rfl
        | some p =>
          obtain ⟨g, u⟩ := p
          cases h3
          exact meetN_get i hx
      · rw [List.getElem?_eq_none (by rw [List.length_set]; omega)] at h2; cases h2
    · rw [List.getElem?_set_ne (fun z => e z.symm)] at h2
      exact meetN_get k h2
theorem beat_fresh {N : Net} {b : Nat} {L : List Lt} {W : List (Nat × Nat)} (ok : NetOk N) (hl : L.length = N.length) (h : Fresh N b L) : Fresh N (b + 1) (beatA N b L W).L := by
  intro k f t hk
  have hkN : k < N.length := by
    have := (List.getElem?_eq_some_iff.mp hk).1
    rw [(beatA_len hl).1] at this
    exact this
  have hp := List.getElem?_eq_getElem hkN
  have h1 : 1 ≤ burnOf N k := by rw [burnOf_get hp]; exact ok.len _ (List.getElem_mem hkN)
  rcases meetN_get _ hk with z | z
  · obtain ⟨a1, a2⟩ := darkN_get _ (show (darkN N b N.length ⟨L, List.replicate N.length [], []⟩).L[k]? = some (some (f, t)) from z)
    have := h k f t a1
    have := a2 hkN
    omega
  · subst z
    omega
theorem wk_fresh {N : Net} {css : List (List Nat)} (ok : NetOk N) : ∀ b, Fresh N b (wk N css b).L
  | 0 => fun k f t h => by
    rw [show (wk N css 0).L = List.replicate N.length none from rfl] at h
    rw [List.getElem?_replicate] at h
    split at h <;> cases h
  | b + 1 => beat_fresh ok (wk_len b).1 (wk_fresh ok b)
/-- what burnt behind each beat -/
def Stood (H : Hp) (S : List Addr) (N : Net) (css : List (List Nat)) (n : Nat) (ys : List V) : Prop := ys.length = n ∧ ∀ j, j < n → ∃ (q : Addr) (bs : List V), ys[j]? = some (.ref q) ∧ q ∉ S ∧ H q = some (.lst bs) ∧ TuA H bs ((wk N css (j + 1)).L.map (burnD (j : Nat)))
theorem Stood.kp {H H' : Hp} {S S' : List Addr} {N : Net} {css : List (List Nat)} {n : Nat} {ys : List V} (h : Stood H S N css n ys) (k : Kp S' H H') (t : Kt H H') (hs : ∀ x ∈ S', x ∈ S ∨ H x = none) : Stood H' S N css n ys := by
  refine ⟨h.1, fun j hj => ?_⟩
  obtain ⟨q, bs, a1, a2, a3, a4⟩ := h.2 j hj
  refine ⟨q, bs, a1, a2, k.lst (fun z => ?_) a3, a4.kt t⟩
  rcases hs q z with y | y
  · exact a2 y
  · rw [y] at a3; cases a3
end Em

namespace Em
open PySem PySem.Spec PyProof.Rows L2 Qt

theorem hu1_of {A : Around} {k : Nat} (hr : Room k A) : A.in1.units < cLine := hu_of hr
theorem Kp.same {S : List Addr} {H H' : Hp} {d : Addr} {o : HO} (k : Kp (d :: S) H H') (h : H d = some o) (h' : H' d = some o) : Kp S H H' :=
  ⟨fun b u nb hb ht => by
    by_cases e : b = d
    · rw [e] at hb ⊢
      rw [h] at hb
      rw [h', hb]
    · exact k.at_ b u (fun z => by
        rcases List.mem_cons.mp z with z | z
        · exact e z
        · exact nb z) hb ht, k.tab, k.tr_⟩
/-! ### tuples of ints -/
def tupI (ns : List Int) : PyData := .tuple (ns.map PyData.int)
theorem ints_of {H : Hp} : ∀ {vs : List V} {ns : List Int}, TuA H vs (ns.map PyData.int) → vs = ns.map V.int
  | [], [], _ => rfl
  | _ :: _, [], h => by cases h
  | [], _ :: _, h => by cases h
  | v :: vs, n :: ns, h => by
    cases h with
    | cons a t =>
      cases a
      rw [ints_of t]
      rfl
theorem ints_tu {H : Hp} : ∀ ns : List Int, TuA H (ns.map V.int) (ns.map PyData.int)
  | [] => .nil
  | n :: ns => .cons (.int n) (ints_tu ns)
theorem tupI_at {H : Hp} {v : V} {ns : List Int} (h : Tu H v (tupI ns)) : ∃ t : Addr, v = .ref t ∧ H t = some (.tup (ns.map V.int)) := by
  cases h with
  | @tup t xs ds h r =>
    rw [ints_of r] at h
    exact ⟨t, rfl, h⟩
theorem tupI_of {H : Hp} {t : Addr} {ns : List Int} (h : H t = some (.tup (ns.map V.int))) : Tu H (.ref t) (tupI ns) := .tup h (ints_tu ns)
def intB : V → Int
  | .int i => i
  | _ => 0
def keyH (H : Hp) : V → List Int
  | .ref t => match H t with
    | some (.tup vs) => vs.map intB
    | _ => []
  | _ => []
theorem keyH_at {H : Hp} {t : Addr} {ns : List Int} (h : H t = some (.tup (ns.map V.int))) : keyH H (.ref t) = ns := by
  unfold keyH
  simp only [h]
  rw [List.map_map]
  have : (intB ∘ V.int) = id := funext fun i => rfl
  rw [this, List.map_id]
theorem keyH_tu {H : Hp} {v : V} {ns : List Int} (h : Tu H v (tupI ns)) : keyH H v = ns ∧ ∃ t, v = .ref t ∧ H t = some (.tup ((keyH H v).map V.int)) := by
  obtain ⟨t, rfl, ht⟩ := tupI_at h
  have e := keyH_at ht
  exact ⟨e, t, rfl, by rw [e]; exact ht⟩
theorem tups_keys {H : Hp} : ∀ {xs : List V} {L : List (List Int)}, TuA H xs (L.map tupI) → xs.map (keyH H) = L ∧ ∀ x ∈ xs, ∃ t, x = .ref t ∧ H t = some (.tup ((keyH H x).map V.int))
  | [], [], _ => ⟨rfl, fun x h => by cases h⟩
  | _ :: _, [], h => by cases h
  | [], _ :: _, h => by cases h
  | v :: vs, n :: ns, h => by
    cases h with
    | cons a t =>
      obtain ⟨e1, e2⟩ := keyH_tu a
      obtain ⟨e3, e4⟩ := tups_keys t
      refine ⟨by rw [List.map_cons, e1, e3], fun x hx => ?_⟩
      rcases List.mem_cons.mp hx with rfl | hx
      · exact e2
      · exact e4 x hx
theorem tups_of {H : Hp} : ∀ {ys : List V}, (∀ x ∈ ys, ∃ t, x = .ref t ∧ H t = some (.tup ((keyH H x).map V.int))) → TuA H ys ((ys.map (keyH H)).map tupI)
  | [], _ => .nil
  | y :: ys, h => by
    obtain ⟨t, rfl, ht⟩ := h y List.mem_cons_self
    exact .cons (tupI_of ht) (tups_of fun x hx => h x (List.mem_cons_of_mem _ hx))
theorem tups_perm {H : Hp} {xs ys : List V} {L : List (List Int)} (h : TuA H xs (L.map tupI)) (p : ys.Perm xs) : TuA H ys ((ys.map (keyH H)).map tupI) ∧ (ys.map (keyH H)).Perm L := by
  obtain ⟨e1, e2⟩ := tups_keys h
  refine ⟨tups_of fun x hx => e2 x (p.mem_iff.mp hx), ?_⟩
  rw [← e1]
  exact p.map _
theorem perm_back {α β : Type} {f : α → β} {g : β → α} {C : List α} {L : List β} (h : ∀ a ∈ C, g (f a) = a) (p : L.Perm (C.map f)) : (L.map g).Perm C ∧ (L.map g).map f = L := by
  constructor
  · have := p.map g
    rw [List.map_map] at this
    have e : C.map (g ∘ f) = C := by
      conv => rhs; rw [← List.map_id C]
      exact List.map_congr_left fun a ha => h a ha
    rw [e] at this
    exact this
  · rw [List.map_map]
    conv => rhs; rw [← List.map_id L]
    refine List.map_congr_left fun b hb => ?_
    obtain ⟨a, ha, rfl⟩ := List.mem_map.mp (p.mem_iff.mp hb)
    show f (g (f a)) = f a
    rw [h a ha]
/-- a sorted list of tuples of ints -/
theorem sorted_tups {α : Type} {f : α → List Int} {g : List Int → α} {H : Hp} {xs ys : List V} {C : List α} (hg : ∀ a ∈ C, g (f a) = a) (h : TuA H xs (C.map fun a => tupI (f a))) (hs : SrtO.Srtd (fun v u => lexL (keyH H v) (keyH H u)) ys) (p : ys.Perm xs) :
    ∃ C' : List α, C'.Perm C ∧ TuA H ys (C'.map fun a => tupI (f a)) ∧ C'.Pairwise fun a b => lexL (f b) (f a) = false := by
  have h2 : TuA H xs ((C.map f).map tupI) := by rw [List.map_map]; exact h
  obtain ⟨a1, a2⟩ := tups_perm h2 p
  obtain ⟨b1, b2⟩ := perm_back (g := g) hg a2
  refine ⟨_, b1, ?_, ?_⟩
  · have : (((ys.map (keyH H)).map g).map fun a => tupI (f a)) = (ys.map (keyH H)).map tupI := by
      conv => rhs; rw [← b2]
      rw [List.map_map (f := f)]
      rfl
    rw [this]
    exact a1
  · have hs2 : (ys.map (keyH H)).Pairwise fun a b => lexL b a = false := List.pairwise_map.mpr hs
    rw [← b2] at hs2
    exact List.pairwise_map.mp hs2
theorem lexL_anti : ∀ x y : List Int, lexL x y = false → lexL y x = false → x = y
  | [], [], _, _ => rfl
  | [], _ :: _, h, _ => by cases h
  | _ :: _, [], _, h => by cases h
  | a :: as, b :: bs, h1, h2 => by
    rw [lexL_cons] at h1 h2
    by_cases e : a = b
    · subst e
      rw [if_pos rfl] at h1 h2
      rw [lexL_anti as bs h1 h2]
    · rw [if_neg e] at h1
      rw [if_neg (fun z => e z.symm)] at h2
      have q1 := of_decide_eq_false h1
      have q2 := of_decide_eq_false h2
      omega
/-- sorted lists with the same members, none twice, are one -/
theorem sorted_one {α : Type} {f : α → List Int} (hf : ∀ a b, f a = f b → a = b) : ∀ {A B : List α}, A.Pairwise (fun a b => lexL (f b) (f a) = false) → B.Pairwise (fun a b => lexL (f b) (f a) = false) → A.Perm B → A = B
  | [], B, _, _, p => p.symm.eq_nil.symm
  | a :: A, [], _, _, p => absurd p.eq_nil (by simp)
  | a :: A, b :: B, h1, h2, p => by
    have e : a = b := by
      have m1 : a ∈ b :: B := p.mem_iff.mp List.mem_cons_self
      have m2 : b ∈ a :: A := p.mem_iff.mpr List.mem_cons_self
      rcases List.mem_cons.mp m1 with e | m1
      · exact e
      · rcases List.mem_cons.mp m2 with e | m2
        · exact e.symm
        · exact hf _ _ (lexL_anti _ _ ((List.pairwise_cons.mp h2).1 a m1) ((List.pairwise_cons.mp h1).1 b m2))
    subst e
    rw [sorted_one hf (List.pairwise_cons.mp h1).2 (List.pairwise_cons.mp h2).2 (List.Perm.cons_inv p)]
/-! ### kindlings, lights, clashes in the heap -/
def kdD (p : Nat × Nat) : PyData := .tuple [.int p.1, .int p.2]
def lightsK (N : Net) (ks : Kds) : List (List Lgt) := ks.map fun p => lightsL N p.1 p.2
structure Lts (H : Hp) (c : Addr) (ds : List Addr) (LL : List (List Lgt)) : Prop where
  top : H c = some (.lst (ds.map V.ref))
  len : ds.length = LL.length
  nd : ds.Nodup
  at_ : ∀ (i : Nat) (d : Addr) (L : List Lgt), ds[i]? = some d → LL[i]? = some L → ∃ r, H d = some (.dK r) ∧ LtA H r L
theorem Lts.kp {S : List Addr} {H H' : Hp} {c : Addr} {ds : List Addr} {LL : List (List Lgt)} (h : Lts H c ds LL) (k : Kp S H H') (t : Kt H H') (hc : c ∉ S) (hd : ∀ d ∈ ds, d ∉ S) : Lts H' c ds LL :=
  ⟨k.lst hc h.top, h.len, h.nd, fun i d L h1 h2 => let ⟨r, a, b⟩ := h.at_ i d L h1 h2; ⟨r, k.at_ d _ (hd d (List.mem_of_getElem? h1)) a (fun ps z => by cases z), b.kt t⟩⟩
theorem Lts.kp0 {H H' : Hp} {c : Addr} {ds : List Addr} {LL : List (List Lgt)} (h : Lts H c ds LL) (k : Kp [] H H') : Lts H' c ds LL := h.kp k k.kt0 (by simp) fun _ _ => by simp
theorem lights_at {N : Net} {ks : Kds} {i : Nat} {p : Nat × Nat} (h : ks[i]? = some p) : (lightsK N ks)[i]? = some (lightsL N p.1 p.2) := by
  unfold lightsK
  rw [List.getElem?_map, h]
  rfl
theorem Lts.get {N : Net} {ks : Kds} {H : Hp} {c : Addr} {ds : List Addr} (h : Lts H c ds (lightsK N ks)) {i : Nat} {p : Nat × Nat} (hp : ks[i]? = some p) : ∃ d r, ds[i]? = some d ∧ (ds.map V.ref)[i]? = some (.ref d) ∧ H d = some (.dK r) ∧ LtA H r (lightsL N p.1 p.2) := by
  have hl : i < ds.length := by
    rw [h.len]
    unfold lightsK
    rw [List.length_map]
    exact (List.getElem?_eq_some_iff.mp hp).1
  have hd : ds[i]? = some ds[i] := List.getElem?_eq_getElem hl
  obtain ⟨r, a, b⟩ := h.at_ i _ _ hd (lights_at hp)
  exact ⟨_, r, hd, by rw [List.getElem?_map, hd]; rfl, a, b⟩
def c4D (c : C4) : PyData := tupI (c4L c)
def c4B (l : List Int) : C4 := (l.getD 0 0, (l.getD 1 0).toNat, (l.getD 2 0).toNat, (l.getD 3 0).toNat)
theorem c4B_L (c : C4) : c4B (c4L c) = c := by
  obtain ⟨b, x, f, g⟩ := c
  show (b, ((x : Nat) : Int).toNat, ((f : Nat) : Int).toNat, ((g : Nat) : Int).toNat) = _
  simp
theorem c4L_inj (a b : C4) (h : c4L a = c4L b) : a = b := by rw [← c4B_L a, ← c4B_L b, h]
/-- what is told of two flames -/
def FstC (N : Net) (ks : Kds) (one other : Nat) : Option C4 → Prop
  | none => ∀ b x, ¬ Cl N ks b x one other ∧ ¬ Cl N ks b x other one
  | some c => FCc N ks c ∧ ((c.2.2.1 = one ∧ c.2.2.2 = other) ∨ (c.2.2.1 = other ∧ c.2.2.2 = one))
def ocD : Option C4 → PyData
  | none => .none
  | some c => c4D c
/-- all first clashes, sorted -/
structure AllC (N : Net) (ks : Kds) (C : List C4) : Prop where
  srt : SrtC C
  nd : C.Nodup
  fc : ∀ c ∈ C, FCc N ks c
  all : ∀ c, LostC N ks c → c ∈ C
/-- the losses -/
structure Losses (N : Net) (ks : Kds) (R : List C4) : Prop where
  srt : SrtC R
  nd : R.Nodup
  iff : ∀ c, c ∈ R ↔ LostC N ks c
theorem losses_of {N : Net} {ks : Kds} (o : NetOk N) (hk : KdsOk N ks) {C : List C4} (h : AllC N ks C) : Losses N ks (grdA C) := by
  obtain ⟨a, b⟩ := grd_all o hk h.srt h.nd h.fc h.all
  exact ⟨List.Pairwise.sublist b h.srt, List.Pairwise.sublist b h.nd, a⟩
theorem losses_one {N : Net} {ks : Kds} {R R' : List C4} (h : Losses N ks R) (h' : Losses N ks R') : R = R' := by
  refine sorted_one c4L_inj h.srt h'.srt ?_
  rw [List.perm_ext_iff_of_nodup h.nd h'.nd]
  intro c
  rw [h.iff, h'.iff]
/-- what is found, pair by pair -/
structure Found (N : Net) (ks : Kds) (P : Nat → Nat → Prop) (L : List C4) : Prop where
  nd : L.Nodup
  fc : ∀ c ∈ L, FCc N ks c ∧ ∃ u v, P u v ∧ u < v ∧ ((c.2.2.1 = u ∧ c.2.2.2 = v) ∨ (c.2.2.1 = v ∧ c.2.2.2 = u))
  all : ∀ c, FCc N ks c → (∃ u v, P u v ∧ u < v ∧ ((c.2.2.1 = u ∧ c.2.2.2 = v) ∨ (c.2.2.1 = v ∧ c.2.2.2 = u))) → c ∈ L
theorem Found.more {N : Net} {ks : Kds} (o : NetOk N) (hk : KdsOk N ks) {P P' : Nat → Nat → Prop} {L : List C4} (h : Found N ks P L) {u v : Nat} (huv : u < v) (hn : ¬ P u v) (hP : ∀ a b, P' a b ↔ P a b ∨ (a = u ∧ b = v)) {r : Option C4} (hr : FstC N ks u v r) : Found N ks P' (L ++ r.toList) := by
  cases r with
  | none =>
    rw [Option.toList_none, List.append_nil]
    refine ⟨h.nd, fun c hc => ?_, fun c hc ⟨a, b, hab, hlt, hf⟩ => ?_⟩
    · obtain ⟨q, a, b, hab, z⟩ := h.fc c hc
      exact ⟨q, a, b, (hP a b).mpr (.inl hab), z⟩
    · rcases (hP a b).mp hab with z | ⟨rfl, rfl⟩
      · exact h.all c hc ⟨a, b, z, hlt, hf⟩
      · exfalso
        have hr2 : ∀ b' x, ¬ Cl N ks b' x a b ∧ ¬ Cl N ks b' x b a := hr
        have hcl : Cl N ks c.1 c.2.1 c.2.2.1 c.2.2.2 := hc.1
        rcases hf with ⟨e1, e2⟩ | ⟨e1, e2⟩ <;> rw [e1, e2] at hcl
        · exact (hr2 _ _).1 hcl
        · exact (hr2 _ _).2 hcl
  | some d =>
    rw [Option.toList_some]
    obtain ⟨hd1, hd2⟩ : FCc N ks d ∧ ((d.2.2.1 = u ∧ d.2.2.2 = v) ∨ (d.2.2.1 = v ∧ d.2.2.2 = u)) := hr
    refine ⟨?_, fun c hc => ?_, fun c hc ⟨a, b, hab, hlt, hf⟩ => ?_⟩
    · rw [List.nodup_append]
      refine ⟨h.nd, by simp, fun c hc e he => ?_⟩
      rw [List.mem_singleton.mp he]
      intro ecd
      rw [ecd] at hc
      obtain ⟨_, a, b, hab, hlt, hf⟩ := h.fc d hc
      have : a = u ∧ b = v := by
        rcases hf with ⟨e1, e2⟩ | ⟨e1, e2⟩ <;> rcases hd2 with ⟨e3, e4⟩ | ⟨e3, e4⟩ <;> omega
      rw [this.1, this.2] at hab
      exact hn hab
    · rcases List.mem_append.mp hc with z | z
      · obtain ⟨q, a, b, hab, w⟩ := h.fc c z
        exact ⟨q, a, b, (hP a b).mpr (.inl hab), w⟩
      · rw [List.mem_singleton.mp z]
        exact ⟨hd1, u, v, (hP u v).mpr (.inr ⟨rfl, rfl⟩), huv, hd2⟩
    · rcases (hP a b).mp hab with z | ⟨rfl, rfl⟩
      · exact List.mem_append_left _ (h.all c hc ⟨a, b, z, hlt, hf⟩)
      · refine List.mem_append_right _ (List.mem_singleton.mpr (fc_uniq o hk hd1 hc ?_))
        rcases hf with ⟨e1, e2⟩ | ⟨e1, e2⟩ <;> rcases hd2 with ⟨e3, e4⟩ | ⟨e3, e4⟩ <;> rw [e1, e2, e3, e4] <;> simp
theorem lost_lt {N : Net} {ks : Kds} (o : NetOk N) (hk : KdsOk N ks) {t x f g : Nat} (h : LostAt N ks t x f g) : f < ks.length ∧ g < ks.length ∧ f ≠ g ∧ x < N.length := by
  obtain ⟨⟨hne, h1, h2⟩, _, _⟩ := lost_cl o hk h
  have lt : ∀ {u : Nat} {b : Int} {z : Nat}, On N ks u b z → u < ks.length := fun ⟨p, hp, _⟩ => (List.getElem?_eq_some_iff.mp hp).1
  refine ⟨lt h1, ?_, hne, h1.lt o hk⟩
  rcases h2 with ⟨h2, _⟩ | ⟨t0, h2, _⟩
  · exact lt h2
  · exact lt h2
theorem Found.start {N : Net} {ks : Kds} {P : Nat → Nat → Prop} (h : ∀ u v, u < v → ¬ P u v) : Found N ks P [] :=
  ⟨List.nodup_nil, (fun c hc => by cases hc), fun c _ ⟨u, v, h1, h2, _⟩ => absurd h1 (h u v h2)⟩
theorem Found.all_ {N : Net} {ks : Kds} (o : NetOk N) (hk : KdsOk N ks) {P : Nat → Nat → Prop} {L C : List C4} (h : Found N ks P L) (hP : ∀ u v, u < v → v < ks.length → P u v) (hp : C.Perm L) (hs : SrtC C) : AllC N ks C := by
  refine ⟨hs, hp.symm.nodup h.nd, fun c hc => (h.fc c (hp.mem_iff.mp hc)).1, fun c hc => hp.mem_iff.mpr ?_⟩
  obtain ⟨b, x, f, g⟩ := c
  obtain ⟨t, e, hl⟩ := hc
  simp only at e hl
  subst e
  obtain ⟨l1, l2, l3, _⟩ := lost_lt o hk hl
  refine h.all _ (lost_fc o hk hl) ?_
  rcases Nat.lt_or_ge f g with q | q
  · exact ⟨f, g, hP f g q l2, q, .inl ⟨rfl, rfl⟩⟩
  · have q2 : g < f := by omega
    exact ⟨g, f, hP g f q2 l1, q2, .inr ⟨rfl, rfl⟩⟩
/-! ### new dicts in a new list -/
structure LtsNew (H0 : Hp) (c : Addr) (ds : List Addr) (LL : List (List Lgt)) (H : Hp) : Prop where
  lts : Lts H c ds LL
  new : ∀ x ∈ c :: ds, H0 x = none
  kp : Kp [] H0 H
theorem LtsNew.start {H : Hp} {c : Addr} (nc : H c = none) : LtsNew H c [] [] (upd H c (.lst [])) :=
  ⟨⟨upd_same, rfl, List.nodup_nil, fun i d L h1 _ => by simp at h1⟩, fun x hx => by rw [List.mem_singleton.mp hx]; exact nc, Kp.new nc⟩
theorem LtsNew.step {H0 H H2 : Hp} {c d : Addr} {ds : List Addr} {LL : List (List Lgt)} {r : List (Key × V)} {L : List Lgt} (h : LtsNew H0 c ds LL H) (nd : H d = none) (k : Kp [] H H2) (hd : H2 d = some (.dK r)) (hl : LtA H2 r L) :
    H2 c = some (.lst (ds.map V.ref)) ∧ LtsNew H0 c (ds ++ [d]) (LL ++ [L]) (upd H2 c (.lst (ds.map V.ref ++ [.ref d]))) := by
  have hc := k.lst (by simp) h.lts.top
  have hdc : d ≠ c := fun e => by rw [e, hc] at hd; cases hd
  have tput : Kt H2 (upd H2 c (.lst (ds.map V.ref ++ [.ref d]))) := Kt.put hc fun _ z => by cases z
  have hnd : d ∉ ds := fun z => by
    obtain ⟨i, hi, e⟩ := List.getElem_of_mem z
    have h1 : ds[i]? = some d := by rw [List.getElem?_eq_getElem hi, e]
    have h2 : i < LL.length := by rw [← h.lts.len]; exact hi
    obtain ⟨r', q, _⟩ := h.lts.at_ i d _ h1 (List.getElem?_eq_getElem h2)
    rw [nd] at q
    cases q
  refine ⟨hc, ⟨⟨?_, ?_, ?_, fun i x M h1 h2 => ?_⟩, fun x hx => ?_, ?_⟩⟩
  · rw [upd_same, List.map_append]; rfl
  · rw [List.length_append, List.length_append, h.lts.len]; rfl
  · rw [List.nodup_append]
    exact ⟨h.lts.nd, by simp, fun x hx y hy => by rw [List.mem_singleton.mp hy]; exact fun e => hnd (e ▸ hx)⟩
  · by_cases hi : i < ds.length
    · rw [List.getElem?_append_left hi] at h1
      rw [List.getElem?_append_left (by rw [← h.lts.len]; exact hi)] at h2
      obtain ⟨r', q1, q2⟩ := h.lts.at_ i x M h1 h2
      have q3 := k.at_ x _ (by simp) q1 fun ps z => by cases z
      refine ⟨r', ?_, (q2.kt k.kt0).kt tput⟩
      rw [upd_ne (fun e => by rw [e, hc] at q3; cases q3)]
      exact q3
    · have h3 := (List.getElem?_eq_some_iff.mp h1).1
      rw [List.length_append] at h3
      have hi2 : i = ds.length := by simp at h3; omega
      subst hi2
      rw [List.getElem?_append_right (Nat.le_refl _), Nat.sub_self] at h1
      rw [h.lts.len, List.getElem?_append_right (Nat.le_refl _), Nat.sub_self] at h2
      cases h1
      cases h2
      exact ⟨r, by rw [upd_ne hdc]; exact hd, hl.kt tput⟩
  · rcases List.mem_cons.mp hx with z | z
    · rw [z]; exact h.new c List.mem_cons_self
    · rcases List.mem_append.mp z with z | z
      · exact h.new x (List.mem_cons_of_mem _ z)
      · rw [List.mem_singleton.mp z]
        cases y : H0 d with
        | none => rfl
        | some o => exact absurd nd (h.kp.tr_ d (by rw [y]; exact fun y => by cases y))
  · exact Kp.drop (h.new c List.mem_cons_self) ((h.kp.tr k).of0.tr (Kp.put (S := [c]) (by simp) hc fun ps z => by cases z))
theorem perm_two {α : Type} {a b : α} {ys : List α} (h : ys.Perm [a, b]) : ys = [a, b] ∨ ys = [b, a] := by
  have hl := h.length_eq
  match ys, hl with
  | [u, v], _ =>
    have hu : u ∈ [a, b] := h.mem_iff.mp (by simp)
    rcases List.mem_cons.mp hu with e | e
    · subst e
      have := (List.perm_cons u).mp h
      rw [List.perm_singleton.mp this]
      exact .inl rfl
    · rw [List.mem_singleton.mp e] at h ⊢
      have h2 : [b, v].Perm [b, a] := h.trans (List.Perm.swap b a [])
      have := (List.perm_cons b).mp h2
      rw [List.perm_singleton.mp this]
      exact .inr rfl
theorem srt2_ys {a b : Int × Nat} (hne : a.2 ≠ b.2) {H : Hp} {t1 t2 : Addr} (h1 : H t1 = some (.tup [.int a.1, .int (a.2 : Nat)])) (h2 : H t2 = some (.tup [.int b.1, .int (b.2 : Nat)])) {ys : List V} (hs : SrtO.Srtd (fun v u => lexL (keyH H v) (keyH H u)) ys) (hp : ys.Perm [.ref t1, .ref t2]) :
    ∃ te tl, ys = [V.ref te, V.ref tl] ∧ Tu H (.ref te) (tupI [(srt2 a b).1.1, ((srt2 a b).1.2 : Nat)]) ∧ Tu H (.ref tl) (tupI [(srt2 a b).2.1, ((srt2 a b).2.2 : Nat)]) := by
  have e1 : keyH H (.ref t1) = [a.1, (a.2 : Int)] := keyH_at (ns := [a.1, (a.2 : Int)]) h1
  have e2 : keyH H (.ref t2) = [b.1, (b.2 : Int)] := keyH_at (ns := [b.1, (b.2 : Int)]) h2
  rcases perm_two hp with rfl | rfl
  · have hl : lexL (keyH H (.ref t2)) (keyH H (.ref t1)) = false := (List.pairwise_cons.mp hs).1 _ (by simp)
    rw [e1, e2, lexL_cons] at hl
    have hc : ¬ (b.1 < a.1 ∨ (b.1 = a.1 ∧ b.2 < a.2)) := by
      rintro (z | ⟨z, z2⟩)
      · rw [if_neg (by omega)] at hl
        have := of_decide_eq_false hl
        omega
      · rw [if_pos z, lexL_cons, if_neg (by omega)] at hl
        have := of_decide_eq_false hl
        omega
    have es : srt2 a b = (a, b) := by unfold srt2; rw [if_neg hc]
    rw [es]
    exact ⟨t1, t2, rfl, tupI_of (ns := [a.1, (a.2 : Int)]) h1, tupI_of (ns := [b.1, (b.2 : Int)]) h2⟩
  · have hl : lexL (keyH H (.ref t1)) (keyH H (.ref t2)) = false := (List.pairwise_cons.mp hs).1 _ (by simp)
    rw [e1, e2, lexL_cons] at hl
    have hc : b.1 < a.1 ∨ (b.1 = a.1 ∧ b.2 < a.2) := by
      by_cases z : a.1 = b.1
      · rw [if_pos z, lexL_cons, if_neg (by omega)] at hl
        have := of_decide_eq_false hl
        exact .inr ⟨z.symm, by omega⟩
      · rw [if_neg z] at hl
        have := of_decide_eq_false hl
        exact .inl (by omega)
    have es : srt2 a b = (b, a) := by unfold srt2; rw [if_pos hc]
    rw [es]
    exact ⟨t2, t1, rfl, tupI_of (ns := [b.1, (b.2 : Int)]) h2, tupI_of (ns := [a.1, (a.2 : Int)]) h1⟩
/-! ### the flames that are lost, in a dict -/
def lostK (R : List C4) : List (Key × V) := R.map fun c => ((Sum.inl (c.2.2.1 : Int) : Key), V.bl true)
theorem lostK_val (f : Nat) : ∀ R : List C4, (f ∈ R.map (·.2.2.1) ∧ valV (lostK R) (Sum.inl (f : Int) : Key) = some (.bl true)) ∨ (f ∉ R.map (·.2.2.1) ∧ valV (lostK R) (Sum.inl (f : Int) : Key) = none)
  | [] => .inr ⟨by simp, rfl⟩
  | c :: R => by
    by_cases e : c.2.2.1 = f
    · exact .inl ⟨by rw [List.map_cons, e]; exact List.mem_cons_self, valV_pos (show (Sum.inl (c.2.2.1 : Int) : Key) = Sum.inl (f : Int) by rw [e])⟩
    · have e2 : valV (lostK (c :: R)) (Sum.inl (f : Int) : Key) = valV (lostK R) (Sum.inl (f : Int) : Key) := valV_neg (fun q => e (by
        have := Sum.inl.inj q
        omega))
      rw [e2]
      rcases lostK_val f R with ⟨a, b⟩ | ⟨a, b⟩
      · exact .inl ⟨List.mem_cons_of_mem _ a, b⟩
      · refine .inr ⟨fun z => ?_, b⟩
        rcases List.mem_cons.mp z with z | z
        · exact e z.symm
        · exact a z
theorem grd_len (C : List C4) : ∀ R : List C4, (C.foldl grd R).length ≤ R.length + C.length := by
  induction C with
  | nil => intro R; exact Nat.le_refl _
  | cons c C ih =>
    intro R
    rw [List.foldl_cons]
    have h1 := ih (grd R c)
    have h2 : (grd R c).length ≤ R.length + 1 := by
      unfold grd
      split
      · omega
      · rw [List.length_append]; simp
    rw [List.length_cons]
    omega
/-! ### fates -/
inductive Fate where
  | lost (b : Int) (x g : Nat)
  | ended (b : Int) (x : Nat)
  | goes (x : Nat) (b : Int)
def fateD : Fate → PyData
  | .lost b x g => .tuple [.str "lost", .int b, .int x, .int g]
  | .ended b x => .tuple [.str "ended", .int b, .int x]
  | .goes x b => .tuple [.str "goes", .int x, .int b]
def minN (g : List Nat) : Nat := (srt g).headD 0
theorem minN_mem {g : List Nat} (h : g ≠ []) : minN g ∈ g ∧ ∀ y ∈ g, minN g ≤ y := by
  cases e : srt g with
  | nil =>
    have := srt_perm g
    rw [e] at this
    exact absurd this.symm.eq_nil h
  | cons m r =>
    obtain ⟨a, b, _⟩ := srt_head e
    have : minN g = m := by unfold minN; rw [e]; rfl
    rw [this]
    exact ⟨a, b⟩
theorem minN_of {g : List Nat} {m : Int} (h1 : m ∈ g.map fun n : Nat => (n : Int)) (h2 : ∀ y ∈ g.map fun n : Nat => (n : Int), m ≤ y) : m = (minN g : Nat) := by
  obtain ⟨n, hn, rfl⟩ := List.mem_map.mp h1
  have hne : g ≠ [] := fun e => by rw [e] at hn; cases hn
  obtain ⟨a, b⟩ := minN_mem hne
  have := b n hn
  have := h2 _ (List.mem_map.mpr ⟨_, a, rfl⟩)
  omega
def fateA (N : Net) (p : Nat × Nat) : Fate := if wayR N p.2 = [] then .ended (frst N p.1 p.2 (path N p.2).length) (lastOf (path N p.2)) else .goes (minN (wayR N p.2)) (frstOf N p.1 p.2 (minN (wayR N p.2)))
def fatesR (N : Net) (ks : Kds) (R : List C4) : List Fate := R.foldl (fun t c => t.set c.2.2.1 (.lost c.1 c.2.1 c.2.2.2)) (ks.map (fateA N))
theorem fold_app {α β : Type} (f : β → α → β) (b : β) (l : List α) (a : α) : (l ++ [a]).foldl f b = f (l.foldl f b) a := by rw [List.foldl_append]; rfl
theorem fatesR_len {N : Net} {ks : Kds} : ∀ (R : List C4), (fatesR N ks R).length = ks.length := by
  intro R
  unfold fatesR
  have : ∀ (R : List C4) (t : List Fate), (R.foldl (fun t c => t.set c.2.2.1 (.lost c.1 c.2.1 c.2.2.2)) t).length = t.length := fun R => by
    induction R with
    | nil => intro t; rfl
    | cons c R ih => intro t; rw [List.foldl_cons, ih, List.length_set]
  rw [this, List.length_map]
theorem rings_lap {N : Net} (o : NetOk N) {x : Nat} (hx : x < N.length) (b : Int) : ((lightsL N b x).filter fun z => z.2.2.isSome).map (·.1) = wayR N x := by
  unfold lightsL
  rw [List.filter_append, List.map_append]
  have h1 : ∀ (g : List Nat) (b : Int), (lts N none b g).filter (fun z => z.2.2.isSome) = [] := fun g => by
    induction g with
    | nil => intro b; rfl
    | cons y r ih => intro b; unfold lts; rw [List.filter_cons_of_neg (by simp)]; exact ih _
  have h2 : ∀ (g : List Nat) (b l : Int), ((lts N (some l) b g).filter fun z => z.2.2.isSome).map (·.1) = g := fun g => by
    induction g with
    | nil => intro b l; rfl
    | cons y r ih => intro b l; unfold lts; rw [List.filter_cons_of_pos (by simp), List.map_cons, ih]
  rw [h1, h2]
  rfl
theorem last_at {N : Net} (o : NetOk N) {x : Nat} (hx : x < N.length) : (path N x)[(path N x).length - 1]? = some (lastOf (path N x)) ∧ lastOf (path N x) ∈ path N x := by
  obtain ⟨g, eg⟩ := path_head N x
  have hne : path N x ≠ [] := by rw [eg]; simp
  have hl : lastOf (path N x) = (path N x).getLast hne := by
    unfold lastOf
    rw [List.getLastD_eq_getLast?, List.getLast?_eq_some_getLast hne]
    rfl
  have e : (path N x)[(path N x).length - 1]? = some (lastOf (path N x)) := by
    rw [hl, ← List.getLast?_eq_getElem?, List.getLast?_eq_some_getLast hne]
  exact ⟨e, List.mem_of_getElem? e⟩
theorem frst_last {N : Net} (o : NetOk N) {x : Nat} (hx : x < N.length) (b : Int) : frstOf N b x (lastOf (path N x)) + burnOf N (lastOf (path N x)) = frst N b x (path N x).length := by
  obtain ⟨h1, h2⟩ := last_at o hx
  have hi := idx_of (path_been o hx).nd h1
  have hl := (path_been o hx).pos
  unfold frstOf frst
  rw [hi]
  have := take_succ_sum N h1
  rw [show (path N x).length - 1 + 1 = (path N x).length by omega] at this
  omega
theorem natV_ints (g : List Nat) : natV g = (g.map fun n : Nat => (n : Int)).map V.int := by unfold natV; rw [List.map_map]; rfl
end Em

namespace Em
open PySem PySem.Spec PyProof.Rows L2 Qt

/-! ### one flame alone in an Embers -/
def darkS (n : Nat) : List Lt := List.replicate n none
def oneS (n z t : Nat) : List Lt := (List.replicate n none).set z (some (0, t))
theorem dark_get (n j : Nat) : (darkS n).getD j none = none := by
  unfold darkS
  rw [List.getD_eq_getElem?_getD, List.getElem?_replicate]
  split <;> rfl
theorem one_get {n z t : Nat} (hz : z < n) (j : Nat) : (oneS n z t).getD j none = if j = z then some (0, t) else none := by
  unfold oneS
  rw [getD_set (by rw [List.length_replicate]; exact hz)]
  by_cases e : j = z
  · rw [if_pos e, if_pos e]
  · rw [if_neg e, if_neg e]
    exact dark_get n j
theorem lts_ext {n : Nat} {L M : List Lt} (h1 : L.length = n) (h2 : M.length = n) (h : ∀ k, k < n → L.getD k none = M.getD k none) : L = M := by
  refine List.ext_getElem? fun k => ?_
  by_cases hk : k < n
  · have := h k hk
    rw [List.getD_eq_getElem?_getD, List.getD_eq_getElem?_getD, List.getElem?_eq_getElem (by omega), List.getElem?_eq_getElem (by omega)] at this
    rw [List.getElem?_eq_getElem (by omega), List.getElem?_eq_getElem (by omega)]
    exact congrArg some this
  · rw [List.getElem?_eq_none (by omega), List.getElem?_eq_none (by omega)]
theorem fm_one {α : Type} (g : Nat → Option α) (z : Nat) : ∀ n, (∀ j, j ≠ z → g j = none) → (List.range n).filterMap g = if z < n then (g z).toList else []
  | 0, _ => by rw [if_neg (Nat.not_lt_zero z)]; rfl
  | n + 1, h => by
    rw [range_fm, fm_one g z n h]
    by_cases e : z = n
    · subst e
      rw [if_neg (Nat.lt_irrefl z), if_pos (Nat.lt_succ_self z)]; rfl
    · rw [h n (fun q => e q.symm)]
      by_cases h2 : z < n
      · rw [if_pos h2, if_pos (by omega)]; exact List.append_nil _
      · rw [if_neg h2, if_neg (by omega)]; rfl
theorem flat_one {α : Type} (g : Nat → List α) (z : Nat) : ∀ n, (∀ j, j ≠ z → g j = []) → ((List.range n).map g).flatten = if z < n then g z else []
  | 0, _ => by rw [if_neg (Nat.not_lt_zero z)]; rfl
  | n + 1, h => by
    rw [List.range_succ, List.map_append, List.flatten_append, flat_one g z n h]
    show _ ++ (g n ++ []) = _
    rw [List.append_nil]
    by_cases e : z = n
    · subst e
      rw [if_neg (Nat.lt_irrefl z), if_pos (Nat.lt_succ_self z)]; rfl
    · rw [h n (fun q => e q.symm), List.append_nil]
      by_cases h2 : z < n
      · rw [if_pos h2, if_pos (by omega)]
      · rw [if_neg h2, if_neg (by omega)]
theorem srt_nil : srt [] = [] := List.Perm.eq_nil (srt_perm [])
theorem srt_one (f : Nat) : srt [f] = [f] := List.perm_singleton.mp (srt_perm [f])
theorem newL_nil (y : Nat) : newL [] y = [] := rfl
theorem newL_one (f x y : Nat) : newL [(f, x)] y = if y = x then [f] else [] := by
  unfold newL
  by_cases e : y = x
  · subst e
    rw [if_pos rfl, List.filter_cons_of_pos (by simp)]; rfl
  · rw [if_neg e, List.filter_cons_of_neg (by simpa using fun z => e z.symm)]; rfl
section
variable {N : Net} {b z t : Nat}
theorem out_dark (j : Nat) : outB N b (darkS N.length) j = none := by unfold outB; rw [dark_get]
theorem out_one (hz : z < N.length) (j : Nat) : outB N b (oneS N.length z t) j = if j = z then (if (b : Int) < (t : Int) + burnOf N z then none else some 0) else none := by
  unfold outB
  rw [one_get hz]
  by_cases e : j = z
  · subst e
    rw [if_pos rfl, if_pos rfl]
  · rw [if_neg e, if_neg e]
/-- a beat in which the flame that comes, if any, comes to one lamp -/
theorem beat_gen (o : NetOk N) {L : List Lt} {W : List (Nat × Nat)} (hL : L.length = N.length) (hW : ∀ p ∈ W, p.2 < N.length) {y : Nat} {c : List Nat} {rs : List Row} {M : List Lt}
    (hc : ∀ k, k < N.length → comeL N b L W k = if k = y then c else []) (hM : M.length = N.length)
    (hm : ∀ k, k < N.length → (meet b k (leftB N b L k) (srt (if k = y then c else []))).1 = M.getD k none)
    (hr : ∀ k, k ≠ y → (meet b k (leftB N b L k) (srt [])).2 = []) (ho : overL N b L N.length = rs) :
    (beatA N b L W).L = M ∧ (beatA N b L W).rows = rs ++ (if y < N.length then (meet b y (leftB N b L y) (srt c)).2 else []) := by
  obtain ⟨h1, h2, h3⟩ := beat_at o (b := b) hL hW
  refine ⟨lts_ext h1 hM fun k hk => ?_, ?_⟩
  · rw [h2 k hk]
    unfold metB
    rw [hc k hk]
    exact hm k hk
  · rw [h3, ho]
    congr 1
    have e : (List.range N.length).map (fun k => (metB N b L W k).2) = (List.range N.length).map fun k => (meet b k (leftB N b L k) (srt (if k = y then c else []))).2 := by
      refine List.map_congr_left fun k hk => ?_
      unfold metB
      rw [hc k (List.mem_range.mp hk)]
    rw [e, flat_one (fun k => (meet b k (leftB N b L k) (srt (if k = y then c else []))).2) y N.length fun j hj => by
      show (meet b j _ (srt (if j = y then c else []))).2 = []
      rw [if_neg hj]; exact hr j hj]
    by_cases hy : y < N.length
    · rw [if_pos hy, if_pos hy, if_pos rfl]
    · rw [if_neg hy, if_neg hy]
theorem meet_nil_row (k : Nat) (l : Lt) : (meet b k l (srt [])).2 = [] := by rw [srt_nil]; cases l <;> rfl
theorem meet_nil_lt (k : Nat) (l : Lt) : (meet b k l (srt [])).1 = l := by rw [srt_nil]; cases l <;> rfl
theorem came_none {L : List Lt} {k y : Nat} (h : ∀ j, outB N b L j = none) : cameL N b L k y = [] := by
  unfold cameL
  rw [fm_one _ 0 k fun j _ => by unfold cameB; rw [h j]; rfl]
  split
  · unfold cameB; rw [h 0]; rfl
  · rfl
theorem over_none {L : List Lt} {k : Nat} (h : ∀ j, outB N b L j = none) : overL N b L k = [] := by
  unfold overL
  rw [fm_one _ 0 k fun j _ => by unfold overB; rw [h j]; rfl]
  split
  · unfold overB; rw [h 0]; rfl
  · rfl
theorem left_none {L : List Lt} {k : Nat} (h : ∀ j, outB N b L j = none) : leftB N b L k = L.getD k none := by unfold leftB; rw [h k]
/-- nothing burns, nothing comes -/
theorem solo_dark (o : NetOk N) : (beatA N b (darkS N.length) []).L = darkS N.length ∧ (beatA N b (darkS N.length) []).rows = [] := by
  obtain ⟨h1, h2⟩ := beat_gen (b := b) o (L := darkS N.length) (W := []) List.length_replicate (fun p h => by cases h) (y := N.length) (c := []) (rs := []) (M := darkS N.length)
    (fun k _ => by unfold comeL; rw [came_none out_dark, newL_nil]; split <;> rfl) List.length_replicate
    (fun k _ => by rw [show (if k = N.length then ([] : List Nat) else []) = [] by split <;> rfl, meet_nil_lt, left_none out_dark]) (fun k _ => meet_nil_row k _) (over_none out_dark)
  refine ⟨h1, ?_⟩
  rw [h2, if_neg (Nat.lt_irrefl _)]; rfl
/-- it is kindled -/
theorem solo_kindle (o : NetOk N) {x : Nat} (hx : x < N.length) : (beatA N b (darkS N.length) [(0, x)]).L = oneS N.length x b ∧ (beatA N b (darkS N.length) [(0, x)]).rows = [.lit b x 0] := by
  obtain ⟨h1, h2⟩ := beat_gen (b := b) o (L := darkS N.length) (W := [(0, x)]) List.length_replicate (fun p h => by rw [List.mem_singleton.mp h]; exact hx) (y := x) (c := [0]) (rs := []) (M := oneS N.length x b)
    (fun k _ => by unfold comeL; rw [came_none out_dark, newL_one]; rfl) (by unfold oneS; rw [List.length_set, List.length_replicate])
    (fun k _ => by
      rw [left_none out_dark, dark_get, one_get hx]
      by_cases e : k = x
      · rw [if_pos e, if_pos e, srt_one]; rfl
      · rw [if_neg e, if_neg e, srt_nil]; rfl) (fun k _ => meet_nil_row k _) (over_none out_dark)
  refine ⟨h1, ?_⟩
  rw [h2, if_pos hx, left_none out_dark, dark_get, srt_one]; rfl
/-- it burns on -/
theorem solo_stay (o : NetOk N) (hz : z < N.length) (hb : (b : Int) < (t : Int) + burnOf N z) : (beatA N b (oneS N.length z t) []).L = oneS N.length z t ∧ (beatA N b (oneS N.length z t) []).rows = [] := by
  have hl : (oneS N.length z t).length = N.length := by unfold oneS; rw [List.length_set, List.length_replicate]
  have hout : ∀ j, outB N b (oneS N.length z t) j = none := fun j => by
    rw [out_one hz]
    by_cases e : j = z
    · rw [if_pos e, if_pos hb]
    · rw [if_neg e]
  obtain ⟨h1, h2⟩ := beat_gen (b := b) o (L := oneS N.length z t) (W := []) hl (fun p h => by cases h) (y := N.length) (c := []) (rs := []) (M := oneS N.length z t)
    (fun k _ => by unfold comeL; rw [came_none hout, newL_nil]; split <;> rfl) hl
    (fun k _ => by rw [show (if k = N.length then ([] : List Nat) else []) = [] by split <;> rfl, meet_nil_lt, left_none hout]) (fun k _ => meet_nil_row k _) (over_none hout)
  refine ⟨h1, ?_⟩
  rw [h2, if_neg (Nat.lt_irrefl _)]; rfl
theorem left_over (hz : z < N.length) (hb : ¬ (b : Int) < (t : Int) + burnOf N z) (k : Nat) : leftB N b (oneS N.length z t) k = none := by
  unfold leftB
  rw [out_one hz]
  by_cases e : k = z
  · subst e
    rw [if_pos rfl, if_neg hb]
  · rw [if_neg e]
    show (oneS N.length z t).getD k none = none
    rw [one_get hz, if_neg e]
/-- it goes on to the next -/
theorem solo_go (o : NetOk N) (hz : z < N.length) (hb : ¬ (b : Int) < (t : Int) + burnOf N z) {y : Nat} (hy : nxt N z = some y) : (beatA N b (oneS N.length z t) []).L = oneS N.length y b ∧ (beatA N b (oneS N.length z t) []).rows = [.lit b y 0] := by
  have hl : (oneS N.length z t).length = N.length := by unfold oneS; rw [List.length_set, List.length_replicate]
  have hyl := nxt_lt o hy
  have hout : ∀ j, j ≠ z → outB N b (oneS N.length z t) j = none := fun j hj => by rw [out_one hz, if_neg hj]
  have hoz : outB N b (oneS N.length z t) z = some 0 := by rw [out_one hz, if_pos rfl, if_neg hb]
  obtain ⟨h1, h2⟩ := beat_gen (b := b) o (L := oneS N.length z t) (W := []) hl (fun p h => by cases h) (y := y) (c := [0]) (rs := []) (M := oneS N.length y b)
    (fun k _ => by
      unfold comeL cameL
      rw [newL_nil, List.append_nil, fm_one _ z N.length fun j hj => by unfold cameB; rw [hout j hj]; rfl, if_pos hz]
      unfold cameB
      rw [hoz]
      show (if nxt N z = some k then some 0 else none).toList = _
      rw [hy]
      by_cases e : k = y
      · rw [if_pos (by rw [e]), if_pos e]; rfl
      · rw [if_neg (fun q => e (Option.some.inj q).symm), if_neg e]; rfl) (by unfold oneS; rw [List.length_set, List.length_replicate])
    (fun k _ => by
      rw [left_over hz hb, one_get hyl]
      by_cases e : k = y
      · rw [if_pos e, if_pos e, srt_one]; rfl
      · rw [if_neg e, if_neg e, srt_nil]; rfl) (fun k _ => meet_nil_row k _) (by
      unfold overL
      rw [fm_one _ z N.length fun j hj => by unfold overB; rw [hout j hj]; rfl, if_pos hz]
      unfold overB
      rw [hoz]
      show (if nxt N z = none then _ else none).toList = _
      rw [if_neg (by rw [hy]; exact fun q => by cases q)]; rfl)
  refine ⟨h1, ?_⟩
  rw [h2, if_pos hyl, left_over hz hb, srt_one]; rfl
/-- it ends -/
theorem solo_end (o : NetOk N) (hz : z < N.length) (hb : ¬ (b : Int) < (t : Int) + burnOf N z) (hy : nxt N z = none) : (beatA N b (oneS N.length z t) []).L = darkS N.length ∧ (beatA N b (oneS N.length z t) []).rows = [.ended b z 0] := by
  have hl : (oneS N.length z t).length = N.length := by unfold oneS; rw [List.length_set, List.length_replicate]
  have hout : ∀ j, j ≠ z → outB N b (oneS N.length z t) j = none := fun j hj => by rw [out_one hz, if_neg hj]
  have hoz : outB N b (oneS N.length z t) z = some 0 := by rw [out_one hz, if_pos rfl, if_neg hb]
  obtain ⟨h1, h2⟩ := beat_gen (b := b) o (L := oneS N.length z t) (W := []) hl (fun p h => by cases h) (y := N.length) (c := []) (rs := [.ended b z 0]) (M := darkS N.length)
    (fun k _ => by
      unfold comeL cameL
      rw [newL_nil, List.append_nil, fm_one _ z N.length fun j hj => by unfold cameB; rw [hout j hj]; rfl, if_pos hz]
      unfold cameB
      rw [hoz]
      show (if nxt N z = some k then some 0 else none).toList = _
      rw [hy, if_neg (fun q => by cases q)]
      split <;> rfl) List.length_replicate
    (fun k _ => by rw [show (if k = N.length then ([] : List Nat) else []) = [] by split <;> rfl, meet_nil_lt, left_over hz hb, dark_get]) (fun k _ => meet_nil_row k _) (by
      unfold overL
      rw [fm_one _ z N.length fun j hj => by unfold overB; rw [hout j hj]; rfl, if_pos hz]
      unfold overB
      rw [hoz]
      show (if nxt N z = none then some (Row.ended b z 0) else none).toList = _
      rw [if_pos hy]; rfl)
  refine ⟨h1, ?_⟩
  rw [h2, if_neg (Nat.lt_irrefl _), List.append_nil]
end
end Em

namespace Em
open PySem PySem.Spec PyProof.Rows L2 Qt

section
variable {X : Cx} {o e : Expr} {es : List Expr} {to : TE} {t : TA} {name : Str} {apos cpos : Pos} {T id : String} {r : V → List V → Hp → VK → Prop}
theorem pe_bmK {K : PySem.W.Frag} (hK : X.K = K) (pa : PlainAttrs T) (slot : Slot T name id) (hty : typeOf (.builtin id) = pure (.type "method_descriptor")) (hm : MtR X id r) (ho : PE X o to) (ha : PA X (e :: es) t)
    (hbase : attributeBase o name X.env (eval o X.env) = eval o X.env := by rfl)
    (hfew : ((backTo cpos (starEach (e :: es) X.env)).all (fun x => !x.1) && (backToKw cpos (keywordEach [] X.env)).all (fun x => x.1.isSome)
      && decide ((e :: es).length + ([] : List Keyword).length + (if ([] : List Keyword).isEmpty then 0 else 1) < 30)) = true := by rfl)
    (hline : (apos.endLine == cpos.line) = true := by rfl) (hs : starEach (e :: es) X.env = (false, eval e X.env) :: starEach es X.env := by rfl) (hplain : (backTo cpos (starEach es X.env)).any (·.1) = false := by rfl) :
    PE X (.Call (.Attribute o name apos) (e :: es) [] cpos) (tBM K T r to t) := hK ▸ pe_bm pa slot hty hm ho ha hbase hfew hline hs hplain
theorem call_len_seqK {K : PySem.W.Frag} (hK : X.K = K) : CallR X (.builtin "len") (fun xs H Q => ∃ p ys, xs = [V.ref p] ∧ (SqL K H p ys ∨ SqT K H p ys) ∧ Q (.int (ys.length : Nat)) H) := hK ▸ call_len_seq
end
/-! ### a net of a line of lamps -/
structure Line (o : List Nat) (s : List Int) (bg : Option Nat) : Prop where
  nd : o.Nodup
  lt : ∀ y ∈ o, y < o.length
  len : s.length = o.length
  lo : 2 ≤ o.length
  hi : o.length ≤ 12
  sz : ∀ z ∈ s, 1 ≤ z ∧ z ≤ 10 ^ 58
  bg : ∀ b, bg = some b → b < o.length
def thereL (o : List Nat) (bg : Option Nat) (k : Nat) : Option Nat := if k + 1 < o.length then o[k + 1]? else bg.bind fun b => o[b]?
def setL (o : List Nat) (s : List Int) (bg : Option Nat) : Nat → List (Option (Int × Option Nat))
  | 0 => List.replicate o.length none
  | k + 1 => (setL o s bg k).set (o.getD k 0) (some (s.getD k 1, thereL o bg k))
def netL (o : List Nat) (s : List Int) (bg : Option Nat) : Net := (setL o s bg o.length).map fun p => p.getD (1, none)
theorem setL_len (o : List Nat) (s : List Int) (bg : Option Nat) : ∀ k, (setL o s bg k).length = o.length
  | 0 => List.length_replicate
  | k + 1 => by
    show ((setL o s bg k).set _ _).length = _
    rw [List.length_set, setL_len o s bg k]
theorem getD_of {α : Type} {l : List α} {k : Nat} {y d : α} (h : l[k]? = some y) : l.getD k d = y := by rw [List.getD_eq_getElem?_getD, h]; rfl
section
variable {o : List Nat} {s : List Int} {bg : Option Nat}
theorem setL_get (h : Line o s bg) : ∀ k, k ≤ o.length → ∀ i y, i < k → o[i]? = some y → (setL o s bg k)[y]? = some (some (s.getD i 1, thereL o bg i))
  | 0, _, i, y, hi, _ => by omega
  | k + 1, hk, i, y, hi, hy => by
    show ((setL o s bg k).set (o.getD k 0) _)[y]? = _
    have hkk : o[k]? = some (o[k]'(by omega)) := List.getElem?_eq_getElem _
    rw [getD_of hkk, List.getElem?_set]
    have hyl := h.lt y (List.mem_of_getElem? hy)
    by_cases e : i = k
    · subst e
      rw [hkk] at hy
      have ey := Option.some.inj hy
      rw [if_pos ey, if_pos (by rw [setL_len, ey]; exact hyl)]
    · have hne : ¬ o[k]'(by omega) = y := fun e2 => by
        obtain ⟨h1, e1⟩ := List.getElem?_eq_some_iff.mp hy
        have := (List.getElem_inj (h₀ := h1) (h₁ := show k < o.length by omega) h.nd).mp (e1.trans e2.symm)
        exact e this
      rw [if_neg hne]
      exact setL_get h k (by omega) i y (by omega) hy
theorem line_all (h : Line o s bg) {j : Nat} (hj : j < o.length) : j ∈ o := by
  by_cases hm : j ∈ o
  · exact hm
  · exfalso
    have := nodup_le (n := o.length) (g := j :: o) (List.nodup_cons.mpr ⟨hm, h.nd⟩) fun y hy => by
      rcases List.mem_cons.mp hy with e | hy
      · rw [e]; exact hj
      · exact h.lt y hy
    rw [List.length_cons] at this
    omega
theorem netL_len : (netL o s bg).length = o.length := by unfold netL; rw [List.length_map, setL_len]
theorem netL_get (h : Line o s bg) {k y : Nat} (hy : o[k]? = some y) : (netL o s bg)[y]? = some (s.getD k 1, thereL o bg k) := by
  unfold netL
  rw [List.getElem?_map, setL_get h o.length (Nat.le_refl _) k y (List.getElem?_eq_some_iff.mp hy).1 hy]
  rfl
theorem netL_some (h : Line o s bg) : setL o s bg o.length = (netL o s bg).map some := by
  refine List.ext_getElem? fun j => ?_
  by_cases hj : j < o.length
  · have hm := line_all h hj
    have hk := idx_get hm
    rw [setL_get h o.length (Nat.le_refl _) _ j (List.getElem?_eq_some_iff.mp hk).1 hk, List.getElem?_map, netL_get h hk]
    rfl
  · rw [List.getElem?_eq_none (by rw [setL_len]; omega), List.getElem?_eq_none (by rw [List.length_map, netL_len]; omega)]
theorem there_lt (h : Line o s bg) {k y : Nat} (e : thereL o bg k = some y) : y < o.length := by
  unfold thereL at e
  by_cases hk : k + 1 < o.length
  · rw [if_pos hk] at e
    exact h.lt y (List.mem_of_getElem? e)
  · rw [if_neg hk] at e
    cases hb : bg with
    | none => rw [hb] at e; cases e
    | some b => rw [hb] at e; exact h.lt y (List.mem_of_getElem? (i := b) e)
theorem size_at (h : Line o s bg) {k : Nat} (hk : k < o.length) : s[k]? = some (s.getD k 1) ∧ 1 ≤ s.getD k 1 ∧ s.getD k 1 ≤ 10 ^ 58 := by
  have e : s[k]? = some (s[k]'(by rw [h.len]; exact hk)) := List.getElem?_eq_getElem _
  rw [getD_of e]
  exact ⟨e, h.sz _ (List.getElem_mem _)⟩
theorem netL_mem (h : Line o s bg) {p : Int × Option Nat} (hp : p ∈ netL o s bg) : ∃ k, k < o.length ∧ p = (s.getD k 1, thereL o bg k) := by
  obtain ⟨j, hj, e⟩ := List.getElem_of_mem hp
  rw [netL_len] at hj
  have hk := idx_get (line_all h hj)
  have h1 := netL_get h hk
  rw [List.getElem?_eq_getElem (by rw [netL_len]; exact hj), e] at h1
  exact ⟨_, (List.getElem?_eq_some_iff.mp hk).1, Option.some.inj h1⟩
theorem netL_ok (h : Line o s bg) : NetOk (netL o s bg) := by
  refine ⟨by rw [netL_len]; have := h.lo; omega, by rw [netL_len]; exact h.hi, fun p hp => ?_, fun p hp y hy => ?_⟩
  · obtain ⟨k, hk, rfl⟩ := netL_mem h hp
    exact (size_at h hk).2.1
  · obtain ⟨k, hk, rfl⟩ := netL_mem h hp
    rw [netL_len]
    exact there_lt h hy
theorem line_nxt (h : Line o s bg) {k y : Nat} (hy : o[k]? = some y) : nxt (netL o s bg) y = thereL o bg k := nxt_get (netL_get h hy)
theorem line_burn (h : Line o s bg) {k y : Nat} (hy : o[k]? = some y) : burnOf (netL o s bg) y = s.getD k 1 := burnOf_get (netL_get h hy)
/-- the lengths from one place of the line to another -/
def sumS (s : List Int) (i k : Nat) : Int := ((s.drop i).take (k - i)).sum
theorem sumS_self (s : List Int) (i : Nat) : sumS s i i = 0 := by unfold sumS; rw [Nat.sub_self]; rfl
theorem sumS_succ (h : Line o s bg) {i k : Nat} (hi : i ≤ k) (hk : k < o.length) : sumS s i (k + 1) = sumS s i k + s.getD k 1 := by
  unfold sumS
  rw [show k + 1 - i = (k - i) + 1 by omega, List.take_add_one, List.getElem?_drop, show i + (k - i) = k by omega, (size_at h hk).1, List.sum_append_int]
  show _ + (s.getD k 1 + 0) = _
  rw [Int.add_zero]
theorem sumS_cat (h : Line o s bg) {i j : Nat} (hi : i ≤ j) : ∀ n, j + n ≤ o.length → sumS s i (j + n) = sumS s i j + sumS s j (j + n)
  | 0, _ => by rw [Nat.add_zero, sumS_self, Int.add_zero]
  | n + 1, hn => by
    have h1 := sumS_succ h (i := i) (k := j + n) (by omega) (by omega)
    have h2 := sumS_succ h (i := j) (k := j + n) (by omega) (by omega)
    have h3 := sumS_cat h hi n (by omega)
    show sumS s i (j + n + 1) = sumS s i j + sumS s j (j + n + 1)
    omega
theorem sumS_bound (h : Line o s bg) {i : Nat} : ∀ n, i + n ≤ o.length → (n : Int) ≤ sumS s i (i + n) ∧ sumS s i (i + n) ≤ n * 10 ^ 58
  | 0, _ => by rw [Nat.add_zero, sumS_self]; exact ⟨by omega, by simp⟩
  | n + 1, hn => by
    have h1 := sumS_succ h (i := i) (k := i + n) (by omega) (by omega)
    have h2 := sumS_bound h (i := i) n (by omega)
    have h3 := (size_at h (show i + n < o.length by omega)).2
    have e : ((n + 1 : Nat) : Int) * 10 ^ 58 = (n : Int) * 10 ^ 58 + 10 ^ 58 := by
      rw [show ((n + 1 : Nat) : Int) = (n : Int) + 1 by omega, Int.add_mul, Int.one_mul]
    show ((n + 1 : Nat) : Int) ≤ sumS s i (i + n + 1) ∧ sumS s i (i + n + 1) ≤ ((n + 1 : Nat) : Int) * 10 ^ 58
    rw [e, h1]
    omega
variable {f : Int} {x : Nat}
theorem line_go (h : Line o s bg) (hx : x < o.length) {i : Nat} {t : Int} {y : Nat} (hy : o[i]? = some y) (ho : OnWay (netL o s bg) f x t y) : ∀ n z, o[i + n]? = some z → OnWay (netL o s bg) f x (t + sumS s i (i + n)) z
  | 0, z, hz => by
    rw [Nat.add_zero] at hz ⊢
    rw [hy] at hz
    cases hz
    rw [sumS_self, Int.add_zero]
    exact ho
  | n + 1, z, hz => by
    have hl := (List.getElem?_eq_some_iff.mp hz).1
    have h0 : o[i + n]? = some (o[i + n]'(by omega)) := List.getElem?_eq_getElem _
    have ih := line_go h hx hy ho n _ h0
    rcases onWay_next (netL_ok h) (by rw [netL_len]; exact hx) ih with ⟨n1, _⟩ | ⟨u, n1, n2⟩
    · rw [line_nxt h h0] at n1
      unfold thereL at n1
      rw [if_pos (by omega)] at n1
      rw [show i + n + 1 = i + (n + 1) by omega, hz] at n1
      cases n1
    · rw [line_nxt h h0] at n1
      unfold thereL at n1
      rw [if_pos (by omega), show i + n + 1 = i + (n + 1) by omega, hz] at n1
      cases n1
      rw [line_burn h h0] at n2
      have e := sumS_succ h (i := i) (k := i + n) (by omega) (by omega)
      rw [show i + (n + 1) = i + n + 1 by omega, e, ← Int.add_assoc]
      exact n2
/-- behind the line's end -/
theorem line_end (h : Line o s bg) (hx : x < o.length) {i : Nat} {t : Int} {y : Nat} (hy : o[i]? = some y) (ho : OnWay (netL o s bg) f x t y) :
    (bg = none → wayR (netL o s bg) x = [] ∧ t + sumS s i o.length = frst (netL o s bg) f x (path (netL o s bg) x).length) ∧
    ∀ b z, bg = some b → o[b]? = some z → OnWay (netL o s bg) f x (t + sumS s i o.length) z := by
  have hi := (List.getElem?_eq_some_iff.mp hy).1
  have hlast : o[i + (o.length - 1 - i)]? = some (o[i + (o.length - 1 - i)]'(by omega)) := List.getElem?_eq_getElem _
  have hg := line_go h hx hy ho (o.length - 1 - i) _ hlast
  have e := sumS_succ h (i := i) (k := i + (o.length - 1 - i)) (by omega) (by omega)
  rw [show i + (o.length - 1 - i) + 1 = o.length by omega] at e
  have hb := line_burn h hlast
  have hn := line_nxt h hlast
  have ht : thereL o bg (i + (o.length - 1 - i)) = bg.bind fun b => o[b]? := by
    unfold thereL
    rw [if_neg (by omega)]
  rw [ht] at hn
  rcases onWay_next (netL_ok h) (by rw [netL_len]; exact hx) hg with ⟨n1, n2, n3⟩ | ⟨u, n1, n2⟩
  · refine ⟨fun hbg => ⟨n2, ?_⟩, fun b z hbg hz => ?_⟩
    · rw [hb] at n3; omega
    · rw [hn, hbg] at n1
      have : o[b]? = none := n1
      rw [hz] at this; cases this
  · refine ⟨fun hbg => ?_, fun b z hbg hz => ?_⟩
    · rw [hn, hbg] at n1; cases n1
    · rw [hn, hbg] at n1
      have : o[b]? = some u := n1
      rw [hz] at this
      cases this
      rw [hb] at n2
      rw [e, ← Int.add_assoc]
      exact n2
theorem line_lap (h : Line o s bg) (hx : x < o.length) {b k : Nat} (hb : bg = some b) (hbk : b ≤ k) {y : Nat} (hy : o[k]? = some y) : ∀ (n : Nat) (t : Int), OnWay (netL o s bg) f x t y → OnWay (netL o s bg) f x (t + n * sumS s b o.length) y
  | 0, t, ho => by
    rw [show ((0 : Nat) : Int) = 0 from rfl, Int.zero_mul, Int.add_zero]; exact ho
  | n + 1, t, ho => by
    have hk := (List.getElem?_eq_some_iff.mp hy).1
    have hbl := h.bg b hb
    have h0 : o[b]? = some (o[b]) := List.getElem?_eq_getElem hbl
    have h1 := (line_end h hx hy ho).2 b _ hb h0
    have h2 := line_go h hx h0 h1 (k - b) y (by rw [show b + (k - b) = k by omega]; exact hy)
    have e := sumS_cat h hbk (o.length - k) (by omega)
    rw [show k + (o.length - k) = o.length by omega] at e
    rw [show b + (k - b) = k by omega] at h2
    have ih := line_lap h hx hb hbk hy n _ h2
    have e2 : t + ((n + 1 : Nat) : Int) * sumS s b o.length = t + sumS s k o.length + sumS s b k + n * sumS s b o.length := by
      rw [show ((n + 1 : Nat) : Int) = (n : Int) + 1 by omega, Int.add_mul, Int.one_mul, e]
      omega
    rw [e2]
    exact ih
end
end Em

namespace Em
open PySem PySem.Spec PyProof.Rows L2 Qt

/-! ### a beat by sorted pairs (lamp, flame) -/
abbrev Pr := Nat × Nat
def prL (p : Pr) : List Int := [p.1, p.2]
def prB (l : List Int) : Pr := ((l.getD 0 0).toNat, (l.getD 1 0).toNat)
theorem prB_L (p : Pr) : prB (prL p) = p := by
  obtain ⟨a, b⟩ := p
  show (((a : Nat) : Int).toNat, ((b : Nat) : Int).toNat) = _
  simp
theorem prL_inj (a b : Pr) (h : prL a = prL b) : a = b := by rw [← prB_L a, ← prB_L b, h]
def meetP (b : Nat) (s : Ms) (p : Pr) : Ms := match s.L.getD p.1 none with
  | none => ⟨s.L.set p.1 (some (p.2, b)), s.rows ++ [.lit b p.1 p.2]⟩
  | some q => ⟨s.L, s.rows ++ [.lost b p.1 p.2 q.1]⟩
/-- the lamp that a flame comes to from a lamp that goes dark -/
def onP (N : Net) (b : Nat) (L : List Lt) (j : Nat) : Option Pr := (outB N b L j).bind fun f => (nxt N j).map fun y => (y, f)
def onL (N : Net) (b : Nat) (L : List Lt) (k : Nat) : List Pr := (List.range k).filterMap (onP N b L)
def swapP (p : Nat × Nat) : Pr := (p.2, p.1)
theorem filt_perm {α : Type} (f : α → Nat) : ∀ (n : Nat) (P : List α), (∀ p ∈ P, f p < n) → P.Perm ((List.range n).map fun y => P.filter fun p => decide (f p = y)).flatten
  | 0, P, h => by
    cases P with
    | nil => exact List.Perm.refl _
    | cons p r => exact absurd (h p List.mem_cons_self) (Nat.not_lt_zero _)
  | n + 1, P, h => by
    rw [List.range_succ, List.map_append, List.flatten_append]
    have h1 := filt_perm f n (P.filter fun p => decide (f p < n)) fun p hp => of_decide_eq_true (List.mem_filter.mp hp).2
    have e1 : ((List.range n).map fun y => (P.filter fun p => decide (f p < n)).filter fun p => decide (f p = y)) = (List.range n).map fun y => P.filter fun p => decide (f p = y) := by
      refine List.map_congr_left fun y hy => ?_
      have hy2 := List.mem_range.mp hy
      rw [List.filter_filter]
      refine List.filter_congr fun p _ => ?_
      by_cases e : f p = y
      · simp [e, hy2]
      · simp [e]
    rw [e1] at h1
    have e2 : (P.filter fun p => ! decide (f p < n)) = P.filter fun p => decide (f p = n) := by
      refine List.filter_congr fun p hp => ?_
      have := h p hp
      by_cases e : f p = n
      · simp [e]
      · have : f p < n := by omega
        simp [e, this]
    have h2 := List.filter_append_perm (fun p => decide (f p < n)) P
    refine h2.symm.trans ?_
    rw [e2]
    refine (h1.append_right _).trans ?_
    simp
theorem on_filt (N : Net) (b : Nat) (L : List Lt) (y : Nat) : ∀ k, ((onL N b L k).filter fun p => decide (p.1 = y)) = (cameL N b L k y).map fun f => (y, f)
  | 0 => rfl
  | k + 1 => by
    unfold onL cameL
    rw [range_fm, range_fm, List.filter_append, List.map_append]
    have ih := on_filt N b L y k
    unfold onL cameL at ih
    rw [ih]
    congr 1
    unfold onP cameB
    cases outB N b L k with
    | none => rfl
    | some f =>
      simp only [Option.bind_some]
      cases hn : nxt N k with
      | none => rfl
      | some u =>
        simp only [Option.map_some, Option.toList_some]
        by_cases e : u = y
        · subst e
          simp
        · rw [List.filter_cons_of_neg (by simpa using e), if_neg (fun z => e (Option.some.inj z))]
          rfl
theorem new_filt (W : List (Nat × Nat)) (y : Nat) : ((W.map swapP).filter fun p => decide (p.1 = y)) = (newL W y).map fun f => (y, f) := by
  induction W with
  | nil => rfl
  | cons p r ih =>
    unfold newL at ih ⊢
    rw [List.map_cons]
    by_cases e : p.2 = y
    · have e1 : ((swapP p :: r.map swapP).filter fun p => decide (p.1 = y)) = swapP p :: (r.map swapP).filter fun p => decide (p.1 = y) := List.filter_cons_of_pos (decide_eq_true e)
      have e2 : ((p :: r).filter fun p => decide (p.2 = y)) = p :: r.filter fun p => decide (p.2 = y) := List.filter_cons_of_pos (decide_eq_true e)
      rw [e1, e2, ih, List.map_cons, List.map_cons]
      show (p.2, p.1) :: _ = _
      rw [e]
    · have e1 : ((swapP p :: r.map swapP).filter fun p => decide (p.1 = y)) = (r.map swapP).filter fun p => decide (p.1 = y) := List.filter_cons_of_neg (fun z => e (of_decide_eq_true z))
      have e2 : ((p :: r).filter fun p => decide (p.2 = y)) = r.filter fun p => decide (p.2 = y) := List.filter_cons_of_neg (fun z => e (of_decide_eq_true z))
      rw [e1, e2, ih]
/-- all that come, as pairs -/
def prsL (N : Net) (b : Nat) (L : List Lt) (W : List (Nat × Nat)) : List Pr := onL N b L N.length ++ W.map swapP
def sortedP (N : Net) (b : Nat) (L : List Lt) (W : List (Nat × Nat)) (k : Nat) : List Pr := ((List.range k).map fun y => (srt (comeL N b L W y)).map fun f => (y, f)).flatten
theorem prs_lt {N : Net} (o : NetOk N) {b : Nat} {L : List Lt} {W : List (Nat × Nat)} (hW : ∀ p ∈ W, p.2 < N.length) : ∀ p ∈ prsL N b L W, p.1 < N.length := fun p hp => by
  rcases List.mem_append.mp hp with h | h
  · obtain ⟨j, _, e⟩ := List.mem_filterMap.mp h
    unfold onP at e
    cases q : outB N b L j with
    | none => rw [q] at e; cases e
    | some f =>
      rw [q] at e
      simp only [Option.bind_some] at e
      cases hn : nxt N j with
      | none => rw [hn] at e; cases e
      | some u =>
        rw [hn] at e
        cases e
        exact nxt_lt o hn
  · obtain ⟨q, hq, rfl⟩ := List.mem_map.mp h
    exact hW q hq
theorem sorted_prs {N : Net} (o : NetOk N) {b : Nat} {L : List Lt} {W : List (Nat × Nat)} (hW : ∀ p ∈ W, p.2 < N.length) {S : List Pr} (hp : S.Perm (prsL N b L W)) (hs : S.Pairwise fun a b => lexL (prL b) (prL a) = false) : S = sortedP N b L W N.length := by
  refine sorted_one prL_inj hs ?_ (hp.trans ?_)
  · -- the blocks rise
    unfold sortedP
    rw [List.pairwise_flatten]
    constructor
    · intro l hl
      obtain ⟨y, _, rfl⟩ := List.mem_map.mp hl
      rw [List.pairwise_map]
      refine (srt_up _).imp fun {u v} h => ?_
      show lexL [(y : Int), (v : Int)] [(y : Int), (u : Int)] = false
      rw [lexL_cons, if_pos rfl, lexL_cons]
      by_cases e : (v : Int) = u
      · rw [if_pos e]; rfl
      · rw [if_neg e]; exact decide_eq_false (by omega)
    · rw [List.pairwise_map]
      refine List.pairwise_lt_range.imp fun {u v} h => ?_
      intro x hx y hy
      obtain ⟨f, _, rfl⟩ := List.mem_map.mp hx
      obtain ⟨g, _, rfl⟩ := List.mem_map.mp hy
      show lexL [(v : Int), (g : Int)] [(u : Int), (f : Int)] = false
      rw [lexL_cons, if_neg (by omega)]
      exact decide_eq_false (by omega)
  · refine (filt_perm (fun p : Pr => p.1) N.length _ (prs_lt o hW)).trans ?_
    unfold sortedP
    have : ∀ ys : List Nat, ((ys.map fun y => (prsL N b L W).filter fun p => decide (p.1 = y)).flatten).Perm ((ys.map fun y => (srt (comeL N b L W y)).map fun f => (y, f)).flatten) := fun ys => by
      induction ys with
      | nil => exact List.Perm.refl _
      | cons y r ih =>
        rw [List.map_cons, List.map_cons, List.flatten_cons, List.flatten_cons]
        refine List.Perm.append ?_ ih
        unfold prsL
        rw [List.filter_append, on_filt, new_filt, ← List.map_append]
        exact ((srt_perm _).symm).map _
    exact this _
theorem meet_block (b y : Nat) : ∀ (fs : List Nat) (s : Ms), y < s.L.length → fs.foldl (fun s f => meetP b s (y, f)) s = ⟨s.L.set y (meet b y (s.L.getD y none) fs).1, s.rows ++ (meet b y (s.L.getD y none) fs).2⟩
  | [], s, h => by
    have : (meet b y (s.L.getD y none) []).1 = s.L.getD y none ∧ (meet b y (s.L.getD y none) []).2 = [] := by
      cases s.L.getD y none <;> exact ⟨rfl, rfl⟩
    rw [this.1, this.2, List.append_nil]
    show s = _
    have e : s.L.set y (s.L.getD y none) = s.L := by
      rw [List.getD_eq_getElem?_getD, List.getElem?_eq_getElem h]
      exact List.set_getElem_self h
    rw [e]
  | f :: fs, s, h => by
    rw [List.foldl_cons]
    cases e : s.L.getD y none with
    | some p =>
      obtain ⟨g, t0⟩ := p
      have e1 : meetP b s (y, f) = ⟨s.L, s.rows ++ [.lost b y f g]⟩ := by unfold meetP; simp only [e]
      rw [e1, meet_block b y fs ⟨s.L, s.rows ++ [Row.lost b y f g]⟩ h]
      simp only [e, meet, List.map_cons, List.append_assoc]
      rfl
    | none =>
      have e1 : meetP b s (y, f) = ⟨s.L.set y (some (f, b)), s.rows ++ [.lit b y f]⟩ := by unfold meetP; simp only [e]
      have e2 : (s.L.set y (some (f, b))).getD y none = some (f, b) := by rw [getD_set h, if_pos rfl]
      rw [e1, meet_block b y fs ⟨s.L.set y (some (f, b)), s.rows ++ [Row.lit b y f]⟩ (by rw [List.length_set]; exact h)]
      simp only [e2, meet, List.set_set, List.append_assoc]
      rfl
theorem meet_blocks {N : Net} {b : Nat} {L : List Lt} {W : List (Nat × Nat)} {s : Ms} (hs : s.L.length = N.length) : ∀ k, k ≤ N.length →
    (∀ j, ((sortedP N b L W k).foldl (meetP b) s).L.getD j none = if j < k then (meet b j (s.L.getD j none) (srt (comeL N b L W j))).1 else s.L.getD j none) ∧ ((sortedP N b L W k).foldl (meetP b) s).L.length = N.length ∧
    ((sortedP N b L W k).foldl (meetP b) s).rows = s.rows ++ ((List.range k).map fun j => (meet b j (s.L.getD j none) (srt (comeL N b L W j))).2).flatten
  | 0, _ => ⟨fun j => by rw [if_neg (Nat.not_lt_zero j)]; rfl, hs, (List.append_nil _).symm⟩
  | k + 1, hk => by
    obtain ⟨h1, h2, h3⟩ := meet_blocks (b := b) (L := L) (W := W) hs k (by omega)
    obtain ⟨s', es⟩ : ∃ s', s' = (sortedP N b L W k).foldl (meetP b) s := ⟨_, rfl⟩
    have e : (sortedP N b L W (k + 1)).foldl (meetP b) s = (srt (comeL N b L W k)).foldl (fun s f => meetP b s (k, f)) s' := by
      unfold sortedP
      rw [List.range_succ, List.map_append, List.flatten_append, List.foldl_append]
      show ((List.map (fun f => (k, f)) (srt (comeL N b L W k)) ++ []).foldl _ _) = _
      rw [List.append_nil, List.foldl_map, es]
      rfl
    rw [← es] at h1 h2 h3
    rw [e, meet_block b k _ s' (by omega)]
    have hlk : s'.L.getD k none = s.L.getD k none := by rw [h1 k, if_neg (Nat.lt_irrefl k)]
    refine ⟨fun j => ?_, by show (s'.L.set k _).length = _; rw [List.length_set]; exact h2, ?_⟩
    · show (s'.L.set k _).getD j none = _
      rw [getD_set (by omega), hlk]
      by_cases e : j = k
      · subst e
        rw [if_pos rfl, if_pos (by omega)]
      · rw [if_neg e, h1 j]
        by_cases h : j < k
        · rw [if_pos h, if_pos (by omega)]
        · rw [if_neg h, if_neg (by omega)]
    · show s'.rows ++ _ = _
      rw [hlk, h3, List.range_succ, List.map_append, List.flatten_append, List.append_assoc]
      show _ = _ ++ (_ ++ (_ ++ []))
      rw [List.append_nil]
/-- the beat by sorted pairs is the beat -/
def leftL (N : Net) (b : Nat) (L : List Lt) : List Lt := (List.range N.length).map (leftB N b L)
theorem leftL_get (N : Net) (b : Nat) (L : List Lt) {j : Nat} (h : j < N.length) : (leftL N b L).getD j none = leftB N b L j := by
  unfold leftL
  rw [List.getD_eq_getElem?_getD, List.getElem?_map, List.getElem?_range h]
  rfl
theorem beat_pairs {N : Net} (o : NetOk N) {b : Nat} {L : List Lt} {W : List (Nat × Nat)} (hL : L.length = N.length) (hW : ∀ p ∈ W, p.2 < N.length) (R : List Row) :
    (sortedP N b L W N.length).foldl (meetP b) ⟨leftL N b L, R ++ overL N b L N.length⟩ = ⟨(beatA N b L W).L, R ++ (beatA N b L W).rows⟩ := by
  have hl : (leftL N b L).length = N.length := by unfold leftL; rw [List.length_map, List.length_range]
  obtain ⟨h1, h2, h3⟩ := meet_blocks (N := N) (b := b) (L := L) (W := W) (s := ⟨leftL N b L, R ++ overL N b L N.length⟩) hl N.length (Nat.le_refl _)
  obtain ⟨b1, b2, b3⟩ := beat_at o (b := b) hL hW
  have e1 : ((sortedP N b L W N.length).foldl (meetP b) ⟨leftL N b L, R ++ overL N b L N.length⟩).L = (beatA N b L W).L := by
    refine lts_ext h2 b1 fun k hk => ?_
    rw [h1 k, if_pos hk, b2 k hk]
    show (meet b k ((leftL N b L).getD k none) _).1 = _
    rw [leftL_get N b L hk]
    rfl
  have e2 : ((sortedP N b L W N.length).foldl (meetP b) ⟨leftL N b L, R ++ overL N b L N.length⟩).rows = R ++ (beatA N b L W).rows := by
    rw [h3, b3, ← List.append_assoc]
    show (R ++ overL N b L N.length) ++ _ = _
    congr 2
    refine List.map_congr_left fun k hk => ?_
    show (meet b k ((leftL N b L).getD k none) _).2 = _
    rw [leftL_get N b L (List.mem_range.mp hk)]
    rfl
  cases hq : (sortedP N b L W N.length).foldl (meetP b) ⟨leftL N b L, R ++ overL N b L N.length⟩ with
  | mk L' R' =>
    rw [hq] at e1 e2
    simp only at e1 e2
    rw [e1, e2]
/-- what goes dark, lamp by lamp: the first k lamps -/
def mixL (N : Net) (b : Nat) (L : List Lt) (k : Nat) : List Lt := (List.range N.length).map fun j => if j < k then leftB N b L j else L.getD j none
theorem mixL_get (N : Net) (b : Nat) (L : List Lt) (k : Nat) {j : Nat} (h : j < N.length) : (mixL N b L k)[j]? = some (if j < k then leftB N b L j else L.getD j none) := by
  unfold mixL
  rw [List.getElem?_map, List.getElem?_range h]
  rfl
theorem mixL_len (N : Net) (b : Nat) (L : List Lt) (k : Nat) : (mixL N b L k).length = N.length := by unfold mixL; rw [List.length_map, List.length_range]
theorem mixL_zero {N : Net} {b : Nat} {L : List Lt} (h : L.length = N.length) : mixL N b L 0 = L := by
  refine lts_ext (mixL_len N b L 0) h fun k hk => ?_
  rw [List.getD_eq_getElem?_getD, mixL_get N b L 0 hk, if_neg (Nat.not_lt_zero _)]
  rfl
theorem mixL_all (N : Net) (b : Nat) (L : List Lt) : mixL N b L N.length = leftL N b L := by
  unfold mixL leftL
  refine List.map_congr_left fun j hj => ?_
  rw [if_pos (List.mem_range.mp hj)]
theorem mixL_step {N : Net} {b : Nat} {L : List Lt} {k : Nat} (h : k < N.length) : mixL N b L (k + 1) = (mixL N b L k).set k (leftB N b L k) := by
  refine List.ext_getElem? fun j => ?_
  by_cases hj : j < N.length
  · rw [mixL_get N b L _ hj]
    by_cases e : k = j
    · subst e
      rw [if_pos (by omega), List.getElem?_set_self (by rw [mixL_len]; exact h)]
    · rw [List.getElem?_set_ne e, mixL_get N b L _ hj]
      congr 1
      by_cases h1 : j < k
      · rw [if_pos h1, if_pos (by omega)]
      · rw [if_neg h1, if_neg (by omega)]
  · rw [List.getElem?_eq_none (by rw [mixL_len]; omega), List.getElem?_eq_none (by rw [List.length_set, mixL_len]; omega)]
theorem mixL_same {N : Net} {b : Nat} {L : List Lt} {k : Nat} (h : k < N.length) (e : outB N b L k = none) : mixL N b L (k + 1) = mixL N b L k := by
  rw [mixL_step h]
  have : leftB N b L k = L.getD k none := by unfold leftB; rw [e]
  rw [this]
  have h2 := mixL_get N b L k h
  rw [if_neg (Nat.lt_irrefl k)] at h2
  exact set_self h2
/-- all rows of the walk so far -/
def allW (N : Net) (ks : Kds) (t : Nat) : List Row := ((List.range t).map (rowsW N ks)).flatten
theorem allW_succ (N : Net) (ks : Kds) (t : Nat) : allW N ks (t + 1) = allW N ks t ++ rowsW N ks t := by
  unfold allW
  rw [List.range_succ, List.map_append, List.flatten_append]
  show _ ++ (_ ++ []) = _
  rw [List.append_nil]
theorem allW_mem {N : Net} {ks : Kds} {t : Nat} {r : Row} : r ∈ allW N ks t ↔ ∃ b, b < t ∧ r ∈ rowsW N ks b := by
  unfold allW
  rw [List.mem_flatten]
  constructor
  · rintro ⟨l, hl, hr⟩
    obtain ⟨b, hb, rfl⟩ := List.mem_map.mp hl
    exact ⟨b, List.mem_range.mp hb, hr⟩
  · rintro ⟨b, hb, hr⟩
    exact ⟨_, List.mem_map.mpr ⟨b, List.mem_range.mpr hb, rfl⟩, hr⟩
theorem wait_len (ks : Kds) (t : Nat) : (waitK ks t).length ≤ ks.length := by
  unfold waitK
  refine Nat.le_trans (List.length_filterMap_le _ _) ?_
  rw [List.length_range]
  exact Nat.le_refl _
theorem rowsW_len {N : Net} {ks : Kds} (o : NetOk N) (hk : KdsOk N ks) (t : Nat) : (rowsW N ks t).length ≤ N.length + ks.length := by
  have h1 := (beatA_len (b := t) (W := waitK ks t) (stW_len o hk t)).2
  have h2 := wait_len ks t
  unfold rowsW
  omega
theorem allW_len {N : Net} {ks : Kds} (o : NetOk N) (hk : KdsOk N ks) : ∀ t, (allW N ks t).length ≤ (N.length + ks.length) * t
  | 0 => Nat.zero_le _
  | t + 1 => by
    rw [allW_succ, List.length_append]
    have h1 := allW_len o hk t
    have h2 := rowsW_len o hk t
    rw [Nat.mul_succ]
    omega
/-! ### lists of pairs as data -/
theorem eqv_nil (ds : List PyData) : PyData.eqv (.list ds) (.list []) = decide (ds = []) := by
  cases ds with
  | nil => exact SeqAt.eqv_refl _ rfl
  | cons x r => rfl
theorem map_shaped {α : Type} {f : α → PyData} (h1 : ∀ a, (f a).canLay0 = true) (h2 : ∀ a, (f a).depth ≤ 7) (l : List α) : SeqAt.shaped (.list (l.map f)) = true ∧ (PyData.list (l.map f)).canLay0 = true ∧ PyData.depth (.list (l.map f)) ≤ 8 := by
  have e1 : (PyData.list (l.map f)).canLay0 = true := by
    show PyData.canLayAll0 (l.map f) = true
    exact all_lay h1 l
  have e2 : PyData.depth (.list (l.map f)) ≤ 8 := by
    show PyData.depthAll (l.map f) + 1 ≤ 8
    have := all_depth (f := f) (n := 7) h2 l
    omega
  refine ⟨?_, e1, e2⟩
  unfold SeqAt.shaped
  rw [e1, decide_eq_true (Nat.le_trans e2 (by decide))]
  rfl
theorem kd_lay (p : Nat × Nat) : (kdD p).canLay0 = true := rfl
theorem kd_depth (p : Nat × Nat) : (kdD p).depth ≤ 7 := by show 1 ≤ 7; decide
theorem ints_lay : ∀ ns : List Int, PyData.canLayAll0 (ns.map PyData.int) = true := fun ns => all_lay (f := PyData.int) (fun _ => rfl) ns
theorem tupI_lay (ns : List Int) : (tupI ns).canLay0 = true := ints_lay ns
theorem tupI_depth (ns : List Int) : (tupI ns).depth ≤ 7 := by
  show PyData.depthAll (ns.map PyData.int) + 1 ≤ 7
  have := all_depth (f := PyData.int) (n := 0) (fun _ => Nat.le_refl _) ns
  omega
theorem TuA.dpl {K : PySem.W.Frag} {H : Hp} {vs : List V} {ds : List PyData} (h : TuA H vs ds) (e : PyData.hasDictAll ds = false) : DpAll K H vs ds := h.dx0.dp e
theorem nodict {α : Type} {f : α → PyData} (h : ∀ a, (f a).canLay0 = true) (l : List α) : PyData.hasDictAll (l.map f) = false := by
  have := PyData.hasDict_of_canLay (.list (l.map f)) (all_lay h l)
  exact this
theorem ix_seqK {X : Cx} {K : PySem.W.Frag} (h : X.K = K) : IxR X (rIx K) := h ▸ ix_seq
theorem sl_tupAK {X : Cx} {K : PySem.W.Frag} (h : X.K = K) : SlR X (rSlA K) := h ▸ sl_tupA
theorem op_eqDK {X : Cx} {K : PySem.W.Frag} (h : X.K = K) (hu : X.A.units + 64 < cLine) : OpR X (compareOp .Eq) (rEqD K) := h ▸ op_eqD hu
theorem op_neDK {X : Cx} {K : PySem.W.Frag} (h : X.K = K) (hu : X.A.units + 64 < cLine) : OpR X (compareOp .NotEq) (rNeD K) := h ▸ op_neD hu
end Em

namespace Em
open PySem PySem.Spec PyProof.Rows L2 Qt

/-! ### how far it goes till all has come to rest -/
theorem ring_along {N : Net} (o : NetOk N) {x z k : Nat} (hx : x < N.length) (hz : z < N.length) (h : goS N k x = some z) (y : Nat) : y ∈ wayR N z ↔ y ∈ wayR N x := by
  rw [wayR_iff o hz, wayR_iff o hx]
  constructor
  · rintro ⟨⟨m, hm⟩, r⟩
    exact ⟨⟨k + m, by rw [goS_add, h]; exact hm⟩, r⟩
  · rintro ⟨⟨m, hm⟩, n, hn, hy⟩
    have again : ∀ i, goS N (m + i * n) x = some y := by
      intro i
      induction i with
      | zero => rw [Nat.zero_mul]; exact hm
      | succ i ih => rw [Nat.add_mul, Nat.one_mul, ← Nat.add_assoc, goS_add, ih]; exact hy
    refine ⟨⟨m + k * n - k, ?_⟩, n, hn, hy⟩
    have h1 : k * 1 ≤ k * n := Nat.mul_le_mul_left k hn
    have h2 := goS_add N x k (m + k * n - k)
    rw [show k + (m + k * n - k) = m + k * n by omega, again k, h] at h2
    exact h2.symm
def totN (N : Net) : Int := sumB N (List.range N.length)
theorem sumB_le {N : Net} (o : NetOk N) : ∀ (n : Nat) (g : List Nat), n ≤ N.length → g.Nodup → (∀ y ∈ g, y < n) → sumB N g ≤ sumB N (List.range n)
  | 0, g, _, _, h2 => by
    cases g with
    | nil => exact Int.le_refl _
    | cons y r => exact absurd (h2 y List.mem_cons_self) (Nat.not_lt_zero _)
  | n + 1, g, hn, h1, h2 => by
    rw [List.range_succ, sumB_app, sumB_one]
    have hb := burn_pos o (show n < N.length by omega)
    by_cases hm : n ∈ g
    · have hp := List.perm_cons_erase hm
      rw [sumB_perm N hp, sumB_cons]
      have := sumB_le o n (g.erase n) (by omega) (h1.erase n) fun y hy => by
        have q := (h1.mem_erase_iff).mp hy
        have := h2 y q.2
        have := q.1
        omega
      omega
    · have := sumB_le o n g (by omega) h1 fun y hy => by
        have := h2 y hy
        have : y ≠ n := fun e => hm (e ▸ hy)
        omega
      omega
theorem tot_path {N : Net} (o : NetOk N) {x : Nat} (hx : x < N.length) : sumB N (path N x) ≤ totN N := sumB_le o _ _ (Nat.le_refl _) (path_been o hx).nd (path_been o hx).lt
theorem tot_nonneg {N : Net} (o : NetOk N) : 0 ≤ totN N := sumB_nonneg o fun y hy => List.mem_range.mp hy
theorem tot_lap {N : Net} (o : NetOk N) {x : Nat} (hx : x < N.length) : lapOf N x ≤ totN N := sumB_le o _ _ (Nat.le_refl _) (wayR_nd o hx) (way_sub o hx)
theorem tot_sum (N : Net) : totN N = (N.map (·.1)).sum := by
  unfold totN sumB
  congr 1
  refine List.ext_getElem? fun i => ?_
  rw [List.getElem?_map, List.getElem?_map]
  by_cases h : i < N.length
  · rw [List.getElem?_range h, List.getElem?_eq_getElem h]
    show some (burnOf N i) = some _
    rw [burnOf_get (List.getElem?_eq_getElem h)]
  · rw [List.getElem?_eq_none (by rw [List.length_range]; omega), List.getElem?_eq_none (by omega)]
    rfl
theorem frst_tot {N : Net} (o : NetOk N) {x j : Nat} (hx : x < N.length) (b : Int) (hj : j ≤ (path N x).length) : frst N b x j ≤ b + totN N := by
  have h1 := sum_mono o (path_been o hx).lt hj
  rw [List.take_length] at h1
  have h2 := tot_path o hx
  unfold frst
  omega
theorem frstOf_tot {N : Net} (o : NetOk N) {x y : Nat} (hx : x < N.length) (b : Int) (hy : y ∈ path N x) : frstOf N b x y ≤ b + totN N :=
  frst_tot o hx b (Nat.le_of_lt (List.idxOf_lt_length_iff.mpr hy))
section
variable {N : Net} {ks : Kds}
theorem lapY_tot (o : NetOk N) {y : Nat} (hy : y < N.length) {L : Int} (h : lapY N y = some L) : L ≤ totN N := by
  unfold lapY at h
  by_cases hr : y ∈ wayR N y
  · rw [if_pos hr] at h
    cases h
    exact tot_lap o hy
  · rw [if_neg hr] at h; cases h
theorem clashL_le {len : Int} {lap : Option Int} {e l : Int × Nat} {M D : Int} (he : e.1 ≤ M) (hl : l.1 ≤ M) (hD : 0 ≤ D) (hL : ∀ L, lap = some L → 1 ≤ L ∧ L ≤ D) {c : Int × Nat × Nat} (h : clashL len lap e l = some c) : c.1 ≤ M + D := by
  unfold clashL at h
  split at h
  · cases h
    show l.1 ≤ _
    omega
  · split at h
    · cases h
      show l.1 ≤ _
      omega
    · cases lap with
      | none => cases h
      | some L =>
        obtain ⟨h1, h2⟩ := hL L rfl
        simp only at h
        split at h
        · cases h
          have : 0 ≤ (l.1 - e.1) % L := Int.emod_nonneg _ (by omega)
          show l.1 + L - gapC (some L) (l.1 - e.1) ≤ _
          show l.1 + L - (l.1 - e.1) % L ≤ _
          omega
        · cases h
theorem pair_le (o : NetOk N) (hk : KdsOk N ks) {one other : Nat} {p p' : Nat × Nat} (hp : ks[one]? = some p) (hp' : ks[other]? = some p') {M : Int} (h1 : (p.1 : Int) ≤ M) (h2 : (p'.1 : Int) ≤ M) : ∀ c ∈ pairL N (lightsL N p.1 p.2) (lightsL N p'.1 p'.2) one other, c.1 ≤ M + 2 * totN N := by
  have hx := hk p (List.mem_of_getElem? hp)
  have hx' := hk p' (List.mem_of_getElem? hp')
  intro c hc
  obtain ⟨z, hz, e⟩ := List.mem_filterMap.mp hc
  obtain ⟨m1, m2⟩ := lights_is o hx hz
  unfold pairC at e
  cases q : lookL z.1 (lightsL N p'.1 p'.2) with
  | none => rw [q] at e; cases e
  | some w =>
    have m3 := look_mem q
    rw [look_lap o hx' p'.1 m3] at q
    cases q
    rw [look_lap o hx' p'.1 m3] at e
    simp only [Option.bind_some] at e
    have f1 : z.2.1 ≤ M + totN N := by
      rw [m2]
      have := frstOf_tot o hx (p.1 : Int) m1
      show frstOf N p.1 p.2 z.1 ≤ _
      omega
    have f2 : frstOf N p'.1 p'.2 z.1 ≤ M + totN N := by
      have := frstOf_tot o hx' (p'.1 : Int) m3
      omega
    have hz2 : z.2.2 = lapY N z.1 := by rw [m2]
    cases ec : clashL (burnOf N z.1) z.2.2 (srt2 (z.2.1, one) (frstOf N p'.1 p'.2 z.1, other)).1 (srt2 (z.2.1, one) (frstOf N p'.1 p'.2 z.1, other)).2 with
    | none => rw [ec] at e; cases e
    | some d =>
      rw [ec] at e
      cases e
      have hyl := path_lt o hx m1
      have key : ∀ (a b : Int × Nat), a.1 ≤ M + totN N → b.1 ≤ M + totN N → clashL (burnOf N z.1) z.2.2 a b = some d → d.1 ≤ M + 2 * totN N := fun a b ha hb h => by
        have := clashL_le (D := totN N) ha hb (tot_nonneg o) (fun L hL => ?_) h
        · omega
        · rw [hz2] at hL
          refine ⟨?_, lapY_tot o hyl hL⟩
          unfold lapY at hL
          by_cases hr : z.1 ∈ wayR N z.1
          · rw [if_pos hr] at hL
            cases hL
            have := burn_lap o hyl hr
            have := burn_pos o hyl
            omega
          · rw [if_neg hr] at hL; cases hL
      rcases srt2_or (z.2.1, one) (frstOf N p'.1 p'.2 z.1, other) with es | es
      · rw [es] at ec
        exact key _ _ f1 f2 ec
      · rw [es] at ec
        exact key _ _ f2 f1 ec
/-- a loss is not long behind the last kindling -/
theorem lost_le (o : NetOk N) (hk : KdsOk N ks) {t x f g : Nat} (h : LostAt N ks t x f g) {M : Int} (hM : ∀ p ∈ ks, (p.1 : Int) ≤ M) : (t : Int) ≤ M + 2 * totN N := by
  obtain ⟨l1, l2, l3, _⟩ := lost_lt o hk h
  have hfc := lost_fc o hk h
  have hp := List.getElem?_eq_getElem l1
  have hp' := List.getElem?_eq_getElem l2
  obtain ⟨k1, k2⟩ := pair_mem o hk hp hp' l3
  obtain ⟨d, hd, hle⟩ := k2 t x (.inl hfc.1)
  have hb := pair_le o hk hp hp' (hM _ (List.getElem_mem l1)) (hM _ (List.getElem_mem l2)) d hd
  have : (t : Int) ≤ d.1 := by
    rcases Int.lt_or_le d.1 t with q | q
    · exfalso
      obtain ⟨a, b⟩ := k1 d hd
      have := hfc.2 d.1 d.2.1 q
      rcases b with ⟨e1, e2⟩ | ⟨e1, e2⟩ <;> rw [e1, e2] at a
      · exact this.1 a
      · exact this.2 a
    · exact q
  omega
/-! ### the rows told of a flame that is lit, that ends -/
theorem lit_iff (o : NetOk N) (hk : KdsOk N ks) {t t' x f : Nat} : Em.Row.lit t' x f ∈ rowsW N ks t ↔ t' = t ∧ On N ks f t x ∧ Alive N ks f (t + 1) := by
  have I := inv_all o hk t
  have I1 := inv_all o hk (t + 1)
  have hmeet : ∀ k, Em.Row.lit t' x f ∈ (metB N t (stW N ks t) (waitK ks t) k).2 ↔ t' = t ∧ x = k ∧ leftB N t (stW N ks t) k = none ∧ ∃ r, srt (cmW N ks t k) = f :: r := fun k => by
    unfold metB
    show _ ∈ (meet t k (leftB N t (stW N ks t) k) (srt (cmW N ks t k))).2 ↔ _
    cases hl : leftB N t (stW N ks t) k with
    | some p =>
      show _ ∈ List.map _ _ ↔ _
      rw [List.mem_map]
      constructor
      · rintro ⟨u, _, e⟩; cases e
      · rintro ⟨_, _, e, _⟩; cases e
    | none =>
      cases hs : srt (cmW N ks t k) with
      | nil =>
        constructor
        · intro h; cases h
        · rintro ⟨_, _, _, r, e⟩; cases e
      | cons m r =>
        show _ ∈ Em.Row.lit t k m :: List.map _ r ↔ _
        rw [List.mem_cons, List.mem_map]
        constructor
        · rintro (h | ⟨u, _, e⟩)
          · cases h; exact ⟨rfl, rfl, rfl, r, rfl⟩
          · cases e
        · rintro ⟨rfl, rfl, _, r', e⟩
          cases e
          exact .inl rfl
  have lit2 : On N ks f t x → ((stW N ks (t + 1)).getD x none = some (f, t) ↔ leftB N t (stW N ks t) x = none ∧ ∃ r, srt (cmW N ks t x) = f :: r) := fun hon => by
    have hx := hon.lt o hk
    show (beatA N t (stW N ks t) (waitK ks t)).L.getD x none = _ ↔ _
    rw [(beat_at o (stW_len o hk t) (wait_lt hk)).2.1 x hx]
    unfold metB
    show (meet t x (leftB N t (stW N ks t) x) (srt (cmW N ks t x))).1 = _ ↔ _
    cases hl : leftB N t (stW N ks t) x with
    | some p =>
      obtain ⟨g, u⟩ := p
      constructor
      · intro h
        have h2 : some (g, u) = some (f, t) := h
        cases h2
        obtain ⟨_, a, _⟩ := (left_iff o hk I).mp hl
        omega
      · rintro ⟨e, _⟩; cases e
    | none =>
      cases hs : srt (cmW N ks t x) with
      | nil =>
        constructor
        · intro h; cases h
        · rintro ⟨_, r, e⟩; cases e
      | cons m r =>
        constructor
        · intro h
          have h2 : some (m, t) = some (f, t) := h
          cases h2
          exact ⟨rfl, r, rfl⟩
        · rintro ⟨_, r', e⟩
          cases e
          rfl
  rw [row_cases o hk]
  constructor
  · rintro (h | ⟨k, hkl, h⟩)
    · obtain ⟨_, _, _, e, _⟩ := over_is h
      cases e
    · obtain ⟨rfl, rfl, h1, r, h2⟩ := (hmeet k).mp h
      obtain ⟨q1, q2, q3⟩ := srt_head h2
      obtain ⟨a, b⟩ := (cm_iff o hk I).mp q1
      exact ⟨rfl, a, ((I1.at_ x f t').mp ((lit2 a).mpr ⟨h1, r, h2⟩)).2.2.2⟩
  · rintro ⟨rfl, h1, h2⟩
    have hx := h1.lt o hk
    have hb := burn_pos o hx
    have := (I1.at_ x f t').mpr ⟨by omega, by omega, h1, h2⟩
    obtain ⟨a, b⟩ := (lit2 h1).mp this
    exact .inr ⟨x, hx, (hmeet x).mpr ⟨rfl, rfl, a, b⟩⟩
theorem ended_iff (o : NetOk N) (hk : KdsOk N ks) {t t' x f : Nat} : Em.Row.ended t' x f ∈ rowsW N ks t ↔ t' = t ∧ nxt N x = none ∧ ∃ t0 : Nat, (t : Int) = (t0 : Int) + burnOf N x ∧ On N ks f t0 x ∧ Alive N ks f t := by
  have I := inv_all o hk t
  rw [row_cases o hk]
  constructor
  · rintro (h | ⟨k, hkl, h⟩)
    · obtain ⟨y, g, hy, e, hn, ho⟩ := over_is h
      cases e
      obtain ⟨t0, h1, h2, h3, h4⟩ := (out_iff o hk I).mp ho
      exact ⟨rfl, hn, t0, h2, h3, h4⟩
    · exfalso
      unfold metB at h
      revert h
      cases leftB N t (stW N ks t) k with
      | some p =>
        intro h
        obtain ⟨u, _, e⟩ := List.mem_map.mp (show _ ∈ List.map _ _ from h)
        cases e
      | none =>
        cases srt (comeL N t (stW N ks t) (waitK ks t) k) with
        | nil => intro h; cases h
        | cons m r =>
          intro h
          rcases List.mem_cons.mp (show _ ∈ Em.Row.lit t k m :: List.map _ r from h) with h | h
          · cases h
          · obtain ⟨u, _, e⟩ := List.mem_map.mp h
            cases e
  · rintro ⟨rfl, hn, t0, h1, h2, h3⟩
    have hx := h2.lt o hk
    have hb := burn_pos o hx
    left
    unfold overL
    rw [List.mem_filterMap]
    refine ⟨x, List.mem_range.mpr hx, ?_⟩
    unfold overB
    rw [(out_iff o hk I).mpr ⟨t0, by omega, h1, h2, h3⟩]
    show (if _ then _ else _) = _
    rw [if_pos hn]
/-- where a way ends: its last lamp alone has no next -/
theorem end_last (o : NetOk N) {x z : Nat} (hx : x < N.length) (hz : z ∈ path N x) : nxt N z = none ↔ wayR N x = [] ∧ z = lastOf (path N x) := by
  have hj := idx_get hz
  have hnd := (path_been o hx).nd
  obtain ⟨l1, l2⟩ := last_at o hx
  constructor
  · intro h
    rcases next_at o hx hj with ⟨_, h2, h3⟩ | ⟨y, h1, _⟩ | ⟨y, h1, _⟩
    · refine ⟨?_, ?_⟩
      · unfold wayR
        rw [show cutAt N (path N x) = (path N x).length from h3]
        exact List.drop_length
      · rw [show (path N x).length - 1 = (path N x).idxOf z by omega] at l1
        rw [hj] at l1
        exact Option.some.inj l1
    · rw [h] at h1; cases h1
    · rw [h] at h1; cases h1
  · rintro ⟨h1, rfl⟩
    rcases next_at o hx l1 with ⟨h2, _⟩ | ⟨y, _, h3⟩ | ⟨y, h2, h3, h4⟩
    · exact h2
    · have := (List.getElem?_eq_some_iff.mp h3).1
      omega
    · exfalso
      have := wayR_get.mpr ⟨cutN N x, Nat.le_refl _, h4⟩
      rw [h1] at this
      cases this
/-- an end is just that of the flame alone -/
theorem ended_fate (o : NetOk N) (hk : KdsOk N ks) {t x f : Nat} {p : Nat × Nat} (hp : ks[f]? = some p) : Em.Row.ended t x f ∈ rowsW N ks t ↔ wayR N p.2 = [] ∧ x = lastOf (path N p.2) ∧ (t : Int) = frst N p.1 p.2 (path N p.2).length ∧ Alive N ks f t := by
  have hx := hk p (List.mem_of_getElem? hp)
  rw [ended_iff o hk]
  constructor
  · rintro ⟨_, hn, t0, h1, ⟨p', hp', h2⟩, h3⟩
    rw [hp] at hp'
    cases hp'
    have h4 := (onWay_iff o hx).mp h2
    obtain ⟨e1, rfl⟩ := (end_last o hx h4.1).mp hn
    refine ⟨e1, rfl, ?_, h3⟩
    have hlap : lapY N (lastOf (path N p.2)) = none := by
      unfold lapY
      rw [if_neg]
      intro z
      have := (wayR_own o hx h4.1).mpr z
      rw [e1] at this
      cases this
    have h5 : (t0 : Int) = frstOf N p.1 p.2 (lastOf (path N p.2)) := by
      have := h4.2
      unfold Hits at this
      rw [hlap] at this
      exact this
    rw [← frst_last o hx]
    omega
  · rintro ⟨h1, rfl, h2, h3⟩
    have hm := (last_at o hx).2
    have hge := onWay_ge o hx ((onWay_iff (b := (p.1 : Int)) (t := frstOf N p.1 p.2 (lastOf (path N p.2))) o hx).mpr ⟨hm, ?_⟩)
    · obtain ⟨t0, e0⟩ := Int.eq_ofNat_of_zero_le (show 0 ≤ frstOf N (p.1 : Int) p.2 (lastOf (path N p.2)) by omega)
      refine ⟨rfl, (end_last o hx hm).mpr ⟨h1, rfl⟩, t0, ?_, ⟨p, hp, (onWay_iff o hx).mpr ⟨hm, ?_⟩⟩, h3⟩
      · rw [h2, ← frst_last o hx]; omega
      · unfold Hits
        cases lapY N (lastOf (path N p.2)) with
        | none => exact e0.symm
        | some L => exact ⟨0, by decide, by rw [Int.zero_mul]; omega⟩
    · unfold Hits
      cases lapY N (lastOf (path N p.2)) with
      | none => rfl
      | some L => exact ⟨0, by decide, by rw [Int.zero_mul]; omega⟩
/-- one that has ended is not lost -/
theorem no_both (o : NetOk N) (hk : KdsOk N ks) {t t' x x' f g : Nat} (h : LostAt N ks t x f g) (h' : Em.Row.ended t' x' f ∈ rowsW N ks t') : False := by
  obtain ⟨⟨_, ⟨p, hp, h1⟩, _⟩, h2, _⟩ := lost_cl o hk h
  have hx := hk p (List.mem_of_getElem? hp)
  obtain ⟨e1, _, e2, e3⟩ := (ended_fate o hk hp).mp h'
  by_cases q : t < t'
  · exact e3 t q _ _ h
  · obtain ⟨j, laps, hj, et, h0, hc⟩ := h1
    have hjl := (List.getElem?_eq_some_iff.mp hj).1
    have hl : laps = 0 := by
      rcases hc with z | z
      · exact z
      · have := wayR_get.mpr ⟨j, z, hj⟩
        rw [e1] at this
        cases this
    have := frst_gap o hx (p.1 : Int) hj hjl
    have hb := burn_pos o ((path_been o hx).lt _ (List.mem_of_getElem? hj))
    rw [hl, Int.zero_mul] at et
    omega
end
/-! ### fates out of rows -/
def relR (f : Nat) : Em.Row → Option Fate
  | .lost b k g h => if g = f then some (.lost b k h) else none
  | .ended b k g => if g = f then some (.ended b k) else none
  | .lit _ _ _ => none
def dueS (t : List (Option Fate)) : Em.Row → List (Option Fate)
  | .lost b k f g => t.set f (some (.lost b k g))
  | .ended b k f => t.set f (some (.ended b k))
  | .lit _ _ _ => t
theorem dueS_get (t : List (Option Fate)) (r : Em.Row) {f : Nat} (hf : f < t.length) : (dueS t r)[f]? = match relR f r with
    | some F => some (some F)
    | none => t[f]? := by
  cases r with
  | lost b k g h =>
    show (t.set g _)[f]? = _
    by_cases e : g = f
    · subst e
      simp only [relR, if_true]
      exact List.getElem?_set_self hf
    · simp only [relR, e, if_false]
      exact List.getElem?_set_ne e
  | ended b k g =>
    show (t.set g _)[f]? = _
    by_cases e : g = f
    · subst e
      simp only [relR, if_true]
      exact List.getElem?_set_self hf
    · simp only [relR, e, if_false]
      exact List.getElem?_set_ne e
  | lit b k g => rfl
theorem dueS_len (t : List (Option Fate)) (r : Em.Row) : (dueS t r).length = t.length := by cases r <;> simp [dueS]
theorem due_len : ∀ (rows : List Em.Row) (t : List (Option Fate)), (rows.foldl dueS t).length = t.length
  | [], t => rfl
  | r :: rows, t => by rw [List.foldl_cons, due_len rows, dueS_len]
theorem due_get : ∀ (rows : List Em.Row) (t : List (Option Fate)) {f : Nat}, f < t.length → (∀ F, (∀ r ∈ rows, ∀ F', relR f r = some F' → F' = F) → (∃ r ∈ rows, relR f r = some F) → (rows.foldl dueS t)[f]? = some (some F)) ∧ ((∀ r ∈ rows, relR f r = none) → (rows.foldl dueS t)[f]? = t[f]?)
  | [], t, f, hf => ⟨(fun F _ ⟨r, hr, _⟩ => by cases hr), fun _ => rfl⟩
  | r :: rows, t, f, hf => by
    obtain ⟨h1, h2⟩ := due_get rows (dueS t r) (f := f) (by rw [dueS_len]; exact hf)
    rw [List.foldl_cons]
    refine ⟨fun F hF ⟨r', hr', e⟩ => ?_, fun hn => ?_⟩
    · by_cases hex : ∃ r ∈ rows, relR f r = some F
      · exact h1 F (fun r hr => hF r (List.mem_cons_of_mem _ hr)) hex
      · have hr1 : r' = r := by
          rcases List.mem_cons.mp hr' with z | z
          · exact z
          · exact absurd ⟨r', z, e⟩ hex
        subst hr1
        rw [h2 fun r hr => ?_, dueS_get t r' hf, e]
        cases er : relR f r with
        | none => rfl
        | some F' =>
          have := hF r (List.mem_cons_of_mem _ hr) F' er
          subst this
          exact absurd ⟨r, hr, er⟩ hex
    · rw [h2 fun r hr => hn r (List.mem_cons_of_mem _ hr), dueS_get t r hf, hn r List.mem_cons_self]
theorem fatesR_get {N : Net} {ks : Kds} (o : NetOk N) (hk : KdsOk N ks) {R : List C4} (hR : Losses N ks R) {f : Nat} {p : Nat × Nat} (hp : ks[f]? = some p) :
    (∀ t x g, LostAt N ks t x f g → (fatesR N ks R)[f]? = some (.lost t x g)) ∧ ((∀ t x g, ¬ LostAt N ks t x f g) → (fatesR N ks R)[f]? = some (fateA N p)) := by
  have key : ∀ (R : List C4) (T : List Fate), f < T.length → (∀ F, (∀ c ∈ R, c.2.2.1 = f → Fate.lost c.1 c.2.1 c.2.2.2 = F) → (∃ c ∈ R, c.2.2.1 = f) → (R.foldl (fun t c => t.set c.2.2.1 (.lost c.1 c.2.1 c.2.2.2)) T)[f]? = some F) ∧ ((∀ c ∈ R, c.2.2.1 ≠ f) → (R.foldl (fun t c => t.set c.2.2.1 (.lost c.1 c.2.1 c.2.2.2)) T)[f]? = T[f]?) := fun R => by
    induction R with
    | nil => exact fun T hT => ⟨(fun F _ ⟨c, hc, _⟩ => by cases hc), fun _ => rfl⟩
    | cons c R ih =>
      intro T hT
      obtain ⟨h1, h2⟩ := ih (T.set c.2.2.1 (.lost c.1 c.2.1 c.2.2.2)) (by rw [List.length_set]; exact hT)
      rw [List.foldl_cons]
      refine ⟨fun F hF ⟨c', hc', e⟩ => ?_, fun hn => ?_⟩
      · by_cases hex : ∃ c ∈ R, c.2.2.1 = f
        · exact h1 F (fun d hd => hF d (List.mem_cons_of_mem _ hd)) hex
        · have : c' = c := by
            rcases List.mem_cons.mp hc' with z | z
            · exact z
            · exact absurd ⟨c', z, e⟩ hex
          subst this
          rw [h2 fun d hd e => hex ⟨d, hd, e⟩, e, List.getElem?_set_self hT, hF c' List.mem_cons_self e]
      · rw [h2 fun d hd => hn d (List.mem_cons_of_mem _ hd), List.getElem?_set_ne (hn c List.mem_cons_self)]
  have hf : f < (ks.map (fateA N)).length := by rw [List.length_map]; exact (List.getElem?_eq_some_iff.mp hp).1
  obtain ⟨k1, k2⟩ := key R (ks.map (fateA N)) hf
  refine ⟨fun t x g h => k1 _ (fun c hc e => ?_) ⟨((t : Int), x, f, g), (hR.iff _).mpr ⟨t, rfl, h⟩, rfl⟩, fun h => ?_⟩
  · obtain ⟨b', x', f', g'⟩ := c
    obtain ⟨t', e1, hl⟩ := (hR.iff _).mp hc
    simp only at e e1 hl ⊢
    subst e
    obtain ⟨r1, r2, r3⟩ := lost_once o hk h hl
    rw [e1, r1, r2, r3]
  · unfold fatesR
    rw [k2 fun c hc e => ?_, List.getElem?_map, hp]
    · rfl
    · obtain ⟨t', e1, hl⟩ := (hR.iff _).mp hc
      rw [e] at hl
      exact h _ _ _ hl
end Em

namespace Em
open PySem PySem.Spec PyProof.Rows L2 Qt

/-! ### a way onto a ring, step by step -/
section
variable {N : Net} {ks : Kds}
theorem goS_on (o : NetOk N) {x : Nat} (hx : x < N.length) (hr : wayR N x ≠ []) : ∀ m, ∃ y, goS N m x = some y ∧ y < N.length
  | 0 => ⟨x, rfl, hx⟩
  | m + 1 => by
    obtain ⟨z, hz, _⟩ := goS_on o hx hr m
    obtain ⟨j, hj, _⟩ := goS_mem o hx m z hz
    cases hn : nxt N z with
    | none => exact absurd ((end_last o hx (List.mem_of_getElem? hj)).mp hn).1 hr
    | some y =>
      refine ⟨y, ?_, nxt_lt o hn⟩
      show (goS N m x).bind (nxt N) = _
      rw [hz]
      exact hn
theorem goS_ring (o : NetOk N) {x y : Nat} (hx : x < N.length) (hr : wayR N x ≠ []) (h : goS N N.length x = some y) : y ∈ wayR N x := by
  obtain ⟨j, hj, hc⟩ := goS_mem o hx _ y h
  have hle := (path_been o hx).le
  have hcl : cutN N x < (path N x).length := by
    rcases Nat.lt_or_ge (cutN N x) (path N x).length with q | q
    · exact q
    · exact absurd (by unfold wayR; exact List.drop_of_length_le q) hr
  exact wayR_get.mpr ⟨j, hc (by omega) hcl, hj⟩
/-- on a ring the path is the ring -/
theorem path_ring (o : NetOk N) {y : Nat} (hy : y < N.length) (hr : y ∈ wayR N y) : cutN N y = 0 ∧ wayR N y = path N y := by
  have h0 : (path N y)[0]? = some y := by
    obtain ⟨g, e⟩ := path_head N y
    rw [e]; rfl
  obtain ⟨j, h1, h2⟩ := wayR_get.mp hr
  have e1 := idx_of (path_been o hy).nd h0
  have e2 := idx_of (path_been o hy).nd h2
  have e : cutN N y = 0 := by omega
  refine ⟨e, ?_⟩
  unfold wayR
  rw [show cutAt N (path N y) = 0 from e]
  rfl
theorem ring_step (o : NetOk N) {y u i : Nat} {g : List Nat} (hy : y < N.length) (hr : y ∈ wayR N y) (hg : Gone N y i g) (hn : nxt N (lastOf g) = some u) : (u = y → g = path N y) ∧ (u ≠ y → u ∉ g) := by
  have hyg : y ∈ g := by
    have : ∀ n, y ∈ itr (step N) n [y] := fun n => by
      induction n with
      | zero => simp [itr]
      | succ n ih =>
        show y ∈ step N (itr (step N) n [y])
        unfold step
        split
        · exact ih
        · split
          · exact ih
          · exact List.mem_append_left _ ih
    rw [hg.it]
    exact this i
  refine ⟨fun e => (hg.done (step_in hn (e ▸ hyg))).symm, fun e hm => e ?_⟩
  have hp := hg.done (step_in hn hm)
  have hc := (path_ring o hy hr).1
  unfold cutN cutAt at hc
  rw [hp, hn] at hc
  simp only at hc
  have hix := List.idxOf_lt_length_iff.mpr hm
  have e1 : g[0]? = some u := by
    rw [← hc, List.getElem?_eq_getElem hix, List.getElem_idxOf hix]
  obtain ⟨t, et⟩ := path_head N y
  rw [← hp, et] at e1
  exact (Option.some.inj e1).symm
theorem minN_congr {g h : List Nat} (e : ∀ y, y ∈ g ↔ y ∈ h) (hne : g ≠ []) : minN g = minN h := by
  obtain ⟨a, b⟩ := minN_mem hne
  have hne2 : h ≠ [] := fun z => by
    have := (e _).mp a
    rw [z] at this
    cases this
  obtain ⟨c, d⟩ := minN_mem hne2
  have h1 := b _ ((e _).mpr c)
  have h2 := d _ ((e _).mp a)
  omega
/-! ### what the rows of the walk come to -/
def dueL (N : Net) (ks : Kds) (T : Nat) : List (Option Fate) := (allW N ks (T + 1)).foldl dueS (List.replicate ks.length none)
theorem due_at (o : NetOk N) (hk : KdsOk N ks) {T : Nat} (hT : ∀ t x f g, LostAt N ks t x f g → t ≤ T) (hE : ∀ p ∈ ks, wayR N p.2 = [] → frst N p.1 p.2 (path N p.2).length ≤ T) {f : Nat} {p : Nat × Nat} (hp : ks[f]? = some p) :
    (∀ t x g, LostAt N ks t x f g → (dueL N ks T)[f]? = some (some (.lost t x g))) ∧
    ((∀ t x g, ¬ LostAt N ks t x f g) → wayR N p.2 = [] → (dueL N ks T)[f]? = some (some (fateA N p))) ∧
    ((∀ t x g, ¬ LostAt N ks t x f g) → wayR N p.2 ≠ [] → (dueL N ks T)[f]? = some none) := by
  have hx := hk p (List.mem_of_getElem? hp)
  have hf : f < (List.replicate ks.length (none : Option Fate)).length := by rw [List.length_replicate]; exact (List.getElem?_eq_some_iff.mp hp).1
  obtain ⟨k1, k2⟩ := due_get (allW N ks (T + 1)) (List.replicate ks.length none) hf
  -- what is told of this flame
  have rel : ∀ r ∈ allW N ks (T + 1), ∀ F, relR f r = some F → (∃ t x g, LostAt N ks t x f g ∧ F = .lost t x g) ∨ (∃ t x, Em.Row.ended t x f ∈ rowsW N ks t ∧ F = .ended t x) := fun r hr F hF => by
    obtain ⟨b, hb, hrb⟩ := allW_mem.mp hr
    have hat : r.at_ = b := beatA_at N b _ _ r hrb
    cases r with
    | lit b k g => cases hF
    | lost b' k g h =>
      have e : b' = b := hat
      subst e
      simp only [relR] at hF
      by_cases e : g = f
      · subst e
        rw [if_pos rfl] at hF
        cases hF
        exact .inl ⟨b', k, h, hrb, rfl⟩
      · rw [if_neg e] at hF; cases hF
    | ended b' k g =>
      have e : b' = b := hat
      subst e
      simp only [relR] at hF
      by_cases e : g = f
      · subst e
        rw [if_pos rfl] at hF
        cases hF
        exact .inr ⟨b', k, hrb, rfl⟩
      · rw [if_neg e] at hF; cases hF
  refine ⟨fun t x g h => ?_, fun hnl hr => ?_, fun hnl hr => ?_⟩
  · refine k1 _ (fun r hr F hF => ?_) ⟨_, allW_mem.mpr ⟨t, by have := hT t x f g h; omega, h⟩, by simp [relR]⟩
    rcases rel r hr F hF with ⟨t', x', g', hl, rfl⟩ | ⟨t', x', he, _⟩
    · obtain ⟨r1, r2, r3⟩ := lost_once o hk h hl
      rw [r1, r2, r3]
    · exact (no_both o hk h he).elim
  · have hfr := hE p (List.mem_of_getElem? hp) hr
    have hge := frst_ge o hx (p.1 : Int) (path N p.2).length
    obtain ⟨t, et⟩ := Int.eq_ofNat_of_zero_le (show 0 ≤ frst N (p.1 : Int) p.2 (path N p.2).length by omega)
    have he : Em.Row.ended t (lastOf (path N p.2)) f ∈ rowsW N ks t := (ended_fate o hk hp).mpr ⟨hr, rfl, et.symm, fun s _ y g h => hnl s y g h⟩
    have ef : fateA N p = .ended t (lastOf (path N p.2)) := by unfold fateA; rw [if_pos hr, et]
    rw [ef]
    refine k1 _ (fun r hr' F hF => ?_) ⟨_, allW_mem.mpr ⟨t, by omega, he⟩, by simp [relR]⟩
    rcases rel r hr' F hF with ⟨t', x', g', hl, _⟩ | ⟨t', x', he', rfl⟩
    · exact absurd hl (hnl _ _ _)
    · obtain ⟨_, e2, e3, _⟩ := (ended_fate o hk hp).mp he'
      have : (t' : Int) = t := by rw [e3, et]
      rw [this, e2]
  · unfold dueL
    rw [k2 fun r hr' => ?_, List.getElem?_replicate, if_pos (by rw [List.length_replicate] at hf; exact hf)]
    cases e : relR f r with
    | none => rfl
    | some F =>
      rcases rel r hr' F e with ⟨t', x', g', hl, _⟩ | ⟨t', x', he', _⟩
      · exact absurd hl (hnl _ _ _)
      · exact absurd ((ended_fate o hk hp).mp he').1 hr
def litB (y f : Nat) : Em.Row → Option Nat
  | .lit b k g => if k = y ∧ g = f then some b else none
  | _ => none
def litL (N : Net) (ks : Kds) (T y f : Nat) : List Nat := (allW N ks (T + 1)).filterMap (litB y f)
theorem filterMap_flatten {α β : Type} (g : α → Option β) : ∀ L : List (List α), L.flatten.filterMap g = (L.map fun l => l.filterMap g).flatten
  | [] => rfl
  | l :: L => by rw [List.flatten_cons, List.filterMap_append, filterMap_flatten g L]; rfl
theorem litL_mem (o : NetOk N) (hk : KdsOk N ks) {T y f t : Nat} : t ∈ litL N ks T y f ↔ t ≤ T ∧ On N ks f t y ∧ Alive N ks f (t + 1) := by
  unfold litL
  rw [List.mem_filterMap]
  constructor
  · rintro ⟨r, hr, e⟩
    obtain ⟨b, hb, hrb⟩ := allW_mem.mp hr
    cases r with
    | lit b' k g =>
      simp only [litB] at e
      by_cases h : k = y ∧ g = f
      · rw [if_pos h] at e
        obtain ⟨rfl, rfl⟩ := h
        cases e
        obtain ⟨rfl, h2, h3⟩ := (lit_iff o hk).mp hrb
        exact ⟨by omega, h2, h3⟩
      · rw [if_neg h] at e; cases e
    | lost _ _ _ _ => cases e
    | ended _ _ _ => cases e
  · rintro ⟨h1, h2, h3⟩
    exact ⟨.lit t y f, allW_mem.mpr ⟨t, by omega, (lit_iff o hk).mpr ⟨rfl, h2, h3⟩⟩, by simp [litB]⟩
theorem litL_up (o : NetOk N) (hk : KdsOk N ks) (T y f : Nat) : (litL N ks T y f).Pairwise (· ≤ ·) := by
  unfold litL allW
  rw [filterMap_flatten, List.map_map, List.pairwise_flatten]
  have at_ : ∀ t, ∀ b ∈ (rowsW N ks t).filterMap (litB y f), b = t := fun t b hb => by
    obtain ⟨r, hr, e⟩ := List.mem_filterMap.mp hb
    have hat : r.at_ = t := beatA_at N t _ _ r hr
    cases r with
    | lit b' k g =>
      simp only [litB] at e
      by_cases h : k = y ∧ g = f
      · rw [if_pos h] at e
        cases e
        exact hat
      · rw [if_neg h] at e; cases e
    | lost _ _ _ _ => cases e
    | ended _ _ _ => cases e
  constructor
  · intro l hl
    obtain ⟨t, _, rfl⟩ := List.mem_map.mp hl
    refine List.pairwise_of_forall_mem_list ?_
    intro a ha b hb
    rw [at_ t a ha, at_ t b hb]
    exact Nat.le_refl _
  · rw [List.pairwise_map]
    refine List.pairwise_lt_range.imp fun {u v} h => ?_
    intro a ha b hb
    have h1 := at_ u a ha
    have h2 := at_ v b hb
    omega
/-- the first one told is the flame's first lighting -/
theorem lit_first (o : NetOk N) (hk : KdsOk N ks) {T y f : Nat} {p : Nat × Nat} (hp : ks[f]? = some p) (hnl : ∀ t x g, ¬ LostAt N ks t x f g) (hy : y ∈ path N p.2) (hT : frstOf N p.1 p.2 y ≤ T) : ∃ (t : Nat) (r : List Nat), litL N ks T y f = t :: r ∧ (t : Int) = frstOf N p.1 p.2 y := by
  have hx := hk p (List.mem_of_getElem? hp)
  have hhit : OnWay N (p.1 : Nat) p.2 (frstOf N p.1 p.2 y) y := (onWay_iff o hx).mpr ⟨hy, by
    unfold Hits
    cases lapY N y with
    | none => rfl
    | some L => exact ⟨0, by decide, by rw [Int.zero_mul]; omega⟩⟩
  have hge := onWay_ge o hx hhit
  obtain ⟨t0, e0⟩ := Int.eq_ofNat_of_zero_le (show 0 ≤ frstOf N (p.1 : Int) p.2 y by omega)
  have hal : ∀ t, Alive N ks f t := fun t s _ x g h => hnl s x g h
  have hm : t0 ∈ litL N ks T y f := (litL_mem o hk).mpr ⟨by omega, ⟨p, hp, by rw [← e0]; exact hhit⟩, hal _⟩
  cases e : litL N ks T y f with
  | nil => rw [e] at hm; cases hm
  | cons t r =>
    refine ⟨t, r, rfl, ?_⟩
    have hup := litL_up o hk T y f
    rw [e, List.pairwise_cons] at hup
    have h1 : t ≤ t0 := by
      rw [e] at hm
      rcases List.mem_cons.mp hm with z | z
      · omega
      · exact hup.1 _ z
    obtain ⟨_, ⟨p', hp', h2⟩, _⟩ := (litL_mem o hk (t := t)).mp (by rw [e]; exact List.mem_cons_self)
    rw [hp] at hp'
    cases hp'
    have h3 := ((onWay_iff o hx).mp h2).2
    have h4 : frstOf N p.1 p.2 y ≤ t := by
      unfold Hits at h3
      cases el : lapY N y with
      | none => rw [el] at h3; simp only at h3; omega
      | some L =>
        rw [el] at h3
        obtain ⟨k, k0, e⟩ := h3
        have hyl := path_lt o hx hy
        have : 0 ≤ L := by
          unfold lapY at el
          by_cases hr : y ∈ wayR N y
          · rw [if_pos hr] at el
            cases el
            exact lap_nonneg o hyl
          · rw [if_neg hr] at el; cases el
        have := Int.mul_nonneg k0 this
        simp only at e
        omega
    omega
end
/-! ### the fates, put together of rows and ways -/
def odD : Option Fate → PyData
  | none => .none
  | some F => fateD F
section
variable {N : Net} {ks : Kds}
def fixN (N : Net) (ks : Kds) (T : Nat) (f : Nat) : Fate := match (dueL N ks T).getD f none with
  | some F => F
  | none => fateA N (ks.getD f (0, 0))
def fixM (N : Net) (ks : Kds) (T i : Nat) : List PyData := (List.range ks.length).map fun f => if f < i then fateD (fixN N ks T f) else odD ((dueL N ks T).getD f none)
theorem dueL_len (N : Net) (ks : Kds) (T : Nat) : (dueL N ks T).length = ks.length := by unfold dueL; rw [due_len, List.length_replicate]
theorem fixM_zero (N : Net) (ks : Kds) (T : Nat) : fixM N ks T 0 = (dueL N ks T).map odD := by
  refine List.ext_getElem? fun f => ?_
  unfold fixM
  rw [List.getElem?_map, List.getElem?_map]
  by_cases h : f < ks.length
  · rw [List.getElem?_range h, List.getElem?_eq_getElem (by rw [dueL_len]; exact h)]
    show some (if f < 0 then _ else _) = _
    rw [if_neg (Nat.not_lt_zero _), List.getD_eq_getElem?_getD, List.getElem?_eq_getElem (by rw [dueL_len]; exact h)]
    rfl
  · rw [List.getElem?_eq_none (by rw [List.length_range]; omega), List.getElem?_eq_none (by rw [dueL_len]; omega)]
    rfl
theorem fixM_get (N : Net) (ks : Kds) (T i : Nat) {f : Nat} (h : f < ks.length) : (fixM N ks T i)[f]? = some (if f < i then fateD (fixN N ks T f) else odD ((dueL N ks T).getD f none)) := by
  unfold fixM
  rw [List.getElem?_map, List.getElem?_range h]
  rfl
theorem fixM_len (N : Net) (ks : Kds) (T i : Nat) : (fixM N ks T i).length = ks.length := by unfold fixM; rw [List.length_map, List.length_range]
theorem fixM_set (N : Net) (ks : Kds) (T i : Nat) (h : i < ks.length) : fixM N ks T (i + 1) = (fixM N ks T i).set i (fateD (fixN N ks T i)) := by
  refine List.ext_getElem? fun f => ?_
  by_cases hf : f < ks.length
  · rw [fixM_get N ks T (i + 1) hf]
    by_cases e : i = f
    · subst e
      rw [List.getElem?_set_self (by rw [fixM_len]; exact h), if_pos (Nat.lt_succ_self _)]
    · rw [List.getElem?_set_ne e, fixM_get N ks T i hf]
      by_cases q : f < i
      · rw [if_pos q, if_pos (by omega)]
      · rw [if_neg q, if_neg (by omega)]
  · rw [List.getElem?_eq_none (by rw [fixM_len]; omega), List.getElem?_eq_none (by rw [List.length_set, fixM_len]; omega)]
theorem fixM_same (N : Net) (ks : Kds) (T i : Nat) {F : Fate} (h : (dueL N ks T).getD i none = some F) : fixM N ks T (i + 1) = fixM N ks T i := by
  unfold fixM
  refine List.map_congr_left fun f hf => ?_
  by_cases e : f = i
  · subst e
    rw [if_pos (Nat.lt_succ_self _), if_neg (Nat.lt_irrefl _), h]
    unfold fixN
    rw [h]
    rfl
  · by_cases q : f < i
    · rw [if_pos q, if_pos (by omega)]
    · rw [if_neg q, if_neg (by omega)]
theorem fixN_is (o : NetOk N) (hk : KdsOk N ks) {T : Nat} (hlo : ∀ t x f g, LostAt N ks t x f g → t ≤ T) (hto : ∀ p ∈ ks, (p.1 : Int) + totN N ≤ T) {f : Nat} {p : Nat × Nat} (hp : ks[f]? = some p) :
    (∀ t x g, LostAt N ks t x f g → (dueL N ks T).getD f none = some (.lost t x g)) ∧
    ((∀ t x g, ¬ LostAt N ks t x f g) → wayR N p.2 = [] → (dueL N ks T).getD f none = some (fateA N p)) ∧
    ((∀ t x g, ¬ LostAt N ks t x f g) → wayR N p.2 ≠ [] → (dueL N ks T).getD f none = none) := by
  obtain ⟨d1, d2, d3⟩ := due_at o hk hlo (fun p hp _ => Int.le_trans (frst_tot o (hk p hp) (p.1 : Int) (Nat.le_refl _)) (hto p hp)) hp
  refine ⟨fun t x g h => ?_, fun h1 h2 => ?_, fun h1 h2 => ?_⟩
  · rw [List.getD_eq_getElem?_getD, d1 t x g h]; rfl
  · rw [List.getD_eq_getElem?_getD, d2 h1 h2]; rfl
  · rw [List.getD_eq_getElem?_getD, d3 h1 h2]; rfl
theorem fixN_none (o : NetOk N) (hk : KdsOk N ks) {T : Nat} (hlo : ∀ t x f g, LostAt N ks t x f g → t ≤ T) (hto : ∀ p ∈ ks, (p.1 : Int) + totN N ≤ T) {f : Nat} {p : Nat × Nat} (hp : ks[f]? = some p) (h : (dueL N ks T).getD f none = none) : (∀ t x g, ¬ LostAt N ks t x f g) ∧ wayR N p.2 ≠ [] ∧ fixN N ks T f = .goes (minN (wayR N p.2)) (frstOf N p.1 p.2 (minN (wayR N p.2))) := by
  obtain ⟨d1, d2, d3⟩ := fixN_is o hk hlo hto hp
  have h1 : ∀ t x g, ¬ LostAt N ks t x f g := fun t x g q => by rw [d1 t x g q] at h; cases h
  have h2 : wayR N p.2 ≠ [] := fun q => by rw [d2 h1 q] at h; cases h
  refine ⟨h1, h2, ?_⟩
  unfold fixN
  rw [h]
  show fateA N (ks.getD f (0, 0)) = _
  rw [List.getD_eq_getElem?_getD, hp]
  show fateA N p = _
  unfold fateA
  rw [if_neg h2]
theorem fixM_end (o : NetOk N) (hk : KdsOk N ks) {T : Nat} (hlo : ∀ t x f g, LostAt N ks t x f g → t ≤ T) (hto : ∀ p ∈ ks, (p.1 : Int) + totN N ≤ T) {R : List C4} (hR : Losses N ks R) : fixM N ks T ks.length = (fatesR N ks R).map fateD := by
  refine List.ext_getElem? fun f => ?_
  by_cases hf : f < ks.length
  · rw [fixM_get N ks T _ hf, if_pos hf]

    rw [List.getElem?_map]
    have hp := List.getElem?_eq_getElem hf
    obtain ⟨d1, d2, d3⟩ := fixN_is o hk hlo hto hp
    obtain ⟨e1, e2⟩ := fatesR_get o hk hR hp
    by_cases hl : ∃ t x g, LostAt N ks t x f g
    · obtain ⟨t, x, g, hl⟩ := hl
      rw [e1 t x g hl]
      unfold fixN
      rw [d1 t x g hl]
      rfl
    · have hn : ∀ t x g, ¬ LostAt N ks t x f g := fun t x g q => hl ⟨t, x, g, q⟩
      rw [e2 hn]
      unfold fixN
      by_cases hr : wayR N (ks[f]'hf).2 = []
      · rw [d2 hn hr]; rfl
      · rw [d3 hn hr, List.getD_eq_getElem?_getD, hp]; rfl
  · rw [List.getElem?_eq_none (by rw [fixM_len]; omega), List.getElem?_eq_none (by rw [List.length_map, fatesR_len]; omega)]
end
/-! ### how far the law's own walk goes -/
theorem sum_le {w : Int} : ∀ N : Net, (∀ z ∈ N, z.1 ≤ w) → (N.map (·.1)).sum ≤ w * N.length
  | [], _ => by simp
  | z :: r, h => by
    have h1 := h z List.mem_cons_self
    have h2 := sum_le r fun y hy => h y (List.mem_cons_of_mem _ hy)
    rw [List.map_cons, List.sum_cons, List.length_cons]
    have : w * ((r.length + 1 : Nat) : Int) = w * r.length + w := by rw [Int.natCast_add, Int.mul_add]; simp
    omega
theorem tot_le {N : Net} {w : Int} (h : ∀ z ∈ N, z.1 ≤ w) : totN N ≤ w * N.length := by rw [tot_sum]; exact sum_le N h
theorem enough_ok {N : Net} {ks : Kds} (o : NetOk N) (hk : KdsOk N ks) {mx : Nat} {T : Nat} (hmx : ∀ p ∈ ks, p.1 ≤ mx) (hT : (T : Int) = (mx : Int) + totN N * (1 + ks.length)) : (∀ t x f g, LostAt N ks t x f g → t ≤ T) ∧ (∀ p ∈ ks, (p.1 : Int) + totN N ≤ T) := by
  have h0 := tot_nonneg o
  have step : ∀ m : Nat, m ≤ 1 + ks.length → totN N * m ≤ totN N * (1 + ks.length) := fun m hm => by
    have := Int.mul_le_mul_of_nonneg_left (show (m : Int) ≤ 1 + ks.length by omega) h0
    exact this
  refine ⟨fun t x f g h => ?_, fun p hp => ?_⟩
  · have h1 := lost_le o hk h (M := (mx : Int)) fun p hp => by have := hmx p hp; omega
    have l1 := (lost_lt o hk h).1
    have := step 2 (by omega)
    have : totN N * ((2 : Nat) : Int) = 2 * totN N := by rw [Int.mul_comm]; rfl
    omega
  · have := hmx p hp
    have := step 1 (by omega)
    have : totN N * ((1 : Nat) : Int) = totN N := by simp
    omega
theorem enough_T {N : Net} {ks : Kds} (o : NetOk N) {mx : Nat} {w : Nat} {B : Nat} (hw : ∀ z ∈ N, z.1 ≤ (w : Int)) (hB : mx + w * N.length * (1 + ks.length) ≤ B) : ∃ T : Nat, (T : Int) = (mx : Int) + totN N * (1 + ks.length) ∧ T ≤ B := by
  have h0 := tot_nonneg o
  obtain ⟨u, hu⟩ := Int.eq_ofNat_of_zero_le h0
  have h1 := tot_le hw
  have h2 : u ≤ w * N.length := by
    have : (u : Int) ≤ ((w * N.length : Nat) : Int) := by rw [← hu, Int.natCast_mul]; exact h1
    omega
  have h3 : u * (1 + ks.length) ≤ w * N.length * (1 + ks.length) := Nat.mul_le_mul_right _ h2
  refine ⟨mx + u * (1 + ks.length), ?_, by omega⟩
  rw [hu, Int.natCast_add, Int.natCast_mul, Int.natCast_add]
  rfl
theorem fate_lay (F : Fate) : (fateD F).canLay0 = true := by
  cases F <;> (unfold fateD; simp only [PyData.canLay0, PyData.canLayAll0]; decide +kernel)
theorem fate_wd (F : Fate) : wdB (fateD F) = true := by cases F <;> rfl
theorem fate_dep (F : Fate) : (fateD F).depth ≤ 1 := by cases F <;> (show 1 ≤ 1; exact Nat.le_refl _)
theorem fates_same (l : List Fate) (h : l.length ≤ 40) : (PyData.list (l.map fateD)).canLay0 = true ∧ wdB (.list (l.map fateD)) = true ∧ (PyData.list (l.map fateD)).depth ≤ 7 := by
  refine ⟨?_, wd_list (by rw [List.length_map]; omega) (wd_map fate_wd l), ?_⟩
  · show PyData.canLayAll0 (l.map fateD) = true
    exact all_lay fate_lay l
  · show PyData.depthAll (l.map fateD) + 1 ≤ 7
    have := all_depth (f := fateD) (n := 1) fate_dep l
    omega
/-! ### it may be shown -/
theorem kd_fit {p : Nat × Nat} (h1 : p.1 < 10 ^ 60) (h2 : p.2 < 10 ^ 60) : Fit 2 1 (kdD p) := by
  have := fit_tup (w := 0) (k := 0) (n := 2) (ds := [.int p.1, .int p.2]) (fun d hd => by
    simp only [List.mem_cons, List.not_mem_nil, or_false] at hd
    rcases hd with rfl | rfl
    · exact fit_int0 (by omega)
    · exact fit_int0 (by omega)) (by simp)
  exact this
theorem both_shows {N : Net} {ks : Kds} (o : NetOk N) (s : Short N) (hk : KdsOk N ks) (h60 : ∀ p ∈ ks, p.1 < 10 ^ 60) (h40 : ks.length ≤ 40) : (PyData.list [netD N, .list (ks.map kdD)]).showable = true ∧ (PyData.list [netD N, .list (ks.map kdD)]).hasDict = false ∧ (PyData.list [netD N, .list (ks.map kdD)]).depth < 150 ∧ (PyData.list [netD N, .list (ks.map kdD)]).shown.length ≤ sizeLine := by
  have fn := net_fit o s
  have fk : Fit 8000 2 (.list (ks.map kdD)) := (fit_lst (w := 2) (k := 1) (n := 40) (fun d hd => by
    obtain ⟨p, hp, rfl⟩ := List.mem_map.mp hd
    have h12 := o.hi
    have := hk p hp
    exact kd_fit (h60 p hp) (Nat.lt_of_lt_of_le (show p.2 < 12 by omega) (by decide))) (by rw [List.length_map]; exact h40)).mono (by decide) (by decide)
  have fp : Fit ((8000 + 1) * 2) (2 + 1) (.list [netD N, .list (ks.map kdD)]) := fit_lst (w := 8000) (k := 2) (n := 2) (fun e he => by
    simp only [List.mem_cons, List.not_mem_nil, or_false] at he
    rcases he with rfl | rfl
    · exact fn
    · exact fk) (Nat.le_refl _)
  obtain ⟨a, b⟩ := fp.shown (by decide)
  exact ⟨a, okD_noDict _ fp.ok, Nat.lt_of_le_of_lt fp.dp (by decide), b⟩
end Em

namespace Em
open PySem PySem.Spec PyProof.Rows L2 Qt

/-! ### a dict comprehension over a list that stays -/
theorem dc_list {K : PySem.W.Frag} {a : Addr} {xs : List V} {g : TG} {tt : TT} {tk tv : TE} {vs : List Nat} {σ : L2.St} {H1 : Hp} {D : Addr} {Qd : Hp → Prop} (Pv : Nat → Hp → Prop) (h0 : Pv 0 (upd H1 D (.dK []))) (hl : ∀ i H, i ≤ xs.length → Pv i H → SqL K H a xs)
    (hs : ∀ i x H, xs[i]? = some x → Pv i H → g x (wipe σ vs) H fun σ2 H2 => wipe σ2 vs = wipe σ vs ∧ tt σ2 H2 fun b H3 =>
      if b = true then tk σ2 H3 fun y H4 => tv σ2 H4 fun z H5 => ∃ kvs k, y = kV k ∧ H5 D = some (.dK kvs) ∧ kvs.length < sizeLine ∧ Pv (i + 1) (upd H5 D (.dK (putK kvs k z))) else Pv (i + 1) H3) (hd : ∀ H, Pv xs.length H → Qd H) :
    ∃ W : Nat → Nat → Hp → Prop, (∃ m, W 0 m (upd H1 D (.dK []))) ∧ ∀ i m H, W i m H →
      ((Itl K a).stop i H ∧ Qd H) ∨ ((Itl K a).go i H ∧ ∃ Nx : Hp → Prop, (∀ H', Nx H' → ∃ m', m' < m ∧ W (i + 1) m' H') ∧ ∀ x H', (Itl K a).yld i H x H' → g x (wipe σ vs) H' fun σ2 H2 => wipe σ2 vs = wipe σ vs ∧ tt σ2 H2 fun b H3 =>
        if b = true then tk σ2 H3 fun y H4 => tv σ2 H4 fun z H5 => ∃ kvs k, y = kV k ∧ H5 D = some (.dK kvs) ∧ kvs.length < sizeLine ∧ Nx (upd H5 D (.dK (putK kvs k z))) else Nx H3) := by
  refine ⟨fun i m H => m = xs.length - i ∧ i ≤ xs.length ∧ Pv i H, ⟨xs.length, by simp, Nat.zero_le _, h0⟩, ?_⟩
  rintro i m H ⟨rfl, hi, p⟩
  have q := hl i H hi p
  by_cases hlt : i < xs.length
  · refine .inr ⟨⟨xs, xs[i], q, by simp [hlt]⟩, Pv (i + 1), fun H' p' => ⟨xs.length - (i + 1), by omega, rfl, hlt, p'⟩, fun x H' y => ?_⟩
    obtain ⟨e, y⟩ := y
    subst e
    exact hs i x _ (y xs q) p
  · have e : i = xs.length := by omega
    subst e
    exact .inl ⟨⟨xs, q, Nat.le_refl _⟩, hd H p⟩
/-! ### a number told of each lost flame -/
def numK (h : C4 → Int) (R : List C4) : List (Key × V) := R.map fun c => ((Sum.inl (c.2.2.1 : Int) : Key), V.int (h c))
theorem numK_none {h : C4 → Int} {f : Nat} : ∀ {R : List C4}, (∀ c ∈ R, c.2.2.1 ≠ f) → valV (numK h R) (Sum.inl (f : Int) : Key) = none
  | [], _ => rfl
  | c :: R, hn => by
    have e : c.2.2.1 ≠ f := hn c List.mem_cons_self
    have : valV (numK h (c :: R)) (Sum.inl (f : Int) : Key) = valV (numK h R) (Sum.inl (f : Int) : Key) := valV_neg (fun q => e (by
      have := Sum.inl.inj q
      omega))
    rw [this]
    exact numK_none fun d hd => hn d (List.mem_cons_of_mem _ hd)
theorem numK_some {h : C4 → Int} {c : C4} : ∀ {R : List C4}, c ∈ R → (∀ d ∈ R, d.2.2.1 = c.2.2.1 → d = c) → valV (numK h R) (Sum.inl (c.2.2.1 : Int) : Key) = some (.int (h c))
  | [], hm, _ => by cases hm
  | d :: R, hm, hu => by
    by_cases e : d.2.2.1 = c.2.2.1
    · have := hu d List.mem_cons_self e
      subst this
      exact valV_pos rfl
    · have e2 : valV (numK h (d :: R)) (Sum.inl (c.2.2.1 : Int) : Key) = valV (numK h R) (Sum.inl (c.2.2.1 : Int) : Key) := valV_neg (fun q => e (by
        have := Sum.inl.inj q
        omega))
      rw [e2]
      refine numK_some ?_ fun d hd => hu d (List.mem_cons_of_mem _ hd)
      rcases List.mem_cons.mp hm with z | z
      · exact absurd (by rw [z]) e
      · exact z
section
variable {N : Net} {ks : Kds}
theorem losses_uniq (o : NetOk N) (hk : KdsOk N ks) {R : List C4} (hR : Losses N ks R) {c d : C4} (hc : c ∈ R) (hd : d ∈ R) (e : d.2.2.1 = c.2.2.1) : d = c := by
  obtain ⟨t, e1, h1⟩ := (hR.iff c).mp hc
  obtain ⟨t', e2, h2⟩ := (hR.iff d).mp hd
  rw [e] at h2
  obtain ⟨r1, r2, r3⟩ := lost_once o hk h1 h2
  obtain ⟨b, x, f, g⟩ := c
  obtain ⟨b', x', f', g'⟩ := d
  simp only at e e1 e2 r2 r3
  subst e r2 r3
  rw [e1, e2, r1]
theorem losses_nd (o : NetOk N) (hk : KdsOk N ks) {R : List C4} (hR : Losses N ks R) {i : Nat} {c : C4} (hc : R[i]? = some c) : ∀ d ∈ R.take i, d.2.2.1 ≠ c.2.2.1 := fun d hd e => by
  have hm := List.mem_of_getElem? hc
  have := losses_uniq o hk hR hm (List.mem_of_mem_take hd) e
  subst this
  obtain ⟨j, hj, e2⟩ := List.getElem_of_mem hd
  rw [List.getElem_take] at e2
  rw [List.length_take] at hj
  have h1 : R[j]? = some d := by rw [List.getElem?_eq_getElem (by omega), e2]
  have := (List.getElem?_inj (by omega) hR.nd).mp (h1.trans hc.symm)
  omega
/-- the dict of the beats of the losses -/
theorem beat_in (o : NetOk N) (hk : KdsOk N ks) {R : List C4} (hR : Losses N ks R) (f : Nat) : (∃ t x g, LostAt N ks t x f g ∧ valV (numK (·.1) R) (Sum.inl (f : Int) : Key) = some (.int (t : Nat))) ∨ ((∀ t x g, ¬ LostAt N ks t x f g) ∧ valV (numK (·.1) R) (Sum.inl (f : Int) : Key) = none) := by
  by_cases h : ∃ t x g, LostAt N ks t x f g
  · obtain ⟨t, x, g, h⟩ := h
    refine .inl ⟨t, x, g, h, ?_⟩
    have hm : ((t : Int), x, f, g) ∈ R := (hR.iff _).mpr ⟨t, rfl, h⟩
    exact numK_some (h := (·.1)) hm fun d hd e => losses_uniq o hk hR hm hd e
  · refine .inr ⟨fun t x g q => h ⟨t, x, g, q⟩, numK_none fun c hc e => ?_⟩
    obtain ⟨t, _, hl⟩ := (hR.iff c).mp hc
    rw [e] at hl
    exact h ⟨t, _, _, hl⟩
/-! ### what burns at a beat -/
theorem brn_iff (o : NetOk N) (hk : KdsOk N ks) {t x f t0 : Nat} : (stW N ks (t + 1)).getD x none = some (f, t0) ↔ t0 ≤ t ∧ (t : Int) < (t0 : Int) + burnOf N x ∧ On N ks f t0 x ∧ Alive N ks f (t + 1) := by
  rw [(inv_all o hk (t + 1)).at_]
  constructor
  · rintro ⟨h1, h2, h3⟩
    exact ⟨by omega, by omega, h3⟩
  · rintro ⟨h1, h2, h3⟩
    exact ⟨by omega, by omega, h3⟩
theorem place_mem {L : List Lgt} {t : Int} {z : Nat} {g : Int} (h : placeL N t L = some (z, g)) : ∃ l ∈ L, l.1 = z ∧ g = gone t l ∧ 0 ≤ g ∧ g < burnOf N z := by
  induction L with
  | nil => cases h
  | cons l L ih =>
    unfold placeL at h
    by_cases e : hit N t l = true
    · rw [if_pos e] at h
      cases h
      unfold hit at e
      simp only [Bool.and_eq_true, decide_eq_true_eq] at e
      exact ⟨l, List.mem_cons_self, rfl, rfl, e.1, e.2⟩
    · rw [if_neg e] at h
      obtain ⟨l', h1, h2⟩ := ih h
      exact ⟨l', List.mem_cons_of_mem _ h1, h2⟩
theorem place_iff (o : NetOk N) {x : Nat} (hx : x < N.length) {b t : Int} {z : Nat} {g : Int} : placeL N t (lightsL N b x) = some (z, g) ↔ 0 ≤ g ∧ g < burnOf N z ∧ OnWay N b x (t - g) z := by
  constructor
  · intro h
    obtain ⟨l, hl, e1, e2, h0, h1⟩ := place_mem h
    refine ⟨h0, h1, ?_⟩
    obtain ⟨hm, e3⟩ := lights_is o hx hl
    rw [e1] at hm e3
    rw [onWay_iff o hx]
    refine ⟨hm, ?_⟩
    rw [e3] at e2
    unfold Hits
    unfold gone at e2
    simp only at e2 ⊢
    have hzl := path_lt o hx hm
    cases el : lapY N z with
    | none =>
      rw [el] at e2
      simp only at e2 ⊢
      omega
    | some L =>
      rw [el] at e2
      simp only at e2 ⊢
      have hL : 0 < L := by
        unfold lapY at el
        by_cases hr : z ∈ wayR N z
        · rw [if_pos hr] at el
          cases el
          have := burn_lap o hzl hr
          have := burn_pos o hzl
          omega
        · rw [if_neg hr] at el; cases el
      by_cases q : 0 ≤ t - frstOf N b x z
      · rw [if_pos q] at e2
        refine ⟨(t - frstOf N b x z) / L, Int.ediv_nonneg q (by omega), ?_⟩
        have := Int.emod_add_mul_ediv (t - frstOf N b x z) L
        rw [Int.mul_comm] at this
        omega
      · rw [if_neg q] at e2
        omega
  · rintro ⟨h0, h1, h2⟩
    have := on_place o hx (r := (t - g, z)) h2 (a := t) (by show t - g ≤ t; omega) (by show t < t - g + burnOf N z; omega)
    rw [this]
    show some (z, t - (t - g)) = _
    rw [show t - (t - g) = g by omega]
/-- what burns of the first so many flames -/
def brnW (N : Net) (ks : Kds) (t i : Nat) : List Lt := (stW N ks (t + 1)).map fun l => match l with
  | some (f, t0) => if f < i then some (f, t0) else none
  | none => none
theorem brnW_len (o : NetOk N) (hk : KdsOk N ks) (t i : Nat) : (brnW N ks t i).length = N.length := by unfold brnW; rw [List.length_map, stW_len o hk]
theorem stW_at (o : NetOk N) (hk : KdsOk N ks) (t : Nat) {z : Nat} (hz : z < N.length) : (stW N ks t)[z]? = some ((stW N ks t).getD z none) := by
  rw [List.getD_eq_getElem?_getD, List.getElem?_eq_getElem (by rw [stW_len o hk]; exact hz)]
  rfl
theorem brnW_zero (o : NetOk N) (hk : KdsOk N ks) (t : Nat) : brnW N ks t 0 = List.replicate N.length none := by
  refine List.ext_getElem? fun z => ?_
  by_cases hz : z < N.length
  · unfold brnW
    rw [List.getElem?_map, stW_at o hk _ hz, List.getElem?_replicate, if_pos hz]
    show some _ = _
    cases (stW N ks (t + 1)).getD z none with
    | none => rfl
    | some p => obtain ⟨f, t0⟩ := p; rfl
  · rw [List.getElem?_eq_none (by rw [brnW_len o hk]; omega), List.getElem?_eq_none (by rw [List.length_replicate]; omega)]
theorem brnW_all (o : NetOk N) (hk : KdsOk N ks) (t : Nat) : brnW N ks t ks.length = stW N ks (t + 1) := by
  refine List.ext_getElem? fun z => ?_
  by_cases hz : z < N.length
  · unfold brnW
    rw [List.getElem?_map, stW_at o hk _ hz]
    show some _ = _
    cases e : (stW N ks (t + 1)).getD z none with
    | none => rfl
    | some p =>
      obtain ⟨f, t0⟩ := p
      obtain ⟨_, _, ⟨p, hp, _⟩, _⟩ := (brn_iff o hk).mp e
      show some (if f < ks.length then _ else _) = _
      rw [if_pos (List.getElem?_eq_some_iff.mp hp).1]
  · rw [List.getElem?_eq_none (by rw [brnW_len o hk]; omega), List.getElem?_eq_none (by rw [stW_len o hk]; omega)]
theorem brnW_same (o : NetOk N) (hk : KdsOk N ks) {t i : Nat} (h : ∀ z t0, (stW N ks (t + 1)).getD z none ≠ some (i, t0)) : brnW N ks t (i + 1) = brnW N ks t i := by
  refine List.ext_getElem? fun z => ?_
  by_cases hz : z < N.length
  · unfold brnW
    rw [List.getElem?_map, List.getElem?_map, stW_at o hk _ hz]
    show some _ = some _
    have hz2 := h z
    cases e : (stW N ks (t + 1)).getD z none with
    | none => rfl
    | some p =>
      obtain ⟨f, t0⟩ := p
      have : f ≠ i := fun q => hz2 t0 (by rw [e, q])
      show some (if f < i + 1 then _ else _) = some (if f < i then _ else _)
      by_cases q : f < i
      · rw [if_pos q, if_pos (by omega)]
      · rw [if_neg q, if_neg (by omega)]
  · rw [List.getElem?_eq_none (by rw [brnW_len o hk]; omega), List.getElem?_eq_none (by rw [brnW_len o hk]; omega)]
theorem brnW_set (o : NetOk N) (hk : KdsOk N ks) {t i z t0 : Nat} (h : (stW N ks (t + 1)).getD z none = some (i, t0)) : brnW N ks t (i + 1) = (brnW N ks t i).set z (some (i, t0)) := by
  obtain ⟨a1, a2, ⟨p, hp, a3⟩, a4⟩ := (brn_iff o hk).mp h
  have hx := hk p (List.mem_of_getElem? hp)
  have hzl : z < N.length := onWay_lt o hx a3
  refine List.ext_getElem? fun y => ?_
  by_cases hy : y < N.length
  · by_cases e : z = y
    · subst e
      rw [List.getElem?_set_self (by rw [brnW_len o hk]; exact hy)]
      unfold brnW
      rw [List.getElem?_map, stW_at o hk _ hy, h]
      show some (if i < i + 1 then _ else _) = _
      rw [if_pos (Nat.lt_succ_self _)]
    · rw [List.getElem?_set_ne e]
      unfold brnW
      rw [List.getElem?_map, List.getElem?_map, stW_at o hk _ hy]
      show some _ = some _
      cases e2 : (stW N ks (t + 1)).getD y none with
      | none => rfl
      | some q =>
        obtain ⟨f, u0⟩ := q
        have : f ≠ i := fun q => by
          subst q
          obtain ⟨b1, b2, ⟨p', hp', b3⟩, _⟩ := (brn_iff o hk).mp e2
          rw [hp] at hp'
          cases hp'
          rcases Nat.le_total t0 u0 with r | r
          · exact e ((onWay_uniq o hx a3 b3 (by omega) (by omega)).2).symm
          · exact e ((onWay_uniq o hx b3 a3 (by omega) (by omega)).2)
        show some (if f < i + 1 then _ else _) = some (if f < i then _ else _)
        by_cases q : f < i
        · rw [if_pos q, if_pos (by omega)]
        · rw [if_neg q, if_neg (by omega)]
  · rw [List.getElem?_eq_none (by rw [brnW_len o hk]; omega), List.getElem?_eq_none (by rw [List.length_set, brnW_len o hk]; omega)]
/-- a flame's turn -/
theorem brn_dead (o : NetOk N) (hk : KdsOk N ks) {t i : Nat} (h : ¬ Alive N ks i (t + 1)) : brnW N ks t (i + 1) = brnW N ks t i :=
  brnW_same o hk fun z t0 e => h ((brn_iff o hk).mp e).2.2.2
theorem brn_none (o : NetOk N) (hk : KdsOk N ks) {t i : Nat} {p : Nat × Nat} (hp : ks[i]? = some p) (h : placeL N t (lightsL N p.1 p.2) = none) : brnW N ks t (i + 1) = brnW N ks t i :=
  brnW_same o hk fun z t0 e => by
    obtain ⟨a1, a2, ⟨p', hp', a3⟩, _⟩ := (brn_iff o hk).mp e
    rw [hp] at hp'
    cases hp'
    have hx := hk p (List.mem_of_getElem? hp)
    have := (place_iff o hx (b := (p.1 : Int)) (t := (t : Int)) (z := z) (g := (t : Int) - t0)).mpr ⟨by omega, by omega, by rw [show (t : Int) - (t - t0) = t0 by omega]; exact a3⟩
    rw [h] at this
    cases this
theorem brn_some (o : NetOk N) (hk : KdsOk N ks) {t i : Nat} {p : Nat × Nat} (hp : ks[i]? = some p) (ha : Alive N ks i (t + 1)) {z : Nat} {g : Int} (h : placeL N t (lightsL N p.1 p.2) = some (z, g)) : z < N.length ∧ ∃ t0 : Nat, g = (t : Int) - t0 ∧ brnW N ks t (i + 1) = (brnW N ks t i).set z (some (i, t0)) := by
  have hx := hk p (List.mem_of_getElem? hp)
  obtain ⟨h0, h1, h2⟩ := (place_iff o hx).mp h
  have hge := onWay_ge o hx h2
  obtain ⟨t0, e0⟩ := Int.eq_ofNat_of_zero_le (show 0 ≤ (t : Int) - g by omega)
  refine ⟨onWay_lt o hx h2, t0, by omega, brnW_set o hk ((brn_iff o hk).mpr ⟨by omega, by omega, ⟨p, hp, by rw [← e0]; exact h2⟩, ha⟩)⟩
end
theorem burn_lay (t : Int) (l : Lt) : (burnD t l).canLay0 = true := by
  cases l with
  | none => rfl
  | some p => rfl
theorem burn_wd (t : Int) (l : Lt) : wdB (burnD t l) = true := by
  cases l with
  | none => rfl
  | some p => rfl
theorem burn_dep (t : Int) (l : Lt) : (burnD t l).depth ≤ 1 := by
  cases l with
  | none => exact Nat.zero_le _
  | some p => exact Nat.le_refl _
theorem burns_same (t : Int) (l : List Lt) (h : l.length ≤ 40) : (PyData.list (l.map (burnD t))).canLay0 = true ∧ wdB (.list (l.map (burnD t))) = true ∧ (PyData.list (l.map (burnD t))).depth ≤ 7 := by
  refine ⟨?_, wd_list (by rw [List.length_map]; omega) (wd_map (burn_wd t) l), ?_⟩
  · show PyData.canLayAll0 (l.map (burnD t)) = true
    exact all_lay (burn_lay t) l
  · show PyData.depthAll (l.map (burnD t)) + 1 ≤ 7
    have := all_depth (f := burnD t) (n := 1) (burn_dep t) l
    omega
end Em

namespace Em
open PySem PySem.Spec PyProof.Rows L2 Qt

/-! ### what burns comes again, once all has come to rest -/
section
variable {N : Net} {ks : Kds}
theorem onWay_late (o : NetOk N) {x z : Nat} (hx : x < N.length) {b t0 t : Int} (h : OnWay N b x t0 z) (h1 : b + totN N ≤ t) (h2 : t < t0 + burnOf N z) : ∃ (j : Nat) (laps : Int), (path N x)[j]? = some z ∧ cutN N x ≤ j ∧ t0 = frst N b x j + laps * lapOf N x ∧ 0 ≤ laps ∧ wayR N x ≠ [] ∧ 0 < lapOf N x ∧ frst N b x j ≤ b + totN N := by
  obtain ⟨j, laps, hj, e, h0, hc⟩ := h
  have hjl := (List.getElem?_eq_some_iff.mp hj).1
  by_cases q : cutN N x ≤ j
  · have hr : z ∈ wayR N x := wayR_get.mpr ⟨j, q, hj⟩
    have hne : wayR N x ≠ [] := fun e => by rw [e] at hr; cases hr
    refine ⟨j, laps, hj, q, e, h0, hne, ?_, frst_tot o hx b (Nat.le_of_lt hjl)⟩
    have hzl := (path_been o hx).lt z (List.mem_of_getElem? hj)
    have h3 := burn_pos o hzl
    have h4 : burnOf N z ≤ lapOf N x := by
      have hp : sumB N [z] ≤ lapOf N x := by
        unfold lapOf
        obtain ⟨u, w, euw⟩ := List.append_of_mem hr
        have e3 : sumB N (z :: w) = burnOf N z + sumB N w := sumB_cons N z w
        rw [euw, sumB_app, e3]
        have a1 := sumB_nonneg o (g := u) fun y hy => way_sub o hx y (by rw [euw]; exact List.mem_append_left _ hy)
        have a2 := sumB_nonneg o (g := w) fun y hy => way_sub o hx y (by rw [euw]; exact List.mem_append_right _ (List.mem_cons_of_mem _ hy))
        rw [sumB_one]
        omega
      rwa [sumB_one] at hp
    omega
  · exfalso
    have hl : laps = 0 := hc.resolve_right q
    rw [hl, Int.zero_mul, Int.add_zero] at e
    have h3 : frst N b x j + burnOf N z ≤ frst N b x (j + 1) := frst_gap o hx b hj (by omega)
    have h4 := frst_tot o hx b (show j + 1 ≤ (path N x).length by omega)
    omega
theorem per_at (o : NetOk N) (hk : KdsOk N ks) {mx t M : Nat} (hmx : ∀ p ∈ ks, p.1 ≤ mx) (ht : (mx : Int) + 2 * totN N ≤ t) (hlo : ∀ u x f g, LostAt N ks u x f g → u ≤ t) (hM : ∀ x, x < N.length → wayR N x ≠ [] → lapOf N x ∣ (M : Int)) {z : Nat} (hz : z < N.length) :
    (∀ f t0, (stW N ks (t + 1)).getD z none = some (f, t0) → (stW N ks (t + M + 1)).getD z none = some (f, t0 + M)) ∧ (∀ f s0, (stW N ks (t + M + 1)).getD z none = some (f, s0) → ∃ t0, s0 = t0 + M ∧ (stW N ks (t + 1)).getD z none = some (f, t0)) := by
  have htot := tot_nonneg o
  have hal : ∀ f, Alive N ks f (t + 1) ↔ Alive N ks f (t + M + 1) := fun f => ⟨fun h u hu x g hl => h u (by have := hlo u x f g hl; omega) x g hl, fun h => h.mono (by omega)⟩
  have hbz : burnOf N z ≤ totN N := by
    have := sumB_le o N.length [z] (Nat.le_refl _) (by simp) (fun y hy => by rw [List.mem_singleton.mp hy]; exact hz)
    rwa [sumB_one] at this
  refine ⟨fun f t0 h => ?_, fun f s0 h => ?_⟩
  · obtain ⟨a1, a2, ⟨p, hp, a3⟩, a4⟩ := (brn_iff o hk).mp h
    have hm := List.mem_of_getElem? hp
    have hx := hk p hm
    have hb := hmx p hm
    obtain ⟨j, laps, hj, hc, e, h0, hne, hL, hF⟩ := onWay_late o hx a3 (t := t) (by omega) a2
    obtain ⟨m, em⟩ := hM p.2 hx hne
    have hm0 : 0 ≤ m := by
      rcases Int.lt_or_le m 0 with q | q
      · have := Int.mul_neg_of_pos_of_neg hL q
        omega
      · exact q
    refine (brn_iff o hk).mpr ⟨by omega, by omega, ⟨p, hp, j, laps + m, hj, ?_, by omega, .inr hc⟩, (hal f).mp a4⟩
    rw [Int.add_mul, Int.mul_comm m, ← em, Int.natCast_add]
    omega
  · have h' : (stW N ks ((t + M) + 1)).getD z none = some (f, s0) := h
    obtain ⟨a1, a2, ⟨p, hp, a3⟩, a4⟩ := (brn_iff o hk).mp h'
    have hm := List.mem_of_getElem? hp
    have hx := hk p hm
    have hb := hmx p hm
    obtain ⟨j, laps, hj, hc, e, h0, hne, hL, hF⟩ := onWay_late o hx a3 (t := (t + M : Nat)) (by omega) a2
    obtain ⟨m, em⟩ := hM p.2 hx hne
    have hge := frst_ge o hx (p.1 : Int) j
    have e2 : (s0 : Int) - M = frst N p.1 p.2 j + (laps - m) * lapOf N p.2 := by
      rw [Int.sub_mul, Int.mul_comm m, ← em]
      omega
    have hlm : 0 ≤ laps - m := by
      rcases Int.lt_or_le (laps - m) 0 with q | q
      · have := Int.mul_neg_of_neg_of_pos q hL
        omega
      · exact q
    have := Int.mul_nonneg hlm (Int.le_of_lt hL)
    obtain ⟨t0, e0⟩ := Int.eq_ofNat_of_zero_le (show 0 ≤ (s0 : Int) - M by omega)
    refine ⟨t0, by omega, (brn_iff o hk).mpr ⟨by omega, by omega, ⟨p, hp, j, laps - m, hj, ?_, hlm, .inr hc⟩, (hal f).mpr a4⟩⟩
    omega
theorem per_burns (o : NetOk N) (hk : KdsOk N ks) {mx t M : Nat} (hmx : ∀ p ∈ ks, p.1 ≤ mx) (ht : (mx : Int) + 2 * totN N ≤ t) (hlo : ∀ u x f g, LostAt N ks u x f g → u ≤ t) (hM : ∀ x, x < N.length → wayR N x ≠ [] → lapOf N x ∣ (M : Int)) :
    (stW N ks (t + M + 1)).map (burnD ((t + M : Nat) : Int)) = (stW N ks (t + 1)).map (burnD (t : Int)) := by
  refine List.ext_getElem? fun z => ?_
  rw [List.getElem?_map, List.getElem?_map]
  by_cases hz : z < N.length
  · rw [stW_at o hk _ hz, stW_at o hk _ hz]
    show some _ = some _
    obtain ⟨p1, p2⟩ := per_at o hk hmx ht hlo hM hz
    cases e : (stW N ks (t + 1)).getD z none with
    | some q =>
      obtain ⟨f, t0⟩ := q
      rw [p1 f t0 e]
      unfold burnD
      simp only
      rw [show ((t + M : Nat) : Int) - ((t0 + M : Nat) : Int) = (t : Int) - t0 by omega]
    | none =>
      cases e2 : (stW N ks (t + M + 1)).getD z none with
      | none => rfl
      | some q =>
        obtain ⟨f, s0⟩ := q
        obtain ⟨t0, _, e3⟩ := p2 f s0 e2
        rw [e] at e3
        cases e3
  · rw [List.getElem?_eq_none (by rw [stW_len o hk]; omega), List.getElem?_eq_none (by rw [stW_len o hk]; omega)]
    rfl
/-! ### the least common one -/
theorem lcm_l (a b : Nat) : a ∣ a / Nat.gcd a b * b := by
  obtain ⟨u, hu⟩ := Nat.gcd_dvd_left a b
  obtain ⟨w, hw⟩ := Nat.gcd_dvd_right a b
  by_cases h : Nat.gcd a b = 0
  · rw [h, Nat.zero_mul] at hw
    rw [hw]
    exact ⟨0, by simp⟩
  · refine ⟨w, ?_⟩
    have e : a / Nat.gcd a b = u := by
      conv => lhs; lhs; rw [hu]
      exact Nat.mul_div_cancel_left u (by omega)
    rw [e]
    conv => lhs; rw [hw]
    conv => rhs; rw [hu]
    rw [← Nat.mul_assoc, Nat.mul_comm u]
theorem lcm_r (a b : Nat) : b ∣ a / Nat.gcd a b * b := ⟨a / Nat.gcd a b, Nat.mul_comm _ _⟩
theorem lcm_le (a b : Nat) : a / Nat.gcd a b * b ≤ a * b := Nat.mul_le_mul_right _ (Nat.div_le_self _ _)
theorem lcm_pos {a b : Nat} (ha : 0 < a) (hb : 0 < b) : 0 < a / Nat.gcd a b * b := Nat.mul_pos (Nat.div_pos (Nat.gcd_le_left b ha) (Nat.gcd_pos_of_pos_left b ha)) hb
end
end Em

namespace Em
open PySem PySem.Spec PyProof.Rows L2 Qt

/-! ### a flame more, put in, that is lost as it is kindled -/
def numI (a f : Nat) : Nat := if a ≤ f then f + 1 else f
theorem numI_inj {a f g : Nat} (h : numI a f = numI a g) : f = g := by
  unfold numI at h
  split at h <;> split at h <;> omega
theorem numI_ne (a f : Nat) : numI a f ≠ a := by
  unfold numI
  split <;> omega
theorem numI_le {a f g : Nat} : numI a f ≤ numI a g ↔ f ≤ g := by
  unfold numI
  split <;> split <;> omega
theorem numI_or (a f : Nat) : f = a ∨ ∃ g, f = numI a g := by
  rcases Nat.lt_trichotomy f a with h | h | h
  · exact .inr ⟨f, by unfold numI; rw [if_neg (by omega)]⟩
  · exact .inl h
  · exact .inr ⟨f - 1, by unfold numI; rw [if_pos (by omega)]; omega⟩
def insK (ks : Kds) (a : Nat) (p : Nat × Nat) : Kds := ks.take a ++ p :: ks.drop a
theorem ins_num {α : Type} (l : List α) {a : Nat} (ha : a ≤ l.length) (p : α) (f : Nat) : (l.take a ++ p :: l.drop a)[numI a f]? = l[f]? := by
  have hl : (l.take a).length = a := by rw [List.length_take]; omega
  unfold numI
  by_cases h : a ≤ f
  · rw [if_pos h, List.getElem?_append_right (by omega), hl, show f + 1 - a = (f - a) + 1 by omega, List.getElem?_cons_succ, List.getElem?_drop]
    congr 1
    omega
  · rw [if_neg h, List.getElem?_append_left (by omega), List.getElem?_take_of_lt (by omega)]
theorem ins_at {α : Type} (l : List α) {a : Nat} (ha : a ≤ l.length) (p : α) : (l.take a ++ p :: l.drop a)[a]? = some p := by
  have hl : (l.take a).length = a := by rw [List.length_take]; omega
  rw [List.getElem?_append_right (by omega), hl, Nat.sub_self]
  rfl
theorem ins_len {α : Type} (l : List α) {a : Nat} (ha : a ≤ l.length) (p : α) : (l.take a ++ p :: l.drop a).length = l.length + 1 := by
  rw [List.length_append, List.length_cons, List.length_take, List.length_drop]
  omega
section
variable {N : Net} {ks : Kds} {a b x0 f0 : Nat}
theorem ins_ok (hk : KdsOk N ks) (hx : x0 < N.length) : KdsOk N (insK ks a (b, x0)) := fun p hp => by
  unfold insK at hp
  rcases List.mem_append.mp hp with h | h
  · exact hk p (List.mem_of_mem_take h)
  · rcases List.mem_cons.mp h with rfl | h
    · exact hx
    · exact hk p (List.mem_of_mem_drop h)
theorem ins_on (ha : a ≤ ks.length) {f : Nat} {t : Int} {x : Nat} : On N (insK ks a (b, x0)) (numI a f) t x ↔ On N ks f t x := by
  unfold On insK
  rw [ins_num ks ha]
theorem ins_on_new (ha : a ≤ ks.length) {t : Int} {x : Nat} : On N (insK ks a (b, x0)) a t x ↔ OnWay N (b : Nat) x0 t x := by
  unfold On insK
  rw [ins_at ks ha]
  exact ⟨fun ⟨p, h1, h2⟩ => by cases h1; exact h2, fun h => ⟨_, rfl, h⟩⟩
/-- what is lost, where it burns there then -/
theorem ins_lost (o : NetOk N) (hk : KdsOk N ks) (ha : a ≤ ks.length) (hx0 : x0 < N.length) {t0 : Nat} (hb : (stW N ks (b + 1)).getD x0 none = some (f0, t0)) (h0 : t0 < b) :
    ∀ t x f g, LostAt N (insK ks a (b, x0)) t x f g ↔ (∃ f1 g1, f = numI a f1 ∧ g = numI a g1 ∧ LostAt N ks t x f1 g1) ∨ (t = b ∧ x = x0 ∧ f = a ∧ g = numI a f0) := by
  have hk' := ins_ok (a := a) (b := b) hk hx0
  obtain ⟨q1, q2, q3, q4⟩ := (brn_iff o hk).mp hb
  have hst : Stay N ks b x0 f0 t0 := ⟨q3, h0, q2, q4.mono (by omega)⟩
  intro t
  induction t using Nat.strongRecOn with
  | ind t ih =>
    intro x f g
    have alive : ∀ f1, Alive N (insK ks a (b, x0)) (numI a f1) t ↔ Alive N ks f1 t := fun f1 => by
      constructor
      · intro h u hu y g1 hl
        exact h u hu y (numI a g1) ((ih u hu y _ _).mpr (.inl ⟨f1, g1, rfl, rfl, hl⟩))
      · intro h u hu y g' hl
        rcases (ih u hu y _ _).mp hl with ⟨f2, g2, e1, _, h2⟩ | ⟨_, _, e, _⟩
        · rw [← numI_inj e1] at h2
          exact h u hu y g2 h2
        · exact numI_ne _ _ e
    have aliveA : Alive N (insK ks a (b, x0)) a t ↔ t ≤ b := by
      constructor
      · intro h
        rcases Nat.lt_or_ge b t with q | q
        · exact absurd ((ih b q x0 a (numI a f0)).mpr (.inr ⟨rfl, rfl, rfl, rfl⟩)) (h b q x0 _)
        · exact q
      · intro h u hu y g' hl
        rcases (ih u hu y _ _).mp hl with ⟨f2, g2, e1, _, _⟩ | ⟨e, _⟩
        · exact numI_ne _ _ e1.symm
        · omega
    have onA : ∀ {u : Int} {y : Nat}, On N (insK ks a (b, x0)) a u y → (b : Int) ≤ u := fun h => onWay_ge o hx0 ((ins_on_new ha).mp h)
    have stay : ∀ y g' u, Stay N (insK ks a (b, x0)) t y g' u ↔ ∃ g1, g' = numI a g1 ∧ Stay N ks t y g1 u := fun y g' u => by
      constructor
      · rintro ⟨s1, s2, s3, s4⟩
        rcases numI_or a g' with rfl | ⟨g1, rfl⟩
        · have := onA s1
          have := aliveA.mp s4
          omega
        · exact ⟨g1, rfl, (ins_on ha).mp s1, s2, s3, (alive g1).mp s4⟩
      · rintro ⟨g1, rfl, s1, s2, s3, s4⟩
        exact ⟨(ins_on ha).mpr s1, s2, s3, (alive g1).mpr s4⟩
    have held : ∀ y, Held N (insK ks a (b, x0)) t y ↔ Held N ks t y := fun y => by
      constructor
      · rintro ⟨g', u, h⟩
        obtain ⟨g1, _, h2⟩ := (stay y g' u).mp h
        exact ⟨g1, u, h2⟩
      · rintro ⟨g1, u, h⟩
        exact ⟨numI a g1, u, (stay y _ u).mpr ⟨g1, rfl, h⟩⟩
    have I' := inv_all o hk' t
    have I := inv_all o hk t
    -- the new one comes nowhere but there, then
    have comes : On N (insK ks a (b, x0)) a t x → Alive N (insK ks a (b, x0)) a t → t = b ∧ x = x0 := fun h1 h2 => by
      have h3 := onA h1
      have h4 := aliveA.mp h2
      have e : t = b := by omega
      refine ⟨e, ?_⟩
      have h5 := (ins_on_new ha).mp h1
      rw [e] at h5
      have hp := burn_pos o hx0
      exact ((onWay_uniq o hx0 (onWay_start (b : Int) x0) h5 (Int.le_refl _) (by omega)).2)
    rw [lost_sem o hk' I']
    constructor
    · rintro ⟨l1, l2, l3⟩
      have hg : (∃ u, Stay N (insK ks a (b, x0)) t x g u) ∨ (¬ Held N ks t x ∧ Best N (insK ks a (b, x0)) t x g ∧ g ≠ f) := by
        rcases l3 with h | ⟨h1, h2, h3⟩
        · exact .inl h
        · exact .inr ⟨fun z => h1 ((held x).mpr z), h2, h3⟩
      -- who takes it is none but an old one
      have old : ∃ g1, g = numI a g1 ∧ ((∃ u, Stay N ks t x g1 u) ∨ (¬ Held N ks t x ∧ Best N ks t x g1 ∧ g ≠ f)) := by
        rcases hg with ⟨u, h⟩ | ⟨h1, ⟨b1, b2, b3⟩, h3⟩
        · obtain ⟨g1, e, h2⟩ := (stay x g u).mp h
          exact ⟨g1, e, .inl ⟨u, h2⟩⟩
        · rcases numI_or a g with rfl | ⟨g1, rfl⟩
          · obtain ⟨e1, e2⟩ := comes b1 b2
            subst e1 e2
            exact absurd ⟨f0, t0, hst⟩ h1
          · exact ⟨g1, rfl, .inr ⟨h1, ⟨(ins_on ha).mp b1, (alive g1).mp b2, fun h hh ah => numI_le.mp (b3 _ ((ins_on ha).mpr hh) ((alive h).mpr ah))⟩, h3⟩⟩
      obtain ⟨g1, rfl, h⟩ := old
      rcases numI_or a f with rfl | ⟨f1, rfl⟩
      · obtain ⟨e1, e2⟩ := comes l1 l2
        subst e1 e2
        right
        refine ⟨rfl, rfl, rfl, ?_⟩
        rcases h with ⟨u, h⟩ | ⟨h, _⟩
        · have e1 := (left_iff o hk I).mpr h
          have e2 := (left_iff o hk I).mpr hst
          rw [e1] at e2
          cases e2
          rfl
        · exact absurd ⟨f0, t0, hst⟩ h
      · left
        refine ⟨f1, g1, rfl, rfl, (lost_sem o hk I).mpr ⟨(ins_on ha).mp l1, (alive f1).mp l2, ?_⟩⟩
        rcases h with h | ⟨h1, h2, h3⟩
        · exact .inl h
        · exact .inr ⟨h1, h2, fun e => h3 (by rw [e])⟩
    · rintro (⟨f1, g1, rfl, rfl, h⟩ | ⟨rfl, rfl, rfl, rfl⟩)
      · obtain ⟨l1, l2, l3⟩ := (lost_sem o hk I).mp h
        refine ⟨(ins_on ha).mpr l1, (alive f1).mpr l2, ?_⟩
        rcases l3 with ⟨u, h⟩ | ⟨h1, ⟨b1, b2, b3⟩, h3⟩
        · exact .inl ⟨u, (stay x _ u).mpr ⟨g1, rfl, h⟩⟩
        · refine .inr ⟨fun z => h1 ((held x).mp z), ⟨(ins_on ha).mpr b1, (alive g1).mpr b2, fun f' hf' af' => ?_⟩, fun e => h3 (numI_inj e)⟩
          rcases numI_or a f' with rfl | ⟨f2, rfl⟩
          · obtain ⟨e1, e2⟩ := comes hf' af'
            subst e1 e2
            exact absurd ⟨f0, t0, hst⟩ h1
          · exact numI_le.mpr (b3 f2 ((ins_on ha).mp hf') ((alive f2).mp af'))
      · refine ⟨(ins_on_new ha).mpr (onWay_start _ _), aliveA.mpr (Nat.le_refl _), .inl ⟨t0, (stay x _ t0).mpr ⟨f0, rfl, hst⟩⟩⟩
/-- what burns, numbers told anew -/
def numL (a : Nat) : Lt → Lt
  | none => none
  | some (f, t) => some (numI a f, t)
theorem ins_st (o : NetOk N) (hk : KdsOk N ks) (ha : a ≤ ks.length) (hx0 : x0 < N.length) {t0 : Nat} (hb : (stW N ks (b + 1)).getD x0 none = some (f0, t0)) (h0 : t0 < b) (t : Nat) :
    stW N (insK ks a (b, x0)) (t + 1) = (stW N ks (t + 1)).map (numL a) := by
  have hk' := ins_ok (a := a) (b := b) hk hx0
  have hl := ins_lost o hk ha hx0 hb h0
  have alive : ∀ f1, Alive N (insK ks a (b, x0)) (numI a f1) (t + 1) ↔ Alive N ks f1 (t + 1) := fun f1 => by
    constructor
    · intro h u hu y g1 q
      exact h u hu y (numI a g1) ((hl u y _ _).mpr (.inl ⟨f1, g1, rfl, rfl, q⟩))
    · intro h u hu y g' q
      rcases (hl u y _ _).mp q with ⟨f2, g2, e1, _, h2⟩ | ⟨_, _, e, _⟩
      · rw [← numI_inj e1] at h2
        exact h u hu y g2 h2
      · exact numI_ne _ _ e
  refine List.ext_getElem? fun z => ?_
  rw [List.getElem?_map]
  by_cases hz : z < N.length
  · rw [stW_at o hk' _ hz, stW_at o hk _ hz]
    show some _ = some _
    have fwd : ∀ f u, (stW N ks (t + 1)).getD z none = some (f, u) → (stW N (insK ks a (b, x0)) (t + 1)).getD z none = some (numI a f, u) := fun f u h => by
      obtain ⟨r1, r2, r3, r4⟩ := (brn_iff o hk).mp h
      exact (brn_iff o hk').mpr ⟨r1, r2, (ins_on ha).mpr r3, (alive f).mpr r4⟩
    cases e : (stW N ks (t + 1)).getD z none with
    | some q =>
      obtain ⟨f, u⟩ := q
      rw [fwd f u e]
      rfl
    | none =>
      cases e2 : (stW N (insK ks a (b, x0)) (t + 1)).getD z none with
      | none => rfl
      | some q =>
        obtain ⟨f, u⟩ := q
        obtain ⟨r1, r2, r3, r4⟩ := (brn_iff o hk').mp e2
        rcases numI_or a f with rfl | ⟨f1, rfl⟩
        · have h3 := onWay_ge o hx0 ((ins_on_new ha).mp r3)
          exact absurd ((hl b x0 f (numI f f0)).mpr (.inr ⟨rfl, rfl, rfl, rfl⟩)) (r4 b (by omega) x0 _)
        · rw [(brn_iff o hk).mpr ⟨r1, r2, (ins_on ha).mp r3, (alive f1).mp r4⟩] at e
          cases e
  · rw [List.getElem?_eq_none (by rw [stW_len o hk']; omega), List.getElem?_eq_none (by rw [stW_len o hk]; omega)]
    rfl
/-- the losses, numbers told anew, and one more -/
def num4 (a : Nat) (c : C4) : C4 := (c.1, c.2.1, numI a c.2.2.1, numI a c.2.2.2)
theorem num4_inj {a : Nat} {c d : C4} (h : num4 a c = num4 a d) : c = d := by
  obtain ⟨c1, c2, c3, c4⟩ := c
  obtain ⟨d1, d2, d3, d4⟩ := d
  have h1 := congrArg (·.1) h
  have h2 := congrArg (·.2.1) h
  have h3 := numI_inj (congrArg (·.2.2.1) h)
  have h4 := numI_inj (congrArg (·.2.2.2) h)
  simp only [num4] at h1 h2 h3 h4
  rw [h1, h2, h3, h4]
theorem ins_losses (o : NetOk N) (hk : KdsOk N ks) (ha : a ≤ ks.length) (hx0 : x0 < N.length) {t0 : Nat} (hb : (stW N ks (b + 1)).getD x0 none = some (f0, t0)) (h0 : t0 < b) {R R' : List C4} (hR : Losses N ks R) (hR' : Losses N (insK ks a (b, x0)) R') :
    R'.Perm (R.map (num4 a) ++ [((b : Int), x0, a, numI a f0)]) := by
  have hl := ins_lost o hk ha hx0 hb h0
  refine (List.perm_ext_iff_of_nodup hR'.nd ?_).mpr fun c => ?_
  · rw [List.nodup_append]
    refine ⟨?_, by simp, ?_⟩
    · rw [List.Nodup, List.pairwise_map]
      exact hR.nd.imp fun h e => h (num4_inj e)
    · intro c hc d hd e
      rw [List.mem_singleton.mp hd] at e
      obtain ⟨c', _, rfl⟩ := List.mem_map.mp hc
      exact numI_ne _ _ (congrArg (·.2.2.1) e)
  · rw [hR'.iff, List.mem_append, List.mem_map, List.mem_singleton]
    obtain ⟨c1, c2, c3, c4⟩ := c
    constructor
    · rintro ⟨t, e, h⟩
      simp only at e h
      subst e
      rcases (hl t c2 c3 c4).mp h with ⟨f1, g1, e3, e4, h2⟩ | ⟨rfl, rfl, rfl, rfl⟩
      · subst e3 e4
        exact .inl ⟨((t : Int), c2, f1, g1), (hR.iff _).mpr ⟨t, rfl, h2⟩, rfl⟩
      · exact .inr rfl
    · rintro (⟨d, hd, e⟩ | e)
      · obtain ⟨t, e1, h⟩ := (hR.iff _).mp hd
        obtain ⟨d1, d2, d3, d4⟩ := d
        simp only at e1 h
        cases e
        exact ⟨t, e1, (hl t _ _ _).mpr (.inl ⟨d3, d4, rfl, rfl, h⟩)⟩
      · cases e
        exact ⟨b, rfl, (hl b _ _ _).mpr (.inr ⟨rfl, rfl, rfl, rfl⟩)⟩
/-- the fates, numbers told anew, and that of the one more -/
def numF (a : Nat) : Fate → Fate
  | .lost t x g => .lost t x (numI a g)
  | .ended t x => .ended t x
  | .goes x t => .goes x t
theorem ins_fates (o : NetOk N) (hk : KdsOk N ks) (ha : a ≤ ks.length) (hx0 : x0 < N.length) {t0 : Nat} (hb : (stW N ks (b + 1)).getD x0 none = some (f0, t0)) (h0 : t0 < b) {R R' : List C4} (hR : Losses N ks R) (hR' : Losses N (insK ks a (b, x0)) R') :
    fatesR N (insK ks a (b, x0)) R' = ((fatesR N ks R).map (numF a)).take a ++ [Fate.lost b x0 (numI a f0)] ++ ((fatesR N ks R).map (numF a)).drop a := by
  have hl := ins_lost o hk ha hx0 hb h0
  have hk' := ins_ok (a := a) (b := b) hk hx0
  have hla : a ≤ ((fatesR N ks R).map (numF a)).length := by rw [List.length_map, fatesR_len]; exact ha
  rw [List.append_assoc, List.singleton_append]
  refine List.ext_getElem? fun f => ?_
  rcases numI_or a f with rfl | ⟨f1, rfl⟩
  · rw [ins_at _ hla]
    exact (fatesR_get o hk' hR' (ins_at ks ha _)).1 b x0 _ ((hl b _ _ _).mpr (.inr ⟨rfl, rfl, rfl, rfl⟩))
  · rw [ins_num _ hla, List.getElem?_map]
    by_cases hf : f1 < ks.length
    · have hp := List.getElem?_eq_getElem hf
      have hp' : (insK ks a (b, x0))[numI a f1]? = some ks[f1] := by unfold insK; rw [ins_num ks ha]; exact hp
      obtain ⟨e1, e2⟩ := fatesR_get o hk hR hp
      obtain ⟨e3, e4⟩ := fatesR_get o hk' hR' hp'
      by_cases h : ∃ t x g, LostAt N ks t x f1 g
      · obtain ⟨t, x, g, h⟩ := h
        rw [e1 t x g h, e3 t x (numI a g) ((hl t _ _ _).mpr (.inl ⟨f1, g, rfl, rfl, h⟩))]
        rfl
      · rw [e2 fun t x g q => h ⟨t, x, g, q⟩, e4 fun t x g q => ?_]
        · show some _ = some (numF a (fateA N _))
          unfold fateA
          split <;> rfl
        · rcases (hl t _ _ _).mp q with ⟨f2, g2, e, _, q2⟩ | ⟨_, _, e, _⟩
          · rw [← numI_inj e] at q2
            exact h ⟨t, x, g2, q2⟩
          · exact numI_ne _ _ e
    · have h1 : (fatesR N ks R)[f1]? = none := List.getElem?_eq_none (by rw [fatesR_len]; omega)
      rw [h1, List.getElem?_eq_none]
      · rfl
      · rw [fatesR_len]
        unfold insK
        rw [ins_len ks ha]
        unfold numI
        rw [if_pos (by omega)]
        omega
end
theorem op_catAK {X : Cx} {K : PySem.W.Frag} (h : X.K = K) : OpR X (binaryOp .Add) (rCatA K) := h ▸ op_catA
end Em

namespace Em
open PySem PySem.Spec PyProof.Rows L2 Qt

/-! ### the next lightings of a lamp -/
def lexP (p q : Nat × Nat) : Prop := p.1 < q.1 ∨ (p.1 = q.1 ∧ p.2 < q.2)
theorem lexP_irr (p : Nat × Nat) : ¬ lexP p p := fun h => by
  rcases h with h | ⟨_, h⟩
  · exact absurd h (Nat.lt_irrefl _)
  · exact absurd h (Nat.lt_irrefl _)
theorem lexP_tr {p q r : Nat × Nat} (h : lexP p q) (h' : lexP q r) : lexP p r := by
  unfold lexP at *
  omega
theorem lexP_or (p q : Nat × Nat) : lexP p q ∨ p = q ∨ lexP q p := by
  obtain ⟨a, b⟩ := p
  obtain ⟨c, d⟩ := q
  unfold lexP
  rcases Nat.lt_trichotomy a c with h | h | h
  · exact .inl (.inl h)
  · subst h
    rcases Nat.lt_trichotomy b d with h | h | h
    · exact .inl (.inr ⟨rfl, h⟩)
    · exact .inr (.inl (by rw [h]))
    · exact .inr (.inr (.inr ⟨rfl, h⟩))
  · exact .inr (.inr (.inl h))
theorem srt_nd {W : List (Nat × Nat)} (h : W.Pairwise lexP) : W.Nodup := h.imp fun q e => by
  subst e
  exact lexP_irr _ q
theorem lexs_one : ∀ {A B : List (Nat × Nat)}, A.Pairwise lexP → B.Pairwise lexP → (∀ x, x ∈ A ↔ x ∈ B) → A = B
  | [], [], _, _, _ => rfl
  | [], b :: B, _, _, h => absurd ((h b).mpr List.mem_cons_self) (by simp)
  | a :: A, [], _, _, h => absurd ((h a).mp List.mem_cons_self) (by simp)
  | a :: A, b :: B, h1, h2, h => by
    obtain ⟨p1, p2⟩ := List.pairwise_cons.mp h1
    obtain ⟨q1, q2⟩ := List.pairwise_cons.mp h2
    have e : a = b := by
      rcases List.mem_cons.mp ((h a).mp List.mem_cons_self) with z | z
      · exact z
      · rcases List.mem_cons.mp ((h b).mpr List.mem_cons_self) with y | y
        · exact y.symm
        · exact absurd (lexP_tr (p1 b y) (q1 a z)) (lexP_irr a)
    subst e
    rw [lexs_one p2 q2 fun x => ?_]
    constructor
    · intro hx
      rcases List.mem_cons.mp ((h x).mp (List.mem_cons_of_mem _ hx)) with z | z
      · subst z
        exact absurd (p1 x hx) (lexP_irr x)
      · exact z
    · intro hx
      rcases List.mem_cons.mp ((h x).mpr (List.mem_cons_of_mem _ hx)) with z | z
      · subst z
        exact absurd (q1 x hx) (lexP_irr x)
      · exact z
def LitAt (N : Net) (ks : Kds) (x t f : Nat) : Prop := On N ks f t x ∧ Alive N ks f (t + 1)
/-- the first so many of them from a beat on -/
structure Lits (N : Net) (ks : Kds) (x first count : Nat) (W : List (Nat × Nat)) : Prop where
  srt : W.Pairwise lexP
  len : W.length ≤ count
  is_ : ∀ w ∈ W, first ≤ w.1 ∧ LitAt N ks x w.1 w.2
  all : ∀ t f, first ≤ t → LitAt N ks x t f → (t, f) ∈ W ∨ (W.length = count ∧ ∀ w ∈ W, lexP w (t, f))
theorem sub_len {A B : List (Nat × Nat)} (h1 : A.Nodup) (h2 : ∀ x ∈ A, x ∈ B) : A.length ≤ B.length := by
  induction A generalizing B with
  | nil => exact Nat.zero_le _
  | cons a A ih =>
    obtain ⟨p1, p2⟩ := List.nodup_cons.mp h1
    have ha := h2 a List.mem_cons_self
    have := ih (B := B.erase a) p2 fun x hx => (List.mem_erase_of_ne (fun e : x = a => p1 (by rw [← e]; exact hx))).mpr (h2 x (List.mem_cons_of_mem _ hx))
    rw [List.length_erase_of_mem ha] at this
    have : 0 < B.length := List.length_pos_of_mem ha
    rw [List.length_cons]
    omega
theorem lits_sub {N : Net} {ks : Kds} {x first count : Nat} {A B : List (Nat × Nat)} (h : Lits N ks x first count A) (h' : Lits N ks x first count B) : ∀ a ∈ A, a ∈ B := fun a ha => by
  obtain ⟨t, f⟩ := a
  obtain ⟨h1, h2⟩ := h.is_ _ ha
  rcases h'.all t f h1 h2 with q | ⟨q1, q2⟩
  · exact q
  · exfalso
    have hsub : ∀ b ∈ (t, f) :: B, b ∈ A := fun b hb => by
      rcases List.mem_cons.mp hb with rfl | hb
      · exact ha
      · obtain ⟨u, g⟩ := b
        obtain ⟨r1, r2⟩ := h'.is_ _ hb
        rcases h.all u g r1 r2 with z | ⟨_, z⟩
        · exact z
        · exact absurd (lexP_tr (z _ ha) (q2 _ hb)) (lexP_irr _)
    have hnd : ((t, f) :: B).Nodup := List.nodup_cons.mpr ⟨fun z => lexP_irr _ (q2 _ z), srt_nd h'.srt⟩
    have := sub_len hnd hsub
    have := h.len
    rw [List.length_cons] at *
    omega
theorem lits_one {N : Net} {ks : Kds} {x first count : Nat} {A B : List (Nat × Nat)} (h : Lits N ks x first count A) (h' : Lits N ks x first count B) : A = B :=
  lexs_one h.srt h'.srt fun a => ⟨lits_sub h h' a, lits_sub h' h a⟩
/-- the next beats of a light -/
def nextB (fb : Nat) (lap : Option Nat) (first count : Nat) : List Nat := match lap with
  | none => if first ≤ fb then [fb] else []
  | some l => (List.range count).map fun i => (if fb < first then fb + (first - fb + l - 1) / l * l else fb) + l * i
theorem nextB_is {fb first count : Nat} {lap : Option Nat} (hl : ∀ l, lap = some l → 0 < l) {u : Nat} (h : u ∈ nextB fb lap first count) : first ≤ u ∧ Hits ((fb : Int), lap.map fun l : Nat => (l : Int)) u := by
  cases lap with
  | none =>
    simp only [nextB] at h
    split at h
    · rw [List.mem_singleton.mp h]
      exact ⟨by assumption, rfl⟩
    · cases h
  | some l =>
    simp only [nextB, List.mem_map, List.mem_range] at h
    obtain ⟨i, _, rfl⟩ := h
    have l0 := hl l rfl
    by_cases q : fb < first
    · rw [if_pos q]
      have h1 := Nat.div_add_mod (first - fb + l - 1) l
      have h2 := Nat.mod_lt (first - fb + l - 1) l0
      rw [Nat.mul_comm] at h1
      obtain ⟨Y, eY⟩ : ∃ Y, Y = (first - fb + l - 1) / l * l := ⟨_, rfl⟩
      obtain ⟨Z, eZ⟩ : ∃ Z, Z = l * i := ⟨_, rfl⟩
      refine ⟨by rw [← eY] at h1 ⊢; rw [← eZ]; omega, (((first - fb + l - 1) / l + i : Nat) : Int), Int.natCast_nonneg _, ?_⟩
      show (((fb + (first - fb + l - 1) / l * l + l * i : Nat)) : Int) = (fb : Int) + _ * ((l : Nat) : Int)
      rw [← Int.natCast_mul, ← Int.natCast_add]
      congr 1
      rw [Nat.add_mul, Nat.mul_comm l i, Nat.add_assoc]
    · rw [if_neg q]
      refine ⟨by omega, (i : Int), by omega, ?_⟩
      show ((fb + l * i : Nat) : Int) = (fb : Int) + (i : Int) * ((l : Nat) : Int)
      rw [← Int.natCast_mul, ← Int.natCast_add, Nat.mul_comm]
theorem nextB_all {fb first count : Nat} {lap : Option Nat} (hl : ∀ l, lap = some l → 0 < l) {t : Nat} (h1 : first ≤ t) (h2 : Hits ((fb : Int), lap.map fun l : Nat => (l : Int)) t) : t ∈ nextB fb lap first count ∨ ((nextB fb lap first count).length = count ∧ ∀ u ∈ nextB fb lap first count, u < t) := by
  cases lap with
  | none =>
    have e : (t : Int) = fb := h2
    left
    unfold nextB
    rw [if_pos (by omega)]
    exact List.mem_singleton.mpr (by omega)
  | some l =>
    have l0 := hl l rfl
    obtain ⟨k, k0, ek⟩ := h2
    obtain ⟨m, rfl⟩ := Int.eq_ofNat_of_zero_le k0
    have et : t = fb + m * l := by
      have : (t : Int) = ((fb + m * l : Nat) : Int) := by rw [Int.natCast_add, Int.natCast_mul]; exact ek
      omega
    -- its place
    obtain ⟨j, hj⟩ : ∃ j, t = (if fb < first then fb + (first - fb + l - 1) / l * l else fb) + l * j := by
      by_cases q : fb < first
      · rw [if_pos q]
        have h3 : (first - fb + l - 1) / l ≤ m := by
          have h4 := Nat.div_add_mod (first - fb + l - 1) l
          have h5 : first - fb ≤ m * l := by omega
          rcases Nat.lt_or_ge m ((first - fb + l - 1) / l) with r | r
          · have := Nat.mul_le_mul_left l (show m + 1 ≤ (first - fb + l - 1) / l from r)
            rw [Nat.mul_add, Nat.mul_one, Nat.mul_comm l m] at this
            omega
          · exact r
        refine ⟨m - (first - fb + l - 1) / l, ?_⟩
        have h6 : m * l = (first - fb + l - 1) / l * l + (m - (first - fb + l - 1) / l) * l := by rw [← Nat.add_mul]; congr 1; omega
        rw [Nat.mul_comm l]
        omega
      · rw [if_neg q]
        exact ⟨m, by rw [Nat.mul_comm]; exact et⟩
    by_cases q : j < count
    · left
      simp only [nextB, List.mem_map, List.mem_range]
      exact ⟨j, q, hj.symm⟩
    · right
      refine ⟨by simp [nextB], fun u hu => ?_⟩
      simp only [nextB, List.mem_map, List.mem_range] at hu
      obtain ⟨i, hi, rfl⟩ := hu
      rw [hj]
      have := Nat.mul_lt_mul_of_pos_left (show i < j by omega) l0
      omega
theorem nextB_nd {fb first count : Nat} {lap : Option Nat} (hl : ∀ l, lap = some l → 0 < l) : (nextB fb lap first count).Nodup := by
  cases lap with
  | none =>
    show (if first ≤ fb then [fb] else []).Nodup
    split
    · exact List.nodup_cons.mpr ⟨by simp, List.nodup_nil⟩
    · exact List.nodup_nil
  | some l =>
    have l0 := hl l rfl
    unfold nextB
    rw [List.Nodup, List.pairwise_map]
    exact List.pairwise_lt_range.imp fun {i j} h e => by
      have := Nat.mul_lt_mul_of_pos_left h l0
      omega
/-- sorted and cut they are the first so many -/
theorem lits_of {N : Net} {ks : Kds} (o : NetOk N) (hk : KdsOk N ks) {x first count : Nat} (fb : Nat → Nat) (lap : Option Nat) (hl : ∀ l, lap = some l → 0 < l) (hlap : lapY N x = lap.map fun l : Nat => (l : Int))
    (hfb : ∀ f p, ks[f]? = some p → x ∈ path N p.2 → frstOf N p.1 p.2 x = (fb f : Nat)) {F S : List (Nat × Nat)} (hF : ∀ t f, (t, f) ∈ F ↔ (∃ p, ks[f]? = some p ∧ x ∈ path N p.2) ∧ t ∈ nextB (fb f) lap first count ∧ Alive N ks f (t + 1)) (hp : S.Perm F) (hs : S.Pairwise lexP) : Lits N ks x first count (S.take count) := by
  have hS : ∀ t f, (t, f) ∈ S ↔ (∃ p, ks[f]? = some p ∧ x ∈ path N p.2) ∧ t ∈ nextB (fb f) lap first count ∧ Alive N ks f (t + 1) := fun t f => by rw [hp.mem_iff]; exact hF t f
  refine ⟨List.Pairwise.sublist (List.take_sublist _ _) hs, by rw [List.length_take]; omega, fun w hw => ?_, fun t f h1 h2 => ?_⟩
  · obtain ⟨t, f⟩ := w
    obtain ⟨⟨p, hp', hx⟩, hn, ha⟩ := (hS t f).mp (List.mem_of_mem_take hw)
    obtain ⟨q1, q2⟩ := nextB_is hl hn
    refine ⟨q1, ⟨p, hp', (onWay_iff o (hk p (List.mem_of_getElem? hp'))).mpr ⟨hx, ?_⟩⟩, ha⟩
    rw [hfb f p hp' hx, hlap]
    exact q2
  · obtain ⟨⟨p, hp', hon⟩, ha⟩ := h2
    obtain ⟨hx, hh⟩ := (onWay_iff o (hk p (List.mem_of_getElem? hp'))).mp hon
    rw [hfb f p hp' hx, hlap] at hh
    have cut : S = S.take count ++ S.drop count := (List.take_append_drop count S).symm
    rcases nextB_all (count := count) hl h1 hh with q | ⟨q1, q2⟩
    · have hm : (t, f) ∈ S := (hS t f).mpr ⟨⟨p, hp', hx⟩, q, ha⟩
      rw [cut] at hm
      rcases List.mem_append.mp hm with z | z
      · exact .inl z
      · right
        have hlen : count ≤ S.length := by
          have := List.length_pos_of_mem z
          rw [List.length_drop] at this
          omega
        refine ⟨by rw [List.length_take]; omega, fun w hw => ?_⟩
        rw [cut] at hs
        exact (List.pairwise_append.mp hs).2.2 w hw _ z
    · right
      -- so many of its own are ahead of it
      obtain ⟨own, eo⟩ : ∃ own, own = (nextB (fb f) lap first count).map fun u => (u, f) := ⟨_, rfl⟩
      have ond : own.Nodup := by
        rw [eo, List.Nodup, List.pairwise_map]
        exact (nextB_nd hl).imp fun h e => h (congrArg Prod.fst e)
      have osub : ∀ w ∈ own, w ∈ S ∧ lexP w (t, f) := fun w hw => by
        rw [eo] at hw
        obtain ⟨u, hu, rfl⟩ := List.mem_map.mp hw
        have := q2 u hu
        exact ⟨(hS u f).mpr ⟨⟨p, hp', hx⟩, hu, ha.mono (by omega)⟩, .inl this⟩
      have olen : own.length = count := by rw [eo, List.length_map, q1]
      have hlen : count ≤ S.length := by
        have := sub_len ond fun w hw => (osub w hw).1
        omega
      refine ⟨by rw [List.length_take]; omega, fun w hw => ?_⟩
      rcases lexP_or w (t, f) with z | z | z
      · exact z
      all_goals
        exfalso
        obtain ⟨j, hj, ej⟩ := List.getElem_of_mem hw
        rw [List.length_take] at hj
        rw [List.getElem_take] at ej
        have hsub : ∀ v ∈ own, v ∈ S.take j := fun v hv => by
          obtain ⟨v1, v2⟩ := osub v hv
          have vw : lexP v w := by
            first
            | (rw [z]; exact v2)
            | exact lexP_tr v2 z
          obtain ⟨i, hi, ei⟩ := List.getElem_of_mem v1
          rcases Nat.lt_trichotomy i j with r | r | r
          · rw [← ei]
            exact List.mem_take_iff_getElem.mpr ⟨i, by omega, rfl⟩
          · subst r
            rw [ei] at ej
            rw [ej] at vw
            exact absurd vw (lexP_irr _)
          · have := List.pairwise_iff_getElem.mp hs j i (by omega) hi r
            rw [ei, ej] at this
            exact absurd (lexP_tr vw this) (lexP_irr _)
        have := sub_len ond hsub
        rw [List.length_take] at this
        omega
end Em
namespace Em
open PySem PySem.Spec PyProof.Rows L2 Qt
/-- a def of the program with things told by keyword alone -/
structure DfD (K : PySem.W.Frag) (mg : Str → Option Value) (x : Str) (st : Stmt) (kws : List (Str × V)) (a : Addr) (fd : FuncData) : Prop where
  F : FunD K x x (defArgs st) (defBody st) (defScope st) [] kws a fd
  g : mg x = some (.ref a)
theorem lexL_P {p q : Nat × Nat} (h : lexL [(q.1 : Int), (q.2 : Int)] [(p.1 : Int), (p.2 : Int)] = false) (hne : p ≠ q) : lexP p q := by
  obtain ⟨a, b⟩ := p
  obtain ⟨c, d⟩ := q
  rcases lexP_or (a, b) (c, d) with z | z | z
  · exact z
  · exact absurd z hne
  · exfalso
    have : lexL [(c : Int), (d : Int)] [(a : Int), (b : Int)] = true := by
      unfold lexP at z
      simp only at z
      rcases z with z | ⟨z1, z2⟩
      · rw [lexL_cons, if_neg (by omega)]
        exact decide_eq_true (by omega)
      · rw [lexL_cons, if_pos (by omega), lexL_cons, if_neg (by omega)]
        exact decide_eq_true (by omega)
    rw [this] at h
    cases h
section
variable {N : Net} {ks : Kds}
open Classical in
/-- what is found of a flame, and of the first so many -/
noncomputable def ownF (N : Net) (ks : Kds) (x first count : Nat) (fb : Nat → Nat) (lap : Option Nat) (f : Nat) : List (Nat × Nat) := match ks[f]? with
  | some p => if x ∈ path N p.2 then ((nextB (fb f) lap first count).filter fun t => decide (Alive N ks f (t + 1))).map fun t => (t, f) else []
  | none => []
noncomputable def allF (N : Net) (ks : Kds) (x first count : Nat) (fb : Nat → Nat) (lap : Option Nat) (i : Nat) : List (Nat × Nat) := ((List.range i).map (ownF N ks x first count fb lap)).flatten
theorem allF_succ (x first count : Nat) (fb : Nat → Nat) (lap : Option Nat) (i : Nat) : allF N ks x first count fb lap (i + 1) = allF N ks x first count fb lap i ++ ownF N ks x first count fb lap i := by
  unfold allF
  rw [List.range_succ, List.map_append, List.flatten_append]
  simp
open Classical in
theorem ownF_mem {x first count : Nat} {fb : Nat → Nat} {lap : Option Nat} {f : Nat} {w : Nat × Nat} : w ∈ ownF N ks x first count fb lap f ↔ w.2 = f ∧ (∃ p, ks[f]? = some p ∧ x ∈ path N p.2) ∧ w.1 ∈ nextB (fb f) lap first count ∧ Alive N ks f (w.1 + 1) := by
  obtain ⟨t, g⟩ := w
  unfold ownF
  cases e : ks[f]? with
  | none =>
    constructor
    · intro h; cases h
    · rintro ⟨_, ⟨p, hp, _⟩, _⟩
      cases hp
  | some p =>
    show (t, g) ∈ (if _ then _ else _) ↔ _
    by_cases hx : x ∈ path N p.2
    · rw [if_pos hx, List.mem_map]
      constructor
      · rintro ⟨u, hu, e⟩
        cases e
        rw [List.mem_filter] at hu
        exact ⟨rfl, ⟨p, rfl, hx⟩, hu.1, of_decide_eq_true hu.2⟩
      · rintro ⟨rfl, _, h1, h2⟩
        exact ⟨t, List.mem_filter.mpr ⟨h1, decide_eq_true h2⟩, rfl⟩
    · rw [if_neg hx]
      constructor
      · intro h; cases h
      · rintro ⟨_, ⟨p', hp, h⟩, _⟩
        cases hp
        exact absurd h hx
theorem allF_mem {x first count : Nat} {fb : Nat → Nat} {lap : Option Nat} {t f : Nat} : (t, f) ∈ allF N ks x first count fb lap ks.length ↔ (∃ p, ks[f]? = some p ∧ x ∈ path N p.2) ∧ t ∈ nextB (fb f) lap first count ∧ Alive N ks f (t + 1) := by
  unfold allF
  rw [List.mem_flatten]
  constructor
  · rintro ⟨l, hl, h⟩
    obtain ⟨g, _, rfl⟩ := List.mem_map.mp hl
    obtain ⟨e, h⟩ := ownF_mem.mp h
    simp only at e h
    subst e
    exact h
  · intro h
    obtain ⟨⟨p, hp, _⟩, _⟩ := id h
    exact ⟨_, List.mem_map.mpr ⟨f, List.mem_range.mpr (List.getElem?_eq_some_iff.mp hp).1, rfl⟩, ownF_mem.mpr ⟨rfl, h⟩⟩
theorem allF_nd {x first count : Nat} {fb : Nat → Nat} {lap : Option Nat} (hl : ∀ l, lap = some l → 0 < l) (i : Nat) : (allF N ks x first count fb lap i).Nodup := by
  unfold allF
  rw [List.Nodup, List.pairwise_flatten]
  constructor
  · intro l h
    obtain ⟨f, _, rfl⟩ := List.mem_map.mp h
    unfold ownF
    cases ks[f]? with
    | none => exact .nil
    | some p =>
      show (if _ then _ else _ : List (Nat × Nat)).Pairwise _
      split
      · rw [List.pairwise_map]
        exact ((nextB_nd hl).filter _).imp fun h e => h (congrArg Prod.fst e)
      · exact .nil
  · rw [List.pairwise_map]
    exact List.pairwise_lt_range.imp fun {f g} h u hu w hw e => by
      have h1 := (ownF_mem.mp hu).1
      have h2 := (ownF_mem.mp hw).1
      rw [e] at h1
      omega
theorem allF_len {x first count : Nat} {fb : Nat → Nat} {lap : Option Nat} : ∀ i, (allF N ks x first count fb lap i).length ≤ i * (count + 1)
  | 0 => by unfold allF; simp
  | i + 1 => by
    rw [allF_succ, List.length_append]
    have h1 := allF_len (x := x) (first := first) (count := count) (fb := fb) (lap := lap) i
    have h2 : (ownF N ks x first count fb lap i).length ≤ count + 1 := by
      unfold ownF
      cases ks[i]? with
      | none => exact Nat.zero_le _
      | some p =>
        show (if _ then _ else _ : List (Nat × Nat)).length ≤ _
        split
        · rw [List.length_map]
          refine Nat.le_trans (List.length_filter_le _ _) ?_
          cases lap with
          | none =>
            show (if _ then _ else _ : List Nat).length ≤ _
            split <;> simp
          | some l => simp [nextB]
        · exact Nat.zero_le _
    rw [Nat.succ_mul]
    omega
end
end Em

namespace Em
open PySem PySem.Spec PyProof.Rows L2 Qt

/-! ### all so many times as much -/
def tmN (N : Net) (c : Nat) : Net := N.map fun z => (z.1 * (c : Int), z.2)
def tmK (ks : Kds) (c : Nat) : Kds := ks.map fun p => (p.1 * c, p.2)
section
variable {N : Net} {ks : Kds} {c : Nat}
theorem tmN_len : (tmN N c).length = N.length := by unfold tmN; rw [List.length_map]
theorem tmN_ok (o : NetOk N) (hc : 1 ≤ c) : NetOk (tmN N c) := by
  refine ⟨by rw [tmN_len]; exact o.lo, by rw [tmN_len]; exact o.hi, fun p hp => ?_, fun p hp y e => ?_⟩
  · obtain ⟨z, hz, rfl⟩ := List.mem_map.mp hp
    have h1 := o.len z hz
    have : 1 * 1 ≤ z.1 * (c : Int) := Int.mul_le_mul h1 (by omega) (by decide) (by omega)
    show 1 ≤ z.1 * (c : Int)
    omega
  · obtain ⟨z, hz, rfl⟩ := List.mem_map.mp hp
    rw [tmN_len]
    exact o.nx z hz y e
theorem tmK_ok (hk : KdsOk N ks) : KdsOk (tmN N c) (tmK ks c) := fun p hp => by
  obtain ⟨z, hz, rfl⟩ := List.mem_map.mp hp
  rw [tmN_len]
  exact hk z hz
theorem tm_nxt (x : Nat) : nxt (tmN N c) x = nxt N x := by
  unfold nxt tmN
  rw [List.getD_eq_getElem?_getD, List.getD_eq_getElem?_getD, List.getElem?_map]
  cases N[x]? <;> rfl
theorem tm_burn {x : Nat} (hx : x < N.length) : burnOf (tmN N c) x = burnOf N x * c := by
  unfold burnOf tmN
  rw [List.getD_eq_getElem?_getD, List.getD_eq_getElem?_getD, List.getElem?_map, List.getElem?_eq_getElem hx]
  rfl
theorem tm_step (g : List Nat) : step (tmN N c) g = step N g := by unfold step; rw [tm_nxt]
theorem tm_path (x : Nat) : path (tmN N c) x = path N x := by
  unfold path
  rw [tmN_len]
  have : ∀ n g, itr (step (tmN N c)) n g = itr (step N) n g := fun n => by
    induction n with
    | zero => intro g; rfl
    | succ n ih =>
      intro g
      show step (tmN N c) (itr (step (tmN N c)) n g) = step N (itr (step N) n g)
      rw [ih, tm_step]
  exact this _ _
theorem tm_cut (x : Nat) : cutN (tmN N c) x = cutN N x := by unfold cutN cutAt; rw [tm_path, tm_nxt]
theorem tm_wayR (x : Nat) : wayR (tmN N c) x = wayR N x := by
  have h := tm_cut (N := N) (c := c) x
  unfold cutN at h
  unfold wayR
  rw [h, tm_path]
theorem tm_sum : ∀ {g : List Nat}, (∀ y ∈ g, y < N.length) → sumB (tmN N c) g = sumB N g * c
  | [], _ => by show (0 : Int) = 0 * _; rw [Int.zero_mul]
  | y :: g, h => by
    rw [sumB_cons, sumB_cons, tm_burn (h y List.mem_cons_self), tm_sum fun z hz => h z (List.mem_cons_of_mem _ hz), Int.add_mul]
theorem tm_frst (o : NetOk N) {x : Nat} (hx : x < N.length) (b : Int) (j : Nat) : frst (tmN N c) (b * c) x j = frst N b x j * c := by
  unfold frst
  rw [tm_path, tm_sum fun y hy => (path_been o hx).lt y (List.mem_of_mem_take hy), Int.add_mul]
theorem tm_lap (o : NetOk N) {x : Nat} (hx : x < N.length) : lapOf (tmN N c) x = lapOf N x * c := by
  unfold lapOf
  rw [tm_wayR, tm_sum (way_sub o hx)]
theorem tm_onWay (o : NetOk N) {x z : Nat} (hx : x < N.length) {b t' : Int} : OnWay (tmN N c) (b * c) x t' z ↔ ∃ t, t' = t * c ∧ OnWay N b x t z := by
  unfold OnWay
  constructor
  · rintro ⟨j, laps, hj, e, h0, hc⟩
    rw [tm_path] at hj
    rw [tm_cut] at hc
    rw [tm_frst o hx, tm_lap o hx] at e
    refine ⟨frst N b x j + laps * lapOf N x, ?_, j, laps, hj, rfl, h0, hc⟩
    rw [e, Int.add_mul, Int.mul_assoc]
  · rintro ⟨t, rfl, j, laps, hj, e, h0, hc⟩
    refine ⟨j, laps, by rw [tm_path]; exact hj, ?_, h0, by rw [tm_cut]; exact hc⟩
    rw [tm_frst o hx, tm_lap o hx, e, Int.add_mul, Int.mul_assoc]
theorem tm_on (o : NetOk N) (hk : KdsOk N ks) {f z : Nat} {t' : Int} : On (tmN N c) (tmK ks c) f t' z ↔ ∃ t, t' = t * c ∧ On N ks f t z := by
  unfold On tmK
  constructor
  · rintro ⟨p', hp', h⟩
    rw [List.getElem?_map] at hp'
    cases e : ks[f]? with
    | none => rw [e] at hp'; cases hp'
    | some p =>
      rw [e] at hp'
      cases hp'
      have hx := hk p (List.mem_of_getElem? e)
      rw [show ((p.1 * c : Nat) : Int) = (p.1 : Int) * c from Int.natCast_mul _ _] at h
      obtain ⟨t, e1, h2⟩ := (tm_onWay o hx).mp h
      exact ⟨t, e1, p, rfl, h2⟩
  · rintro ⟨t, e1, p, hp, h⟩
    have hx := hk p (List.mem_of_getElem? hp)
    refine ⟨(p.1 * c, p.2), by rw [List.getElem?_map, hp]; rfl, ?_⟩
    rw [show ((p.1 * c : Nat) : Int) = (p.1 : Int) * c from Int.natCast_mul _ _]
    exact (tm_onWay o hx).mpr ⟨t, e1, h⟩
theorem on_nat (o : NetOk N) (hk : KdsOk N ks) {f z : Nat} {t : Int} (h : On N ks f t z) : ∃ n : Nat, t = n := by
  obtain ⟨p, hp, h⟩ := h
  have := onWay_ge o (hk p (List.mem_of_getElem? hp)) h
  exact Int.eq_ofNat_of_zero_le (by omega)
theorem tm_lt {a b : Nat} (hc : 1 ≤ c) : a * c < b * c ↔ a < b := Nat.mul_lt_mul_right (by omega)
theorem tm_inj {a b : Nat} (hc : 1 ≤ c) (h : a * c = b * c) : a = b := Nat.eq_of_mul_eq_mul_right (by omega) h
/-- what is lost -/
theorem tm_lost (o : NetOk N) (hk : KdsOk N ks) (hc : 1 ≤ c) : ∀ t' x f g, LostAt (tmN N c) (tmK ks c) t' x f g ↔ ∃ t, t' = t * c ∧ LostAt N ks t x f g := by
  have o' := tmN_ok (N := N) o hc
  have hk' : KdsOk (tmN N c) (tmK ks c) := tmK_ok hk
  have onN : ∀ {t' x f : Nat}, On (tmN N c) (tmK ks c) f (t' : Int) x ↔ ∃ t : Nat, t' = t * c ∧ On N ks f (t : Int) x := fun {t' x f} => by
    rw [tm_on o hk]
    constructor
    · rintro ⟨t, e, h⟩
      obtain ⟨n, rfl⟩ := on_nat o hk h
      exact ⟨n, by rw [← Int.natCast_mul] at e; omega, h⟩
    · rintro ⟨t, rfl, h⟩
      exact ⟨t, Int.natCast_mul _ _, h⟩
  intro t'
  induction t' using Nat.strongRecOn with
  | ind t' ih =>
    intro x f g
    have I' := inv_all o' hk' t'
    -- at a beat that is so many times another
    have main : ∀ t, t' = t * c → (LostAt (tmN N c) (tmK ks c) t' x f g ↔ LostAt N ks t x f g) := fun t et => by
      have I := inv_all o hk t
      have alive : ∀ f1, Alive (tmN N c) (tmK ks c) f1 t' ↔ Alive N ks f1 t := fun f1 => by
        constructor
        · intro h u hu y g1 q
          have hu' : u * c < t' := by rw [et]; exact (tm_lt hc).mpr hu
          exact h (u * c) hu' y g1 ((ih _ hu' y f1 g1).mpr ⟨u, rfl, q⟩)
        · intro h u hu y g1 q
          obtain ⟨u0, e, q2⟩ := (ih u hu y f1 g1).mp q
          exact h u0 (by rw [e, et] at hu; exact (tm_lt hc).mp hu) y g1 q2
      have on : ∀ {y f1 : Nat}, On (tmN N c) (tmK ks c) f1 (t' : Int) y ↔ On N ks f1 (t : Int) y := fun {y f1} => by
        rw [onN]
        constructor
        · rintro ⟨u, e, h⟩
          rw [et] at e
          rw [tm_inj hc e]
          exact h
        · intro h
          exact ⟨t, et, h⟩
      have stay : ∀ y g1, (∃ u', Stay (tmN N c) (tmK ks c) t' y g1 u') ↔ ∃ u, Stay N ks t y g1 u := fun y g1 => by
        constructor
        · rintro ⟨u', s1, s2, s3, s4⟩
          have hy := s1.lt o' hk'
          rw [tmN_len] at hy
          obtain ⟨u, e, h⟩ := onN.mp s1
          refine ⟨u, h, ?_, ?_, (alive g1).mp s4⟩
          · rw [e, et] at s2
            exact (tm_lt hc).mp s2
          · rw [e, et, tm_burn hy, Int.natCast_mul, Int.natCast_mul, ← Int.add_mul] at s3
            exact Int.lt_of_mul_lt_mul_right s3 (by omega)
        · rintro ⟨u, s1, s2, s3, s4⟩
          have hy := s1.lt o hk
          refine ⟨u * c, onN.mpr ⟨u, rfl, s1⟩, ?_, ?_, (alive g1).mpr s4⟩
          · rw [et]
            exact (tm_lt hc).mpr s2
          · rw [et, tm_burn hy, Int.natCast_mul, Int.natCast_mul, ← Int.add_mul]
            exact Int.mul_lt_mul_of_pos_right s3 (by omega)
      have held : ∀ y, Held (tmN N c) (tmK ks c) t' y ↔ Held N ks t y := fun y => by
        constructor
        · rintro ⟨g1, h⟩
          exact ⟨g1, (stay y g1).mp h⟩
        · rintro ⟨g1, h⟩
          exact ⟨g1, (stay y g1).mpr h⟩
      have best : ∀ y m, Best (tmN N c) (tmK ks c) t' y m ↔ Best N ks t y m := fun y m => by
        constructor
        · rintro ⟨b1, b2, b3⟩
          exact ⟨on.mp b1, (alive m).mp b2, fun f1 h1 h2 => b3 f1 (on.mpr h1) ((alive f1).mpr h2)⟩
        · rintro ⟨b1, b2, b3⟩
          exact ⟨on.mpr b1, (alive m).mpr b2, fun f1 h1 h2 => b3 f1 (on.mp h1) ((alive f1).mp h2)⟩
      rw [lost_sem o' hk' I', lost_sem o hk I, on, alive, stay, held, best]
    constructor
    · intro h
      obtain ⟨h1, _⟩ := (lost_sem o' hk' I').mp h
      obtain ⟨t, e, _⟩ := onN.mp h1
      exact ⟨t, e, (main t e).mp h⟩
    · rintro ⟨t, e, h⟩
      exact (main t e).mpr h
end
end Em
namespace Em
open PySem PySem.Spec PyProof.Rows L2 Qt
section
variable {N : Net} {ks : Kds} {c : Nat}
/-- the losses, the fates, what burns -/
def tm4 (c : Nat) (d : C4) : C4 := (d.1 * c, d.2.1, d.2.2.1, d.2.2.2)
theorem tm4_inj (hc : 1 ≤ c) {d e : C4} (h : tm4 c d = tm4 c e) : d = e := by
  obtain ⟨d1, d2, d3, d4⟩ := d
  obtain ⟨e1, e2, e3, e4⟩ := e
  have h1 := congrArg (·.1) h
  have h2 := congrArg (·.2) h
  simp only [tm4] at h1 h2
  rw [Int.eq_of_mul_eq_mul_right (show (c : Int) ≠ 0 by omega) h1]
  cases h2
  rfl
theorem tm_losses (o : NetOk N) (hk : KdsOk N ks) (hc : 1 ≤ c) {R R' : List C4} (hR : Losses N ks R) (hR' : Losses (tmN N c) (tmK ks c) R') : R' = R.map (tm4 c) := by
  have hl := tm_lost (c := c) o hk hc
  refine sorted_one c4L_inj hR'.srt ?_ ?_
  · rw [List.pairwise_map]
    refine hR.srt.imp fun {d e} h => ?_
    obtain ⟨d1, d2, d3, d4⟩ := d
    obtain ⟨e1, e2, e3, e4⟩ := e
    have h : lexL (c4L (e1, e2, e3, e4)) (c4L (d1, d2, d3, d4)) = false := h
    show lexL (c4L (e1 * c, e2, e3, e4)) (c4L (d1 * c, d2, d3, d4)) = false
    unfold c4L at h ⊢
    simp only at h ⊢
    rw [lexL_cons] at h ⊢
    by_cases q : e1 = d1
    · rw [if_pos q] at h
      rw [if_pos (by rw [q])]
      exact h
    · rw [if_neg q] at h
      have q2 : ¬ e1 * (c : Int) = d1 * c := fun z => q (Int.eq_of_mul_eq_mul_right (show (c : Int) ≠ 0 by omega) z)
      rw [if_neg q2]
      have := of_decide_eq_false h
      refine decide_eq_false fun z => this ?_
      exact Int.lt_of_mul_lt_mul_right z (by omega)
  · refine (List.perm_ext_iff_of_nodup hR'.nd ?_).mpr fun d => ?_
    · rw [List.Nodup, List.pairwise_map]
      exact hR.nd.imp fun h e => h (tm4_inj hc e)
    · rw [hR'.iff, List.mem_map]
      constructor
      · rintro ⟨t', e, h⟩
        obtain ⟨t, rfl, h2⟩ := (hl t' _ _ _).mp h
        obtain ⟨d1, d2, d3, d4⟩ := d
        simp only at e h2
        refine ⟨((t : Int), d2, d3, d4), (hR.iff _).mpr ⟨t, rfl, h2⟩, ?_⟩
        show ((t : Int) * c, d2, d3, d4) = _
        rw [e, Int.natCast_mul]
      · rintro ⟨e, he, rfl⟩
        obtain ⟨t, e1, h⟩ := (hR.iff e).mp he
        refine ⟨t * c, ?_, (hl _ _ _ _).mpr ⟨t, rfl, h⟩⟩
        show e.1 * (c : Int) = _
        rw [e1, Int.natCast_mul]
def tmF (c : Nat) : Fate → Fate
  | .lost t x g => .lost (t * c) x g
  | .ended t x => .ended (t * c) x
  | .goes x t => .goes x (t * c)
theorem tm_frstOf (o : NetOk N) {x y : Nat} (hx : x < N.length) (b : Int) : frstOf (tmN N c) (b * c) x y = frstOf N b x y * c := by
  unfold frstOf
  rw [tm_path, tm_frst o hx]
theorem tm_fates (o : NetOk N) (hk : KdsOk N ks) (hc : 1 ≤ c) {R R' : List C4} (hR : Losses N ks R) (hR' : Losses (tmN N c) (tmK ks c) R') : fatesR (tmN N c) (tmK ks c) R' = (fatesR N ks R).map (tmF c) := by
  have hl := tm_lost (c := c) o hk hc
  have o' := tmN_ok (N := N) o hc
  have hk' : KdsOk (tmN N c) (tmK ks c) := tmK_ok hk
  have lk : (tmK ks c).length = ks.length := by unfold tmK; rw [List.length_map]
  refine List.ext_getElem? fun f => ?_
  rw [List.getElem?_map]
  by_cases hf : f < ks.length
  · have hp := List.getElem?_eq_getElem hf
    have hp' : (tmK ks c)[f]? = some (ks[f].1 * c, ks[f].2) := by unfold tmK; rw [List.getElem?_map, hp]; rfl
    have hx := hk _ (List.mem_of_getElem? hp)
    obtain ⟨e1, e2⟩ := fatesR_get o hk hR hp
    obtain ⟨e3, e4⟩ := fatesR_get o' hk' hR' hp'
    by_cases h : ∃ t x g, LostAt N ks t x f g
    · obtain ⟨t, x, g, h⟩ := h
      rw [e1 t x g h, e3 (t * c) x g ((hl _ _ _ _).mpr ⟨t, rfl, h⟩)]
      show some (Fate.lost ((t * c : Nat) : Int) x g) = some (Fate.lost ((t : Int) * c) x g)
      rw [Int.natCast_mul]
    · rw [e2 fun t x g q => h ⟨t, x, g, q⟩, e4 fun t x g q => ?_]
      · show some (fateA _ _) = some (tmF c (fateA N _))
        unfold fateA
        simp only
        rw [tm_wayR, tm_path, show ((ks[f].1 * c : Nat) : Int) = (ks[f].1 : Int) * c from Int.natCast_mul _ _, tm_frst o hx, tm_frstOf o hx]
        split <;> rfl
      · obtain ⟨u, _, q2⟩ := (hl t _ _ _).mp q
        exact h ⟨u, x, g, q2⟩
  · rw [List.getElem?_eq_none (by rw [fatesR_len, lk]; omega), List.getElem?_eq_none (by rw [fatesR_len]; omega)]
    rfl
end
end Em
namespace Em
open PySem PySem.Spec PyProof.Rows L2 Qt
section
variable {N : Net} {ks : Kds} {c : Nat}
theorem tm_alive (o : NetOk N) (hk : KdsOk N ks) (hc : 1 ≤ c) {f t r : Nat} (hr : r < c) : Alive (tmN N c) (tmK ks c) f (t * c + r + 1) ↔ Alive N ks f (t + 1) := by
  have hl := tm_lost (c := c) o hk hc
  constructor
  · intro h u hu x g q
    refine h (u * c) ?_ x g ((hl _ _ _ _).mpr ⟨u, rfl, q⟩)
    have := Nat.mul_le_mul_right c (show u ≤ t by omega)
    omega
  · intro h u' hu x g q
    obtain ⟨u, rfl, q2⟩ := (hl u' x f g).mp q
    refine h u ?_ x g q2
    rcases Nat.lt_or_ge u (t + 1) with z | z
    · exact z
    · have := Nat.mul_le_mul_right c z
      rw [Nat.add_mul, Nat.one_mul] at this
      omega
def tmLt (c : Nat) : Lt → Lt
  | none => none
  | some (f, t) => some (f, t * c)
theorem tm_st (o : NetOk N) (hk : KdsOk N ks) (hc : 1 ≤ c) {t r : Nat} (hr : r < c) : stW (tmN N c) (tmK ks c) (t * c + r + 1) = (stW N ks (t + 1)).map (tmLt c) := by
  have o' := tmN_ok (N := N) o hc
  have hk' : KdsOk (tmN N c) (tmK ks c) := tmK_ok hk
  have key : ∀ z, z < N.length → ∀ f u', (stW (tmN N c) (tmK ks c) (t * c + r + 1)).getD z none = some (f, u') ↔ ∃ u, u' = u * c ∧ (stW N ks (t + 1)).getD z none = some (f, u) := fun z hz f u' => by
    rw [brn_iff o' hk', tm_burn hz, tm_on o hk, tm_alive o hk hc hr]
    constructor
    · rintro ⟨h1, h2, ⟨u, e, h3⟩, h4⟩
      obtain ⟨n, rfl⟩ := on_nat o hk h3
      have e2 : u' = n * c := by rw [← Int.natCast_mul] at e; omega
      subst e2
      refine ⟨n, rfl, (brn_iff o hk).mpr ⟨?_, ?_, h3, h4⟩⟩
      · rcases Nat.lt_or_ge t n with q | q
        · have := Nat.mul_le_mul_right c (show t + 1 ≤ n from q)
          rw [Nat.add_mul, Nat.one_mul] at this
          omega
        · exact q
      · rcases Int.lt_or_le (t : Int) ((n : Int) + burnOf N z) with q | q
        · exact q
        · exfalso
          have h5 := Int.mul_le_mul_of_nonneg_right q (show (0 : Int) ≤ c by omega)
          rw [Int.add_mul] at h5
          rw [Int.natCast_add, Int.natCast_mul, Int.natCast_mul] at h2
          omega
    · rintro ⟨u, rfl, h⟩
      obtain ⟨h1, h2, h3, h4⟩ := (brn_iff o hk).mp h
      refine ⟨?_, ?_, ⟨u, Int.natCast_mul _ _, h3⟩, h4⟩
      · have := Nat.mul_le_mul_right c h1
        omega
      · have h5 := Int.mul_le_mul_of_nonneg_right (show (t : Int) + 1 ≤ (u : Int) + burnOf N z by omega) (show (0 : Int) ≤ c by omega)
        rw [Int.add_mul, Int.add_mul, Int.one_mul] at h5
        rw [Int.natCast_add, Int.natCast_mul, Int.natCast_mul]
        omega
  refine List.ext_getElem? fun z => ?_
  rw [List.getElem?_map]
  by_cases hz : z < N.length
  · rw [stW_at o' hk' _ (by rw [tmN_len]; exact hz), stW_at o hk _ hz]
    show some _ = some _
    cases e : (stW N ks (t + 1)).getD z none with
    | some q =>
      obtain ⟨f, u⟩ := q
      rw [(key z hz f (u * c)).mpr ⟨u, rfl, e⟩]
      rfl
    | none =>
      cases e2 : (stW (tmN N c) (tmK ks c) (t * c + r + 1)).getD z none with
      | none => rfl
      | some q =>
        obtain ⟨f, u'⟩ := q
        obtain ⟨u, _, e3⟩ := (key z hz f u').mp e2
        rw [e] at e3
        cases e3
  · rw [List.getElem?_eq_none (by rw [stW_len o' hk', tmN_len]; omega), List.getElem?_eq_none (by rw [stW_len o hk]; omega)]
    rfl
theorem tm_lits (o : NetOk N) (hk : KdsOk N ks) (hc : 1 ≤ c) {x first count : Nat} {W : List (Nat × Nat)} (h : Lits N ks x first count W) : Lits (tmN N c) (tmK ks c) x (first * c) count (W.map fun w => (w.1 * c, w.2)) := by
  have lit : ∀ t' f, LitAt (tmN N c) (tmK ks c) x t' f ↔ ∃ t, t' = t * c ∧ LitAt N ks x t f := fun t' f => by
    unfold LitAt
    constructor
    · rintro ⟨h1, h2⟩
      obtain ⟨u, e, h3⟩ := (tm_on o hk).mp h1
      obtain ⟨n, rfl⟩ := on_nat o hk h3
      have e2 : t' = n * c := by rw [← Int.natCast_mul] at e; omega
      subst e2
      exact ⟨n, rfl, h3, (tm_alive (r := 0) o hk hc (by omega)).mp h2⟩
    · rintro ⟨t, rfl, h1, h2⟩
      exact ⟨(tm_on o hk).mpr ⟨t, Int.natCast_mul _ _, h1⟩, (tm_alive (r := 0) o hk hc (by omega)).mpr h2⟩
  have lex : ∀ {p q : Nat × Nat}, lexP p q → lexP (p.1 * c, p.2) (q.1 * c, q.2) := fun {p q} z => by
    unfold lexP at *
    rcases z with z | ⟨z1, z2⟩
    · exact .inl ((tm_lt hc).mpr z)
    · exact .inr ⟨by show p.1 * c = q.1 * c; rw [z1], z2⟩
  refine ⟨?_, by rw [List.length_map]; exact h.len, fun w hw => ?_, fun t' f h1 h2 => ?_⟩
  · rw [List.pairwise_map]
    exact h.srt.imp lex
  · obtain ⟨v, hv, rfl⟩ := List.mem_map.mp hw
    obtain ⟨q1, q2⟩ := h.is_ v hv
    exact ⟨Nat.mul_le_mul_right c q1, (lit _ _).mpr ⟨v.1, rfl, q2⟩⟩
  · obtain ⟨t, rfl, h3⟩ := (lit t' f).mp h2
    rcases h.all t f (Nat.le_of_mul_le_mul_right h1 (by omega)) h3 with q | ⟨q1, q2⟩
    · exact .inl (List.mem_map.mpr ⟨(t, f), q, rfl⟩)
    · refine .inr ⟨by rw [List.length_map]; exact q1, fun w hw => ?_⟩
      obtain ⟨v, hv, rfl⟩ := List.mem_map.mp hw
      exact lex (q2 v hv)
end
end Em
namespace Em
open PySem PySem.Spec PyProof.Rows L2 Qt
/-! ### how great the beats told are -/
theorem nextB_le {fb first count : Nat} {lap : Option Nat} {D : Nat} (hl : ∀ l, lap = some l → 0 < l ∧ l ≤ D) {u : Nat} (h : u ∈ nextB fb lap first count) : u ≤ fb + first + D + D * count := by
  cases lap with
  | none =>
    simp only [nextB] at h
    split at h
    · rw [List.mem_singleton.mp h]
      omega
    · cases h
  | some l =>
    simp only [nextB, List.mem_map, List.mem_range] at h
    obtain ⟨i, hi, rfl⟩ := h
    obtain ⟨l0, l1⟩ := hl l rfl
    have h3 : l * i ≤ D * count := Nat.mul_le_mul l1 (by omega)
    by_cases q : fb < first
    · rw [if_pos q]
      have h1 := Nat.div_mul_le_self (first - fb + l - 1) l
      generalize (first - fb + l - 1) / l * l = Y at h1 ⊢
      omega
    · rw [if_neg q]
      omega
theorem sorted_ex (F : List (Nat × Nat)) (h : F.Nodup) : ∃ S : List (Nat × Nat), S.Perm F ∧ S.Pairwise lexP := by
  refine ⟨F.mergeSort fun p q => decide (p.1 < q.1 ∨ (p.1 = q.1 ∧ p.2 ≤ q.2)), List.mergeSort_perm _ _, ?_⟩
  have hs := List.pairwise_mergeSort (le := fun p q : Nat × Nat => decide (p.1 < q.1 ∨ (p.1 = q.1 ∧ p.2 ≤ q.2))) (fun a b c h1 h2 => by
    have h1 := of_decide_eq_true h1
    have h2 := of_decide_eq_true h2
    exact decide_eq_true (by omega)) (fun a b => by
    by_cases q : a.1 < b.1 ∨ (a.1 = b.1 ∧ a.2 ≤ b.2)
    · rw [decide_eq_true q]; rfl
    · rw [decide_eq_true (show b.1 < a.1 ∨ (b.1 = a.1 ∧ b.2 ≤ a.2) by omega), Bool.or_true]) F
  have hn : (F.mergeSort fun p q => decide (p.1 < q.1 ∨ (p.1 = q.1 ∧ p.2 ≤ q.2))).Nodup := (List.mergeSort_perm _ _).nodup_iff.mpr h
  refine (List.Pairwise.and hs hn).imp fun {p q} z => ?_
  obtain ⟨z1, z2⟩ := z
  have z1 := of_decide_eq_true z1
  rcases lexP_or p q with y | y | y
  · exact y
  · exact absurd y z2
  · unfold lexP at *
    omega
section
variable {N : Net} {ks : Kds}
theorem lits_le (o : NetOk N) (hk : KdsOk N ks) {x first count mx D : Nat} (hx : x < N.length) (hmx : ∀ p ∈ ks, p.1 ≤ mx) (hD : totN N ≤ (D : Int)) {W : List (Nat × Nat)} (h : Lits N ks x first count W) : ∀ w ∈ W, w.1 ≤ mx + D + first + D + D * count := by
  obtain ⟨fb, efb⟩ : ∃ fb : Nat → Nat, fb = fun f => (frstOf N ((ks.getD f (0, 0)).1 : Int) (ks.getD f (0, 0)).2 x).toNat := ⟨_, rfl⟩
  obtain ⟨lap, elap⟩ : ∃ lap : Option Nat, lap = if x ∈ wayR N x then some (lapOf N x).toNat else none := ⟨_, rfl⟩
  have hfb : ∀ f p, ks[f]? = some p → x ∈ path N p.2 → frstOf N p.1 p.2 x = (fb f : Nat) ∧ fb f ≤ mx + D := fun f p hp hxp => by
    have hm := List.mem_of_getElem? hp
    have hxl := hk p hm
    have hon := (onWay_iff (b := (p.1 : Int)) (t := frstOf N p.1 p.2 x) o hxl).mpr ⟨hxp, by
      unfold Hits
      cases lapY N x with
      | none => rfl
      | some L => exact ⟨0, by decide, by rw [Int.zero_mul]; simp⟩⟩
    have h0 := onWay_ge o hxl hon
    have h1 := frstOf_tot o hxl (p.1 : Int) hxp
    have h2 := hmx p hm
    have e : ks.getD f (0, 0) = p := by rw [List.getD_eq_getElem?_getD, hp]; rfl
    rw [efb]
    simp only
    rw [e]
    omega
  have hlap : lapY N x = lap.map fun l : Nat => (l : Int) := by
    rw [elap]
    unfold lapY
    by_cases h : x ∈ wayR N x
    · rw [if_pos h, if_pos h]
      have := lap_nonneg o hx
      show some (lapOf N x) = some (((lapOf N x).toNat : Nat) : Int)
      congr 1
      omega
    · rw [if_neg h, if_neg h]; rfl
  have hl : ∀ l, lap = some l → 0 < l ∧ l ≤ D := fun l e => by
    rw [elap] at e
    by_cases h : x ∈ wayR N x
    · rw [if_pos h] at e
      cases e
      have h1 := burn_lap o hx h
      have h2 := burn_pos o hx
      have h3 := tot_lap o hx
      omega
    · rw [if_neg h] at e; cases e
  have hl0 : ∀ l, lap = some l → 0 < l := fun l e => (hl l e).1
  obtain ⟨S, c1, c2⟩ := sorted_ex (allF N ks x first count fb lap ks.length) (allF_nd hl0 _)
  have hL := lits_of o hk fb lap hl0 hlap (fun f p a b => (hfb f p a b).1) (F := allF N ks x first count fb lap ks.length) (S := S) (fun t f => allF_mem) c1 c2
  have e := lits_one h hL
  subst e
  intro w hw
  obtain ⟨t, f⟩ := w
  have hm := c1.mem_iff.mp (List.mem_of_mem_take hw)
  obtain ⟨⟨p, hp, hxp⟩, h2, _⟩ := allF_mem.mp hm
  have h3 := nextB_le hl h2
  have h4 := (hfb f p hp hxp).2
  show t ≤ _
  omega
end
end Em
namespace Em
open PySem PySem.Spec PyProof.Rows L2 Qt
def beatF : Fate → Int
  | .lost t _ _ => t
  | .ended t _ => t
  | .goes _ t => t
theorem fate_bd {N : Net} {ks : Kds} (o : NetOk N) (hk : KdsOk N ks) {mx : Nat} (hmx : ∀ p ∈ ks, p.1 ≤ mx) {R : List C4} (hR : Losses N ks R) : ∀ F ∈ fatesR N ks R, 0 ≤ beatF F ∧ beatF F ≤ (mx : Int) + 2 * totN N := fun F hF => by
  obtain ⟨f, hf, rfl⟩ := List.getElem_of_mem hF
  have hfl : f < ks.length := by rw [fatesR_len] at hf; exact hf
  have hp := List.getElem?_eq_getElem hfl
  have hm := List.getElem_mem hfl
  have hx := hk _ hm
  have hb := hmx _ hm
  have h0 := tot_nonneg o
  obtain ⟨e1, e2⟩ := fatesR_get o hk hR hp
  have hg := List.getElem?_eq_getElem hf
  by_cases h : ∃ t x g, LostAt N ks t x f g
  · obtain ⟨t, x, g, h⟩ := h
    rw [e1 t x g h] at hg
    rw [← Option.some.inj hg]
    have := lost_le o hk h (M := (mx : Int)) fun p hp => by have := hmx p hp; omega
    exact ⟨Int.natCast_nonneg _, this⟩
  · rw [e2 fun t x g q => h ⟨t, x, g, q⟩] at hg
    rw [← Option.some.inj hg]
    unfold fateA
    split
    · have h1 := frst_ge o hx ((ks[f].1 : Nat) : Int) (path N ks[f].2).length
      have h2 := frst_tot o hx ((ks[f].1 : Nat) : Int) (Nat.le_refl (path N ks[f].2).length)
      show 0 ≤ frst _ _ _ _ ∧ frst _ _ _ _ ≤ _
      omega
    · rename_i hr
      have hmem : minN (wayR N ks[f].2) ∈ path N ks[f].2 := by
        rw [← way_cat]
        exact List.mem_append_right _ (minN_mem hr).1
      have h1 := frst_ge o hx ((ks[f].1 : Nat) : Int) ((path N ks[f].2).idxOf (minN (wayR N ks[f].2)))
      have h2 := frstOf_tot o hx ((ks[f].1 : Nat) : Int) hmem
      show 0 ≤ frstOf _ _ _ _ ∧ frstOf _ _ _ _ ≤ _
      unfold frstOf at h2 ⊢
      omega
theorem loss_bd {N : Net} {ks : Kds} (o : NetOk N) (hk : KdsOk N ks) {mx : Nat} (hmx : ∀ p ∈ ks, p.1 ≤ mx) {R : List C4} (hR : Losses N ks R) : ∀ c ∈ R, 0 ≤ c.1 ∧ c.1 ≤ (mx : Int) + 2 * totN N := fun c hc => by
  obtain ⟨t, e, h⟩ := (hR.iff c).mp hc
  have := lost_le o hk h (M := (mx : Int)) fun p hp => by have := hmx p hp; omega
  rw [e]
  exact ⟨Int.natCast_nonneg _, this⟩
end Em

namespace Em
open PySem PySem.Spec PyProof.Rows L2 Qt

/-! ### comprehensions that make of each part of a list one part more -/
section
variable {α β : Type} {K : PySem.W.Frag} {g : TG} {tt : TT} {te : TE} {vs : List Nat} {σ : L2.St} {H1 : Hp} {D : Addr} {Qd : Hp → Prop}
theorem take_map_succ {A : List α} {h : α → β} {i : Nat} {z : α} (hz : A[i]? = some z) : (A.map h).take (i + 1) = (A.map h).take i ++ [h z] := by
  rw [List.take_add_one, List.getElem?_map, hz]; rfl
theorem mapd_get {A : List α} {dA : α → PyData} {i : Nat} {d : PyData} (h : (A.map dA)[i]? = some d) : ∃ z, A[i]? = some z ∧ d = dA z := by
  rw [List.getElem?_map] at h
  cases e : A[i]? with
  | none => rw [e] at h; cases h
  | some z => rw [e] at h; exact ⟨z, rfl, (Option.some.inj h).symm⟩
/-- of a list of tuples (or numbers) -/
theorem lcm_list {l : Addr} {xs : List V} (A : List α) (dA : α → PyData) (dB : β → PyData) (h : α → β) (hl : H1 l = some (.lst xs)) (hxs : TuA H1 xs (A.map dA)) (nD : H1 D = none) (hA : A.length ≤ 100000)
    (hs : ∀ (i : Nat) (z : α) (x : V) (H : Hp) (Q : V → Hp → Prop) (R : Hp → Prop), A[i]? = some z → xs[i]? = some x → Tu H x (dA z) → Kp [] H1 H → (∀ y H4, Kp [] H H4 → Tu H4 y (dB (h z)) → Q y H4) →
      g x (wipe σ vs) H fun σ2 H2 => wipe σ2 vs = wipe σ vs ∧ tt σ2 H2 fun b H3 => if b = true then te σ2 H3 Q else R H3)
    (hd : ∀ ws H, H D = some (.lst ws) → TuA H ws ((A.map h).map dB) → Kp [] H1 H → Qd H) :
    ∃ W : Nat → Nat → Hp → Prop, (∃ m, W 0 m (upd H1 D (.lst []))) ∧ ∀ i m H, W i m H →
      ((Itl K l).stop i H ∧ Qd H) ∨ ((Itl K l).go i H ∧ ∃ Nx : Hp → Prop, (∀ H', Nx H' → ∃ m', m' < m ∧ W (i + 1) m' H') ∧ ∀ x H', (Itl K l).yld i H x H' → g x (wipe σ vs) H' fun σ2 H2 => wipe σ2 vs = wipe σ vs ∧ tt σ2 H2 fun b H3 =>
        if b = true then te σ2 H3 fun y H4 => ∃ acc, H4 D = some (.lst acc) ∧ acc.length < sizeLine ∧ Nx (upd H4 D (.lst (acc ++ [y]))) else Nx H3) := by
  have lx : xs.length = A.length := by rw [hxs.len, List.length_map]
  have sz : 100000 < sizeLine := by decide
  refine lc_list (xs := xs) (fun i H' => ∃ ws, H' D = some (.lst ws) ∧ TuA H' ws (((A.map h).take i).map dB) ∧ Kp [] H1 H') ⟨[], upd_same, .nil, Kp.new nD⟩ (fun i H' _ hP => ?_) (fun i x H' hx1 hP => ?_) (fun H2 hP => ?_)
  · obtain ⟨_, _, _, k⟩ := hP
    exact SqL.of (k.lst (by simp) hl)
  · obtain ⟨ws, hD, hws, k⟩ := hP
    obtain ⟨d, g1, g2⟩ := (hxs.kt k.kt0).get hx1
    obtain ⟨z, hz, rfl⟩ := mapd_get g1
    refine hs i z x H' _ _ hz hx1 g2 k fun y H4 k4 hy => ?_
    have hD4 := k4.lst (by simp) hD
    have tput : Kt H4 (upd H4 D (.lst (ws ++ [y]))) := Kt.put hD4 fun _ z => by cases z
    have hwl : ws.length ≤ 100000 := by
      rw [hws.len, List.length_map, List.length_take, List.length_map]
      omega
    refine ⟨ws, hD4, by omega, ws ++ [y], upd_same, ?_, Kp.drop nD ((k.tr k4).of0.tr (Kp.put (by simp) hD4 fun ps z => by cases z))⟩
    rw [take_map_succ hz, List.map_append]
    exact ((hws.kt k4.kt0).kt tput).app (.cons (hy.kt tput) .nil)
  · obtain ⟨ws, hD, hws, k⟩ := hP
    rw [show xs.length = (A.map h).length by rw [lx, List.length_map], List.take_length] at hws
    exact hd ws H2 hD hws k
/-- of a tuple -/
theorem lcm_tup {l : Addr} {xs : List V} (A : List α) (dA : α → PyData) (dB : β → PyData) (h : α → β) (hl : H1 l = some (.tup xs)) (hxs : TuA H1 xs (A.map dA)) (nD : H1 D = none) (hA : A.length ≤ 100000)
    (hs : ∀ (i : Nat) (z : α) (x : V) (H : Hp) (Q : V → Hp → Prop) (R : Hp → Prop), A[i]? = some z → xs[i]? = some x → Tu H x (dA z) → Kp [] H1 H → (∀ y H4, Kp [] H H4 → Tu H4 y (dB (h z)) → Q y H4) →
      g x (wipe σ vs) H fun σ2 H2 => wipe σ2 vs = wipe σ vs ∧ tt σ2 H2 fun b H3 => if b = true then te σ2 H3 Q else R H3)
    (hd : ∀ ws H, H D = some (.lst ws) → TuA H ws ((A.map h).map dB) → Kp [] H1 H → Qd H) :
    ∃ W : Nat → Nat → Hp → Prop, (∃ m, W 0 m (upd H1 D (.lst []))) ∧ ∀ i m H, W i m H →
      ((Itt K l).stop i H ∧ Qd H) ∨ ((Itt K l).go i H ∧ ∃ Nx : Hp → Prop, (∀ H', Nx H' → ∃ m', m' < m ∧ W (i + 1) m' H') ∧ ∀ x H', (Itt K l).yld i H x H' → g x (wipe σ vs) H' fun σ2 H2 => wipe σ2 vs = wipe σ vs ∧ tt σ2 H2 fun b H3 =>
        if b = true then te σ2 H3 fun y H4 => ∃ acc, H4 D = some (.lst acc) ∧ acc.length < sizeLine ∧ Nx (upd H4 D (.lst (acc ++ [y]))) else Nx H3) := by
  have lx : xs.length = A.length := by rw [hxs.len, List.length_map]
  have sz : 100000 < sizeLine := by decide
  refine lc_tup (xs := xs) (fun i H' => ∃ ws, H' D = some (.lst ws) ∧ TuA H' ws (((A.map h).take i).map dB) ∧ Kp [] H1 H') ⟨[], upd_same, .nil, Kp.new nD⟩ (fun i H' _ hP => ?_) (fun i x H' hx1 hP => ?_) (fun H2 hP => ?_)
  · obtain ⟨_, _, _, k⟩ := hP
    exact SqT.of (k.kt0 _ _ hl)
  · obtain ⟨ws, hD, hws, k⟩ := hP
    obtain ⟨d, g1, g2⟩ := (hxs.kt k.kt0).get hx1
    obtain ⟨z, hz, rfl⟩ := mapd_get g1
    refine hs i z x H' _ _ hz hx1 g2 k fun y H4 k4 hy => ?_
    have hD4 := k4.lst (by simp) hD
    have tput : Kt H4 (upd H4 D (.lst (ws ++ [y]))) := Kt.put hD4 fun _ z => by cases z
    have hwl : ws.length ≤ 100000 := by
      rw [hws.len, List.length_map, List.length_take, List.length_map]
      omega
    refine ⟨ws, hD4, by omega, ws ++ [y], upd_same, ?_, Kp.drop nD ((k.tr k4).of0.tr (Kp.put (by simp) hD4 fun ps z => by cases z))⟩
    rw [take_map_succ hz, List.map_append]
    exact ((hws.kt k4.kt0).kt tput).app (.cons (hy.kt tput) .nil)
  · obtain ⟨ws, hD, hws, k⟩ := hP
    rw [show xs.length = (A.map h).length by rw [lx, List.length_map], List.take_length] at hws
    exact hd ws H2 hD hws k
/-- of the numbers from 0 on -/
theorem lcm_range {n : Nat} (dB : β → PyData) (h : Nat → β) (nD : H1 D = none) (hA : n ≤ 100000)
    (hs : ∀ (i : Nat) (H : Hp) (Q : V → Hp → Prop) (R : Hp → Prop), i < n → Kp [] H1 H → (∀ y H4, Kp [] H H4 → Tu H4 y (dB (h i)) → Q y H4) →
      g (.int (i : Nat)) (wipe σ vs) H fun σ2 H2 => wipe σ2 vs = wipe σ vs ∧ tt σ2 H2 fun b H3 => if b = true then te σ2 H3 Q else R H3)
    (hd : ∀ ws H, H D = some (.lst ws) → TuA H ws (((List.range n).map h).map dB) → Kp [] H1 H → Qd H) :
    ∃ W : Nat → Nat → Hp → Prop, (∃ m, W 0 m (upd H1 D (.lst []))) ∧ ∀ i m H, W i m H →
      ((Itr 0 n).stop i H ∧ Qd H) ∨ ((Itr 0 n).go i H ∧ ∃ Nx : Hp → Prop, (∀ H', Nx H' → ∃ m', m' < m ∧ W (i + 1) m' H') ∧ ∀ x H', (Itr 0 n).yld i H x H' → g x (wipe σ vs) H' fun σ2 H2 => wipe σ2 vs = wipe σ vs ∧ tt σ2 H2 fun b H3 =>
        if b = true then te σ2 H3 fun y H4 => ∃ acc, H4 D = some (.lst acc) ∧ acc.length < sizeLine ∧ Nx (upd H4 D (.lst (acc ++ [y]))) else Nx H3) := by
  have sz : 100000 < sizeLine := by decide
  refine lc_range (n := n) (fun i H' => ∃ ws, H' D = some (.lst ws) ∧ TuA H' ws (((List.range i).map h).map dB) ∧ Kp [] H1 H') ⟨[], upd_same, .nil, Kp.new nD⟩ (fun i H' hi hP => ?_) (fun H2 hP => ?_)
  · obtain ⟨ws, hD, hws, k⟩ := hP
    rw [show (0 + (i : Int)) = (i : Int) by omega]
    refine hs i H' _ _ hi k fun y H4 k4 hy => ?_
    have hD4 := k4.lst (by simp) hD
    have tput : Kt H4 (upd H4 D (.lst (ws ++ [y]))) := Kt.put hD4 fun _ z => by cases z
    have hwl : ws.length ≤ 100000 := by
      rw [hws.len, List.length_map, List.length_map, List.length_range]
      omega
    refine ⟨ws, hD4, by omega, ws ++ [y], upd_same, ?_, Kp.drop nD ((k.tr k4).of0.tr (Kp.put (by simp) hD4 fun ps z => by cases z))⟩
    rw [List.range_succ, List.map_append, List.map_append]
    exact ((hws.kt k4.kt0).kt tput).app (.cons (hy.kt tput) .nil)
  · obtain ⟨ws, hD, hws, k⟩ := hP
    exact hd ws H2 hD hws k
end
/-! ### a list of data of tuples alone; what is asked of a net with kindlings -/
def LstOf (H : Hp) (l : Addr) (ds : List PyData) : Prop := ∃ ws, H l = some (.lst ws) ∧ TuA H ws ds
section
variable {S : List Addr} {H H' : Hp} {l p : Addr} {ds : List PyData} {o : HO}
theorem LstOf.kp (h : LstOf H l ds) (k : Kp S H H') (t : Kt H H') (hl : l ∉ S) : LstOf H' l ds := by
  obtain ⟨ws, a, b⟩ := h
  exact ⟨ws, k.lst hl a, b.kt t⟩
theorem LstOf.kp0 (h : LstOf H l ds) (k : Kp [] H H') : LstOf H' l ds := h.kp k k.kt0 (by simp)
theorem LstOf.ne (h : LstOf H l ds) (n : H p = none) : l ≠ p := by
  obtain ⟨ws, a, _⟩ := h
  intro e
  rw [e, n] at a
  cases a
theorem LstOf.dx (h : LstOf H l ds) : Dx [] H (.ref l) (.list ds) := by
  obtain ⟨ws, a, b⟩ := h
  exact .lst (by simp) a b.dx0
end
theorem same3 {α : Type} {f : α → PyData} (lay : ∀ z, (f z).canLay0 = true) (wd : ∀ z, wdB (f z) = true) (dep : ∀ z, (f z).depth ≤ 1) (L : List α) (h : L.length ≤ 10000) : (PyData.list (L.map f)).canLay0 = true ∧ wdB (.list (L.map f)) = true ∧ (PyData.list (L.map f)).depth ≤ 7 := by
  refine ⟨?_, wd_list (by rw [List.length_map]; omega) (wd_map wd L), ?_⟩
  · show PyData.canLayAll0 (L.map f) = true
    exact all_lay lay L
  · show PyData.depthAll (L.map f) + 1 ≤ 7
    have := all_depth (f := f) (n := 1) dep L
    omega
theorem same_c4 (L : List C4) (h : L.length ≤ 10000) : (PyData.list (L.map c4D)).canLay0 = true ∧ wdB (.list (L.map c4D)) = true ∧ (PyData.list (L.map c4D)).depth ≤ 7 := same3 (fun _ => rfl) (fun _ => rfl) (fun _ => Nat.le_refl _) L h
theorem same_kd (L : List (Nat × Nat)) (h : L.length ≤ 10000) : (PyData.list (L.map kdD)).canLay0 = true ∧ wdB (.list (L.map kdD)) = true ∧ (PyData.list (L.map kdD)).depth ≤ 7 := same3 (fun _ => rfl) (fun _ => rfl) (fun _ => Nat.le_refl _) L h
theorem same_burn (t : Int) (L : List Lt) (h : L.length ≤ 10000) : (PyData.list (L.map (burnD t))).canLay0 = true ∧ wdB (.list (L.map (burnD t))) = true ∧ (PyData.list (L.map (burnD t))).depth ≤ 7 := same3 (burn_lay t) (burn_wd t) (burn_dep t) L h
structure Say (TB TB2 TB3 : Addr) (H : Hp) (v : V) (N : Net) (kl : Addr) (ks : Kds) : Prop where
  n : Tu H v (netD N)
  ok : NetOk N
  k : LstOf H kl (ks.map kdD)
  hk : KdsOk N ks
  h40 : ks.length ≤ 40
  t1 : GxR.TabG H TB
  t2 : GxR.TabG H TB2
  t3 : GxR.TabG H TB3
theorem Say.kp {S : List Addr} {TB TB2 TB3 : Addr} {H H' : Hp} {v : V} {N : Net} {kl : Addr} {ks : Kds} (h : Say TB TB2 TB3 H v N kl ks) (k : Kp S H H') (t : Kt H H') (hl : kl ∉ S) : Say TB TB2 TB3 H' v N kl ks := ⟨h.n.kt t, h.ok, h.k.kp k t hl, h.hk, h.h40, k.tab _ h.t1, k.tab _ h.t2, k.tab _ h.t3⟩
theorem Say.kp0 {TB TB2 TB3 : Addr} {H H' : Hp} {v : V} {N : Net} {kl : Addr} {ks : Kds} (h : Say TB TB2 TB3 H v N kl ks) (k : Kp [] H H') : Say TB TB2 TB3 H' v N kl ks := h.kp k k.kt0 (by simp)
theorem Say.other {TB TB2 TB3 : Addr} {H : Hp} {v : V} {N : Net} {kl kl' : Addr} {ks ks' : Kds} (h : Say TB TB2 TB3 H v N kl ks) (k : LstOf H kl' (ks'.map kdD)) (hk : KdsOk N ks') (h40 : ks'.length ≤ 40) : Say TB TB2 TB3 H v N kl' ks' := ⟨h.n, h.ok, k, hk, h40, h.t1, h.t2, h.t3⟩
theorem range_getD {α : Type} (l : List α) (d : α) : ((List.range l.length).map fun i => l.getD i d) = l := by
  refine List.ext_getElem? fun i => ?_
  rw [List.getElem?_map]
  by_cases h : i < l.length
  · rw [List.getElem?_range h, List.getElem?_eq_getElem h]
    show some (l.getD i d) = _
    rw [List.getD_eq_getElem?_getD, List.getElem?_eq_getElem h]
    rfl
  · rw [List.getElem?_eq_none (by rw [List.length_range]; omega), List.getElem?_eq_none (by omega)]
    rfl
theorem sorted_c4 {H : Hp} {xs ys : List V} {C R : List C4} (h : TuA H xs (C.map c4D)) (hs : SrtO.Srtd (fun v u => lexL (keyH H v) (keyH H u)) ys) (p : ys.Perm xs) (hR : SrtC R) (hp : R.Perm C) : TuA H ys (R.map c4D) := by
  obtain ⟨C', c1, c2, c3⟩ := sorted_tups (f := c4L) (g := c4B) (fun c _ => c4B_L c) h hs p
  have e : C' = R := sorted_one c4L_inj c3 hR (c1.trans hp.symm)
  rw [← e]
  exact c2
theorem keys_c4 {H : Hp} {xs : List V} {C : List C4} (h : TuA H xs (C.map c4D)) : ∀ x ∈ xs, keyH H x ≠ [] ∧ ∃ t, x = .ref t ∧ H t = some (.tup ((keyH H x).map V.int)) := by
  have h' : TuA H xs ((C.map c4L).map tupI) := by rw [List.map_map]; exact h
  obtain ⟨kk1, kk2⟩ := tups_keys h'
  refine fun x hx => ⟨?_, kk2 x hx⟩
  have hm : keyH H x ∈ C.map c4L := by rw [← kk1]; exact List.mem_map.mpr ⟨x, hx, rfl⟩
  obtain ⟨cc, _, ecc⟩ := List.mem_map.mp hm
  rw [← ecc]
  exact fun z => by cases z
theorem mt_indexK {X : Cx} {K : PySem.W.Frag} (h : X.K = K) : MtR X "list.index" (rIndex K) := h ▸ mt_index
theorem net_tup {H : Hp} {v : V} {N : Net} (h : Tu H v (netD N)) : ∃ (l : Addr) (xs : List V), v = .ref l ∧ H l = some (.tup xs) ∧ TuA H xs (N.map lampD) ∧ xs.length = N.length := by
  unfold netD at h
  cases h with
  | tup hx hs => exact ⟨_, _, rfl, hx, hs, by rw [hs.len, List.length_map]⟩
theorem nx_tu {H : Hp} (o : Option Nat) : Tu H (nxV o) (nxD o) := by
  cases o with
  | none => exact .non
  | some u => exact .int _
theorem lamp_tup {H : Hp} {v : V} {z : Int × Option Nat} (h : Tu H v (lampD z)) : ∃ l : Addr, v = .ref l ∧ H l = some (.tup [.int z.1, nxV z.2]) := by
  unfold lampD at h
  cases h with
  | tup hx hs =>
    cases hs with
    | cons h1 hs =>
      cases hs with
      | cons h2 hs =>
        cases hs
        cases h1
        cases e : z.2 with
        | none => rw [e] at h2; cases h2; exact ⟨_, rfl, hx⟩
        | some u => rw [e] at h2; cases h2; exact ⟨_, rfl, hx⟩
theorem kd_tup {H : Hp} {v : V} {z : Nat × Nat} (h : Tu H v (kdD z)) : ∃ l : Addr, v = .ref l ∧ H l = some (.tup [.int (z.1 : Nat), .int (z.2 : Nat)]) := tupI_at (ns := [(z.1 : Int), (z.2 : Int)]) h
theorem kd_of {H : Hp} {l : Addr} {b x : Nat} (h : H l = some (.tup [.int (b : Nat), .int (x : Nat)])) : Tu H (.ref l) (kdD (b, x)) := tupI_of (ns := [(b : Int), (x : Int)]) h
theorem c4_tup {H : Hp} {v : V} {c : C4} (h : Tu H v (c4D c)) : ∃ l : Addr, v = .ref l ∧ H l = some (.tup [.int c.1, .int (c.2.1 : Nat), .int (c.2.2.1 : Nat), .int (c.2.2.2 : Nat)]) := by
  obtain ⟨b, x, f, g⟩ := c
  exact tupI_at (ns := [b, (x : Int), (f : Int), (g : Int)]) h
theorem c4_of {H : Hp} {l : Addr} {b : Int} {x f g : Nat} (h : H l = some (.tup [.int b, .int (x : Nat), .int (f : Nat), .int (g : Nat)])) : Tu H (.ref l) (c4D (b, x, f, g)) := tupI_of (ns := [b, (x : Int), (f : Int), (g : Int)]) h
theorem nat_before {g : List Nat} {y j : Nat} (ej : j = g.idxOf y) : ∀ i z, i < j → (natV g)[i]? = some z → eqV z (.int (y : Int)) = false := fun i z hj hz => by
  obtain ⟨u, hu, rfl⟩ : ∃ u, g[i]? = some u ∧ z = .int (u : Int) := by
    unfold natV at hz
    rw [List.getElem?_map] at hz
    cases q1 : g[i]? with
    | none => rw [q1] at hz; cases hz
    | some u => rw [q1] at hz; exact ⟨u, rfl, (Option.some.inj hz).symm⟩
  show ((u : Int) == (y : Int)) = false
  have hne : u ≠ y := idx_ne (by rw [← ej]; exact hj) hu
  simp only [beq_eq_false_iff_ne]
  omega
theorem range_map {α β : Type} {l : List α} {n : Nat} (d : α) (f : α → β) (h : n = l.length) : ((List.range n).map fun i => f (l.getD i d)) = l.map f := by
  subst h
  conv => rhs; rw [← range_getD l d]
  rw [List.map_map]
  rfl
end Em

namespace Em
open PySem PySem.Spec PyProof.Rows L2 Qt

/-! ### the same kindlings in another order, where no two come to a lamp at one beat -/
structure Turn (ks ks' : Kds) (g : Nat → Nat) : Prop where
  len : ks'.length = ks.length
  lt : ∀ f, f < ks.length → g f < ks.length
  at_ : ∀ f, f < ks.length → ks'[g f]? = ks[f]?
  inj : ∀ f h, f < ks.length → h < ks.length → g f = g h → f = h
  onto : ∀ f', f' < ks.length → ∃ f, f < ks.length ∧ f' = g f
def Unlike (N : Net) (ks : Kds) : Prop := ∀ f h (t : Int) x, On N ks f t x → On N ks h t x → f = h
section
variable {N : Net} {ks ks' : Kds} {g : Nat → Nat}
theorem On.num {f x : Nat} {t : Int} (h : On N ks f t x) : f < ks.length := by
  obtain ⟨p, hp, _⟩ := h
  exact (List.getElem?_eq_some_iff.mp hp).1
theorem lost_num (o : NetOk N) (hk : KdsOk N ks) {t x f h : Nat} (l : LostAt N ks t x f h) : f < ks.length ∧ h < ks.length := by
  obtain ⟨l1, _, l3⟩ := (lost_sem o hk (inv_all o hk t)).mp l
  refine ⟨l1.num, ?_⟩
  rcases l3 with ⟨u, s⟩ | ⟨_, b, _⟩
  · exact s.1.num
  · exact b.1.num
theorem lost_un (o : NetOk N) (hk : KdsOk N ks) (U : Unlike N ks) {t x f h : Nat} : LostAt N ks t x f h ↔ On N ks f t x ∧ Alive N ks f t ∧ ∃ u, Stay N ks t x h u := by
  rw [lost_sem o hk (inv_all o hk t)]
  constructor
  · rintro ⟨l1, l2, l3 | ⟨_, b, hne⟩⟩
    · exact ⟨l1, l2, l3⟩
    · exact absurd (U _ _ _ _ b.1 l1) hne
  · rintro ⟨l1, l2, l3⟩
    exact ⟨l1, l2, .inl l3⟩
variable (o : NetOk N) (hk : KdsOk N ks) (T : Turn ks ks' g) (U : Unlike N ks)
include o hk T U
omit U o in
theorem turn_ok : KdsOk N ks' := fun p hp => by
  obtain ⟨f', hf, rfl⟩ := List.getElem_of_mem hp
  obtain ⟨f, h1, rfl⟩ := T.onto f' (by rw [← T.len]; exact hf)
  have := T.at_ f h1
  rw [List.getElem?_eq_getElem hf] at this
  exact hk _ (List.mem_of_getElem? this.symm)
omit U o hk in
theorem turn_on {f x : Nat} {t : Int} (hf : f < ks.length) : On N ks' (g f) t x ↔ On N ks f t x := by
  unfold On
  rw [T.at_ f hf]
omit o hk U in
theorem turn_old {f' x : Nat} {t : Int} (h : On N ks' f' t x) : ∃ f, f < ks.length ∧ f' = g f ∧ On N ks f t x := by
  obtain ⟨f, h1, rfl⟩ := T.onto f' (by rw [← T.len]; exact h.num)
  exact ⟨f, h1, rfl, (turn_on T h1).mp h⟩
omit o hk in
theorem turn_un : Unlike N ks' := fun f' h' t x h1 h2 => by
  obtain ⟨f, _, rfl, q1⟩ := turn_old T h1
  obtain ⟨h, _, rfl, q2⟩ := turn_old T h2
  rw [U _ _ _ _ q1 q2]
theorem turn_lost : ∀ t x f' h', LostAt N ks' t x f' h' ↔ ∃ f h, f' = g f ∧ h' = g h ∧ LostAt N ks t x f h := by
  have hk' := turn_ok hk T
  have U' := turn_un T U
  intro t
  induction t using Nat.strongRecOn with
  | ind t ih =>
    intro x f' h'
    have alive : ∀ f, f < ks.length → (Alive N ks' (g f) t ↔ Alive N ks f t) := fun f hf => by
      constructor
      · intro h u hu y g1 hl
        exact h u hu y (g g1) ((ih u hu y _ _).mpr ⟨f, g1, rfl, rfl, hl⟩)
      · intro h u hu y g' hl
        obtain ⟨f2, g2, e1, _, h2⟩ := (ih u hu y _ _).mp hl
        rw [← T.inj _ _ hf (lost_num o hk h2).1 e1] at h2
        exact h u hu y g2 h2
    have stay : ∀ y g' u, Stay N ks' t y g' u ↔ ∃ g1, g' = g g1 ∧ Stay N ks t y g1 u := fun y g' u => by
      constructor
      · rintro ⟨s1, s2, s3, s4⟩
        obtain ⟨g1, h1, rfl, q⟩ := turn_old T s1
        exact ⟨g1, rfl, q, s2, s3, (alive g1 h1).mp s4⟩
      · rintro ⟨g1, rfl, s1, s2, s3, s4⟩
        exact ⟨(turn_on T s1.num).mpr s1, s2, s3, (alive g1 s1.num).mpr s4⟩
    rw [lost_un o hk' U']
    constructor
    · rintro ⟨l1, l2, u, l3⟩
      obtain ⟨f, hf, rfl, q⟩ := turn_old T l1
      obtain ⟨h, rfl, q2⟩ := (stay _ _ _).mp l3
      exact ⟨f, h, rfl, rfl, (lost_un o hk U).mpr ⟨q, (alive f hf).mp l2, u, q2⟩⟩
    · rintro ⟨f, h, rfl, rfl, l⟩
      obtain ⟨l1, l2, u, l3⟩ := (lost_un o hk U).mp l
      exact ⟨(turn_on T l1.num).mpr l1, (alive f l1.num).mpr l2, u, (stay _ _ _).mpr ⟨h, rfl, l3⟩⟩
theorem turn_alive {f t : Nat} (hf : f < ks.length) : Alive N ks' (g f) t ↔ Alive N ks f t := by
  have hl := turn_lost o hk T U
  constructor
  · intro h u hu y g1 q
    exact h u hu y (g g1) ((hl u y _ _).mpr ⟨f, g1, rfl, rfl, q⟩)
  · intro h u hu y g' q
    obtain ⟨f2, g2, e1, _, h2⟩ := (hl u y _ _).mp q
    rw [← T.inj _ _ hf (lost_num o hk h2).1 e1] at h2
    exact h u hu y g2 h2
omit o hk T U in
def gLt (g : Nat → Nat) : Lt → Lt
  | none => none
  | some (f, t) => some (g f, t)
theorem turn_st (t : Nat) : stW N ks' (t + 1) = (stW N ks (t + 1)).map (gLt g) := by
  have hk' := turn_ok hk T
  refine List.ext_getElem? fun z => ?_
  rw [List.getElem?_map]
  by_cases hz : z < N.length
  · rw [stW_at o hk' _ hz, stW_at o hk _ hz]
    show some _ = some _
    have fwd : ∀ f u, (stW N ks (t + 1)).getD z none = some (f, u) → (stW N ks' (t + 1)).getD z none = some (g f, u) := fun f u h => by
      obtain ⟨r1, r2, r3, r4⟩ := (brn_iff o hk).mp h
      exact (brn_iff o hk').mpr ⟨r1, r2, (turn_on T r3.num).mpr r3, (turn_alive o hk T U r3.num).mpr r4⟩
    cases e : (stW N ks (t + 1)).getD z none with
    | some q =>
      obtain ⟨f, u⟩ := q
      rw [fwd f u e]
      rfl
    | none =>
      cases e2 : (stW N ks' (t + 1)).getD z none with
      | none => rfl
      | some q =>
        obtain ⟨f', u⟩ := q
        obtain ⟨r1, r2, r3, r4⟩ := (brn_iff o hk').mp e2
        obtain ⟨f, hf, rfl, q⟩ := turn_old T r3
        rw [(brn_iff o hk).mpr ⟨r1, r2, q, (turn_alive o hk T U hf).mp r4⟩] at e
        cases e
  · rw [List.getElem?_eq_none (by rw [stW_len o hk']; omega), List.getElem?_eq_none (by rw [stW_len o hk]; omega)]
    rfl
omit o hk T U in
def g4 (g : Nat → Nat) (c : C4) : C4 := (c.1, c.2.1, g c.2.2.1, g c.2.2.2)
theorem turn_losses {R R' : List C4} (hR : Losses N ks R) (hR' : Losses N ks' R') : R'.Perm (R.map (g4 g)) := by
  have hl := turn_lost o hk T U
  refine (List.perm_ext_iff_of_nodup hR'.nd ?_).mpr fun c => ?_
  · rw [List.Nodup, List.pairwise_map]
    refine (List.Pairwise.and_mem.mp hR.nd).imp fun {c d} h e => ?_
    obtain ⟨hc, hd, hne⟩ := h
    obtain ⟨t, e1, l1⟩ := (hR.iff c).mp hc
    obtain ⟨t', e1', l1'⟩ := (hR.iff d).mp hd
    obtain ⟨c1, c2, c3, c4⟩ := c
    obtain ⟨d1, d2, d3, d4⟩ := d
    have h1 := congrArg (·.1) e
    have h2 := congrArg (·.2.1) e
    have h3 := congrArg (·.2.2.1) e
    have h4 := congrArg (·.2.2.2) e
    simp only [g4] at h1 h2 h3 h4
    have h3 := T.inj _ _ (lost_num o hk l1).1 (lost_num o hk l1').1 h3
    have h4 := T.inj _ _ (lost_num o hk l1).2 (lost_num o hk l1').2 h4
    simp only at h3 h4
    exact hne (by rw [h1, h2, h3, h4])
  · rw [hR'.iff, List.mem_map]
    constructor
    · rintro ⟨t, e, h⟩
      obtain ⟨f, r, e1, e2, h2⟩ := (hl t _ _ _).mp h
      obtain ⟨c1, c2, c3, c4⟩ := c
      simp only at e e1 e2 h2
      refine ⟨((t : Int), c2, f, r), (hR.iff _).mpr ⟨t, rfl, h2⟩, ?_⟩
      show ((t : Int), c2, g f, g r) = _
      rw [e, e1, e2]
    · rintro ⟨d, hd, rfl⟩
      obtain ⟨t, e1, h⟩ := (hR.iff d).mp hd
      exact ⟨t, e1, (hl _ _ _ _).mpr ⟨_, _, rfl, rfl, h⟩⟩
omit o hk T U in
def gF (g : Nat → Nat) : Fate → Fate
  | .lost t x r => .lost t x (g r)
  | .ended t x => .ended t x
  | .goes x t => .goes x t
theorem turn_fates {R R' : List C4} (hR : Losses N ks R) (hR' : Losses N ks' R') {f : Nat} (hf : f < ks.length) : (fatesR N ks' R')[g f]? = ((fatesR N ks R)[f]?).map (gF g) := by
  have hl := turn_lost o hk T U
  have hk' := turn_ok hk T
  have hp := List.getElem?_eq_getElem hf
  have hp' : ks'[g f]? = some ks[f] := by rw [T.at_ f hf]; exact hp
  obtain ⟨e1, e2⟩ := fatesR_get o hk hR hp
  obtain ⟨e3, e4⟩ := fatesR_get o hk' hR' hp'
  by_cases h : ∃ t x r, LostAt N ks t x f r
  · obtain ⟨t, x, r, h⟩ := h
    rw [e1 t x r h, e3 t x (g r) ((hl _ _ _ _).mpr ⟨f, r, rfl, rfl, h⟩)]
    rfl
  · rw [e2 fun t x r q => h ⟨t, x, r, q⟩, e4 fun t x r q => ?_]
    · show some _ = some (gF g (fateA N _))
      unfold fateA
      split <;> rfl
    · obtain ⟨f2, r2, e, _, q2⟩ := (hl t _ _ _).mp q
      rw [← T.inj _ _ hf (lost_num o hk q2).1 e] at q2
      exact h ⟨t, x, r2, q2⟩
theorem turn_lits {x first count : Nat} {W : List (Nat × Nat)} (h : Lits N ks x first count W) : Lits N ks' x first count (W.map fun w => (w.1, g w.2)) := by
  have lex : ∀ {p q : Nat × Nat}, LitAt N ks x p.1 p.2 → LitAt N ks x q.1 q.2 → lexP p q → lexP (p.1, g p.2) (q.1, g q.2) := fun {p q} hp hq z => by
    rcases z with z | ⟨z1, z2⟩
    · exact .inl z
    · have h2 := hq.1
      rw [← z1] at h2
      have := U _ _ _ _ hp.1 h2
      omega
  refine ⟨?_, by rw [List.length_map]; exact h.len, fun w hw => ?_, fun t f' h1 h2 => ?_⟩
  · rw [List.pairwise_map]
    exact (List.Pairwise.and_mem.mp h.srt).imp fun {p q} z => lex (h.is_ p z.1).2 (h.is_ q z.2.1).2 z.2.2
  · obtain ⟨v, hv, rfl⟩ := List.mem_map.mp hw
    obtain ⟨q1, q2, q3⟩ := h.is_ v hv
    exact ⟨q1, (turn_on T q2.num).mpr q2, (turn_alive o hk T U q2.num).mpr q3⟩
  · obtain ⟨h2, h3⟩ := h2
    obtain ⟨f, hf, rfl, q⟩ := turn_old T h2
    have la : LitAt N ks x t f := ⟨q, (turn_alive o hk T U hf).mp h3⟩
    rcases h.all t f h1 la with z | ⟨z1, z2⟩
    · exact .inl (List.mem_map.mpr ⟨(t, f), z, rfl⟩)
    · refine .inr ⟨by rw [List.length_map]; exact z1, fun w hw => ?_⟩
      obtain ⟨v, hv, rfl⟩ := List.mem_map.mp hw
      exact lex (h.is_ v hv).2 la (z2 v hv)
end
/-- lengths of which a number goes into each, kindlings of unlike rests by it -/
theorem onWay_rest {N : Net} (o : NetOk N) {M b t : Int} {x z : Nat} (hM : ∀ y, y < N.length → M ∣ burnOf N y) (hx : x < N.length) (h : OnWay N b x t z) : M ∣ t - b := by
  have hs : ∀ g : List Nat, (∀ y ∈ g, y < N.length) → M ∣ sumB N g := fun g => by
    induction g with
    | nil => exact fun _ => ⟨0, by show (0 : Int) = _; rw [Int.mul_zero]⟩
    | cons y g ih =>
      intro hg
      rw [sumB_cons]
      exact Int.dvd_add (hM y (hg y List.mem_cons_self)) (ih fun z hz => hg z (List.mem_cons_of_mem _ hz))
  obtain ⟨j, laps, hj, e, _, _⟩ := h
  have h1 : M ∣ frst N b x j - b := by
    unfold frst
    rw [show b + sumB N ((path N x).take j) - b = sumB N ((path N x).take j) by omega]
    exact hs _ fun y hy => (path_been o hx).lt y (List.mem_of_mem_take hy)
  have h2 : M ∣ laps * lapOf N x := Int.dvd_trans (hs _ (way_sub o hx)) (Int.dvd_mul_left _ _)
  rw [e, show frst N b x j + laps * lapOf N x - b = (frst N b x j - b) + laps * lapOf N x by omega]
  exact Int.dvd_add h1 h2
theorem unlike_of {N : Net} {ks : Kds} (o : NetOk N) (hk : KdsOk N ks) {M : Int} (hM : ∀ y, y < N.length → M ∣ burnOf N y) (hu : ∀ (f h : Nat) p q, ks[f]? = some p → ks[h]? = some q → M ∣ (p.1 : Int) - q.1 → f = h) : Unlike N ks := fun f h t x h1 h2 => by
  obtain ⟨p, hp, h1⟩ := h1
  obtain ⟨q, hq, h2⟩ := h2
  have d1 := onWay_rest o hM (hk p (List.mem_of_getElem? hp)) h1
  have d2 := onWay_rest o hM (hk q (List.mem_of_getElem? hq)) h2
  refine hu f h p q hp hq ?_
  have := Int.dvd_sub d2 d1
  rwa [show t - (q.1 : Int) - (t - (p.1 : Int)) = (p.1 : Int) - q.1 by omega] at this
/-- the numbers told by a list -/
def gN (o : List Nat) (f : Nat) : Nat := o.getD f 0
def turnK (ks : Kds) (o : List Nat) : Kds := (List.range ks.length).map fun k => ks.getD (o.idxOf k) (0, 0)
theorem gN_get {o : List Nat} {f : Nat} (h : f < o.length) : o[f]? = some (gN o f) := by
  unfold gN
  rw [List.getD_eq_getElem?_getD, List.getElem?_eq_getElem h]
  rfl
theorem turnK_len {ks : Kds} {o : List Nat} : (turnK ks o).length = ks.length := by unfold turnK; rw [List.length_map, List.length_range]
theorem turn_of {ks : Kds} {o : List Nat} (p : o.Perm (List.range ks.length)) : Turn ks (turnK ks o) (gN o) := by
  have lo : o.length = ks.length := by rw [p.length_eq, List.length_range]
  have nd : o.Nodup := p.nodup_iff.mpr List.nodup_range
  have lt : ∀ f, f < ks.length → gN o f < ks.length := fun f hf => List.mem_range.mp (p.mem_iff.mp (List.mem_of_getElem? (gN_get (by omega))))
  refine ⟨turnK_len, lt, fun f hf => ?_, fun f h hf hh e => ?_, fun f' hf' => ?_⟩
  · unfold turnK
    rw [List.getElem?_map, List.getElem?_range (lt f hf)]
    show some (ks.getD (o.idxOf (gN o f)) (0, 0)) = _
    rw [idx_of nd (gN_get (o := o) (f := f) (by omega)), List.getD_eq_getElem?_getD, List.getElem?_eq_getElem hf]
    rfl
  · have h1 := gN_get (o := o) (f := f) (by omega)
    have h2 := gN_get (o := o) (f := h) (by omega)
    rw [e] at h1
    exact (List.getElem?_inj (by omega) nd).mp (h1.trans h2.symm)
  · have hm := p.mem_iff.mpr (List.mem_range.mpr hf')
    have hi := idx_get hm
    have hl := (List.getElem?_eq_some_iff.mp hi).1
    refine ⟨o.idxOf f', by omega, ?_⟩
    have := gN_get (o := o) (f := o.idxOf f') hl
    rw [hi] at this
    exact Option.some.inj this
theorem fates_num {N : Net} {ks : Kds} (o : NetOk N) (hk : KdsOk N ks) {R : List C4} (hR : Losses N ks R) {t : Int} {x g : Nat} (h : Fate.lost t x g ∈ fatesR N ks R) : g < ks.length := by
  obtain ⟨f, hf, e⟩ := List.getElem_of_mem h
  have hfl : f < ks.length := by rw [fatesR_len] at hf; exact hf
  obtain ⟨e1, e2⟩ := fatesR_get o hk hR (List.getElem?_eq_getElem hfl)
  have hg := List.getElem?_eq_getElem hf
  rw [e] at hg
  by_cases q : ∃ t x g, LostAt N ks t x f g
  · obtain ⟨t', x', g', q⟩ := q
    rw [e1 t' x' g' q] at hg
    cases Option.some.inj hg
    exact (lost_num o hk q).2
  · rw [e2 fun t x g z => q ⟨t, x, g, z⟩] at hg
    have := Option.some.inj hg
    unfold fateA at this
    split at this <;> cases this
end Em

namespace Em
open PySem PySem.Spec PyProof.Rows L2 Qt

/-! ### some kindlings so much later, behind the rest of the others -/
def shK (c : Nat) (L : Kds) : Kds := L.map fun p => (p.1 + c, p.2)
structure Late (N : Net) (E L : Kds) (s c mx : Nat) : Prop where
  late : ∀ p ∈ L, s ≤ p.1
  early : ∀ p ∈ E, p.1 ≤ mx
  rest : E ≠ [] → (mx : Int) + 2 * totN N < s
  laps : E ≠ [] → ∀ x, x < N.length → wayR N x ≠ [] → lapOf N x ∣ (c : Int)
theorem onWay_sh {N : Net} {b t d : Int} {x z : Nat} : OnWay N (b + d) x (t + d) z ↔ OnWay N b x t z := by
  unfold OnWay frst
  constructor
  · rintro ⟨j, laps, h1, h2, h3⟩
    exact ⟨j, laps, h1, by omega, h3⟩
  · rintro ⟨j, laps, h1, h2, h3⟩
    exact ⟨j, laps, h1, by omega, h3⟩
theorem onWay_far {N : Net} (o : NetOk N) {x z : Nat} (hx : x < N.length) {b u : Int} {c : Nat} (hu : b + totN N < u) (hl : wayR N x ≠ [] → lapOf N x ∣ (c : Int)) : OnWay N b x (u + c) z ↔ OnWay N b x u z := by
  have far : ∀ v, u ≤ v → ∀ j laps, (path N x)[j]? = some z → v = frst N b x j + laps * lapOf N x → (laps = 0 ∨ cutN N x ≤ j) → cutN N x ≤ j ∧ 0 < lapOf N x ∧ lapOf N x ∣ (c : Int) ∧ frst N b x j < u := fun v hv j laps hj e hc => by
    have hjl := (List.getElem?_eq_some_iff.mp hj).1
    have h1 := frst_tot o hx b (Nat.le_of_lt hjl)
    have hcj : cutN N x ≤ j := by
      rcases hc with q | q
      · rw [q, Int.zero_mul] at e
        omega
      · exact q
    have hr : z ∈ wayR N x := wayR_get.mpr ⟨j, hcj, hj⟩
    have hne : wayR N x ≠ [] := fun e => by rw [e] at hr; cases hr
    have h0 := lap_nonneg o hx
    refine ⟨hcj, ?_, hl hne, by omega⟩
    rcases Int.lt_or_le 0 (lapOf N x) with q | q
    · exact q
    · have : lapOf N x = 0 := by omega
      rw [this, Int.mul_zero] at e
      omega
  constructor
  · rintro ⟨j, laps, hj, e, h0, hc⟩
    obtain ⟨q1, q2, ⟨k, q3⟩, q4⟩ := far (u + c) (by omega) j laps hj e hc
    refine ⟨j, laps - k, hj, ?_, ?_, .inr q1⟩
    · rw [Int.sub_mul, Int.mul_comm k]
      omega
    · have h1 : 0 < (laps - k) * lapOf N x := by
        rw [Int.sub_mul, Int.mul_comm k]
        omega
      have := Int.pos_of_mul_pos_left h1 q2
      omega
  · rintro ⟨j, laps, hj, e, h0, hc⟩
    obtain ⟨q1, q2, ⟨k, q3⟩, q4⟩ := far u (Int.le_refl _) j laps hj e hc
    refine ⟨j, laps + k, hj, ?_, ?_, .inr q1⟩
    · rw [Int.add_mul, Int.mul_comm k]
      omega
    · have : 0 ≤ k := by
        rcases Int.lt_or_le k 0 with q | q
        · have := Int.mul_neg_of_pos_of_neg q2 q
          omega
        · exact q
      omega
section
variable {N : Net} {E L : Kds} {s c mx : Nat}
/-- till the late ones come all is as it is without them -/
theorem pre_on {L : Kds} {f x : Nat} {t : Int} (hf : f < E.length) : On N (E ++ L) f t x ↔ On N E f t x := by
  unfold On
  rw [List.getElem?_append_left hf]
theorem pre_old (o : NetOk N) {L : Kds} {s : Nat} (hk : KdsOk N (E ++ L)) (hL : ∀ p ∈ L, s ≤ p.1) {f x : Nat} {t : Int} (h : On N (E ++ L) f t x) (ht : t < s) : f < E.length := by
  rcases Nat.lt_or_ge f E.length with q | q
  · exact q
  · exfalso
    obtain ⟨p, hp, hw⟩ := h
    rw [List.getElem?_append_right q] at hp
    have hm := List.mem_of_getElem? hp
    have h1 := hL p hm
    have h2 := onWay_ge o (hk p (List.mem_append_right _ hm)) hw
    omega
theorem pre_lost (o : NetOk N) {L : Kds} {s : Nat} (hk : KdsOk N (E ++ L)) (hL : ∀ p ∈ L, s ≤ p.1) : ∀ t x f g, t < s → (LostAt N (E ++ L) t x f g ↔ LostAt N E t x f g) := by
  have hkE : KdsOk N E := fun p hp => hk p (List.mem_append_left _ hp)
  intro t
  induction t using Nat.strongRecOn with
  | ind t ih =>
    intro x f g hts
    have alive : ∀ f, Alive N (E ++ L) f t ↔ Alive N E f t := fun f => by
      constructor
      · intro h u hu y g1 hl
        exact h u hu y g1 ((ih u hu y _ _ (by omega)).mpr hl)
      · intro h u hu y g1 hl
        exact h u hu y g1 ((ih u hu y _ _ (by omega)).mp hl)
    have on : ∀ {f x : Nat} {u : Int}, u < s → (On N (E ++ L) f u x ↔ On N E f u x) := fun {f x u} hu => by
      constructor
      · intro h
        exact (pre_on (pre_old o hk hL h hu)).mp h
      · intro h
        exact (pre_on h.num).mpr h
    have stay : ∀ g u, Stay N (E ++ L) t x g u ↔ Stay N E t x g u := fun g u => by
      unfold Stay
      rw [alive]
      constructor
      · rintro ⟨s1, s2, s3⟩
        exact ⟨(on (by omega)).mp s1, s2, s3⟩
      · rintro ⟨s1, s2, s3⟩
        exact ⟨(on (by omega)).mpr s1, s2, s3⟩
    have held : Held N (E ++ L) t x ↔ Held N E t x := by
      unfold Held
      simp only [stay]
    have best : ∀ m, Best N (E ++ L) t x m ↔ Best N E t x m := fun m => by
      unfold Best
      rw [on (by omega), alive]
      constructor
      · rintro ⟨b1, b2, b3⟩
        exact ⟨b1, b2, fun f hf ha => b3 f ((on (by omega)).mpr hf) ((alive f).mpr ha)⟩
      · rintro ⟨b1, b2, b3⟩
        exact ⟨b1, b2, fun f hf ha => b3 f ((on (by omega)).mp hf) ((alive f).mp ha)⟩
    rw [lost_sem o hk (inv_all o hk t), lost_sem o hkE (inv_all o hkE t), on (by omega), alive, held, best]
    simp only [stay]
variable (o : NetOk N) (hk : KdsOk N (E ++ L)) (A : Late N E L s c mx)
include o hk A
omit o A in
theorem la_kok : KdsOk N (E ++ shK c L) := fun p hp => by
  rcases List.mem_append.mp hp with h | h
  · exact hk p (List.mem_append_left _ h)
  · obtain ⟨q, hq, rfl⟩ := List.mem_map.mp h
    exact hk q (List.mem_append_right _ hq)
omit hk o in
theorem la_late' : ∀ p ∈ shK c L, s + c ≤ p.1 := fun p hp => by
  obtain ⟨q, hq, rfl⟩ := List.mem_map.mp hp
  have := A.late q hq
  show s + c ≤ q.1 + c
  omega
theorem la_mid {t x f g : Nat} (ht : t < s + c) : LostAt N (E ++ shK c L) t x f g ↔ LostAt N E t x f g := pre_lost o (la_kok (c := c) hk) (la_late' A) t x f g ht
theorem la_lostE {t x f g : Nat} (h : LostAt N E t x f g) : t < s := by
  have hkE : KdsOk N E := fun p hp => hk p (List.mem_append_left _ hp)
  have hne : E ≠ [] := fun e => by
    have := (lost_num o hkE h).1
    rw [e] at this
    exact absurd this (Nat.not_lt_zero _)
  have h1 := A.rest hne
  have h2 := lost_le o hkE h (M := (mx : Int)) fun p hp => by have := A.early p hp; omega
  omega
theorem la_on {f x : Nat} {u : Int} (hu : E ≠ [] → (mx : Int) + totN N < u) : On N (E ++ shK c L) f (u + c) x ↔ On N (E ++ L) f u x := by
  by_cases q : f < E.length
  · rw [pre_on q, pre_on q]
    have hne : E ≠ [] := fun e => by rw [e] at q; exact absurd q (Nat.not_lt_zero _)
    have hu := hu hne
    unfold On
    constructor
    · rintro ⟨p, hp, h⟩
      have hm := List.mem_of_getElem? hp
      have hx := hk p (List.mem_append_left _ hm)
      have h1 := A.early p hm
      exact ⟨p, hp, (onWay_far o hx (by omega) (A.laps hne _ hx)).mp h⟩
    · rintro ⟨p, hp, h⟩
      have hm := List.mem_of_getElem? hp
      have hx := hk p (List.mem_append_left _ hm)
      have h1 := A.early p hm
      exact ⟨p, hp, (onWay_far o hx (by omega) (A.laps hne _ hx)).mpr h⟩
  · unfold On shK
    rw [List.getElem?_append_right (by omega), List.getElem?_append_right (by omega), List.getElem?_map]
    constructor
    · rintro ⟨p', hp', h⟩
      cases e : L[f - E.length]? with
      | none => rw [e] at hp'; cases hp'
      | some p =>
        rw [e] at hp'
        cases hp'
        rw [show ((p.1 + c : Nat) : Int) = (p.1 : Int) + (c : Int) from Int.natCast_add _ _] at h
        exact ⟨p, rfl, onWay_sh.mp h⟩
    · rintro ⟨p, hp, h⟩
      refine ⟨(p.1 + c, p.2), by rw [hp]; rfl, ?_⟩
      rw [show ((p.1 + c : Nat) : Int) = (p.1 : Int) + (c : Int) from Int.natCast_add _ _]
      exact onWay_sh.mpr h
/-- what burns on behind the rest was lit late -/
theorem la_back {f x : Nat} {u t : Int} (h : On N (E ++ L) f u x) (ht : s ≤ t) (h2 : t < u + burnOf N x) : E ≠ [] → (mx : Int) + totN N < u := fun hne => by
  have h1 := A.rest hne
  have hx := h.lt o hk
  have h3 : burnOf N x ≤ totN N := by
    have := sumB_le o N.length [x] (Nat.le_refl _) (by simp) fun y hy => by rw [List.mem_singleton.mp hy]; exact hx
    rwa [sumB_one] at this
  omega
theorem la_back' {f x : Nat} {u t : Int} (h : On N (E ++ shK c L) f u x) (ht : s ≤ t) (h2 : t + c < u + burnOf N x) : ∃ n : Nat, u = n + c ∧ (E ≠ [] → (mx : Int) + totN N < n) := by
  have h0 := h
  have hx := h.lt o (la_kok (c := c) hk)
  have h3 : burnOf N x ≤ totN N := by
    have := sumB_le o N.length [x] (Nat.le_refl _) (by simp) fun y hy => by rw [List.mem_singleton.mp hy]; exact hx
    rwa [sumB_one] at this
  have hn := tot_nonneg o
  by_cases q : f < E.length
  · have hne : E ≠ [] := fun e => by rw [e] at q; exact absurd q (Nat.not_lt_zero _)
    have h1 := A.rest hne
    obtain ⟨n, hn'⟩ := Int.eq_ofNat_of_zero_le (show 0 ≤ u - c by omega)
    exact ⟨n, by omega, fun _ => by omega⟩
  · obtain ⟨p, hp, hw⟩ := h
    have hm := List.mem_of_getElem? hp
    have hge := onWay_ge o (la_kok (c := c) hk p hm) hw
    rw [List.getElem?_append_right (by omega)] at hp
    have h4 := la_late' A p (List.mem_of_getElem? hp)
    obtain ⟨n, hn'⟩ := Int.eq_ofNat_of_zero_le (show 0 ≤ u - c by omega)
    refine ⟨n, by omega, fun hne => ?_⟩
    have h1 := A.rest hne
    omega
theorem la_lost : ∀ t x f g, s ≤ t → (LostAt N (E ++ shK c L) (t + c) x f g ↔ LostAt N (E ++ L) t x f g) := by
  have hk' := la_kok (c := c) hk
  intro t
  induction t using Nat.strongRecOn with
  | ind t ih =>
    intro x f g hts
    have alive : ∀ f, Alive N (E ++ shK c L) f (t + c) ↔ Alive N (E ++ L) f t := fun f => by
      constructor
      · intro h u hu y g1 hl
        rcases Nat.lt_or_ge u s with q | q
        · exact h u (by omega) y g1 ((la_mid o hk A (by omega)).mpr ((pre_lost o hk A.late u y f g1 q).mp hl))
        · exact h (u + c) (by omega) y g1 ((ih u hu y f g1 q).mpr hl)
      · intro h u hu y g1 hl
        rcases Nat.lt_or_ge u (s + c) with q | q
        · have hE := (la_mid o hk A q).mp hl
          have hs := la_lostE o hk A hE
          exact h u (by omega) y g1 ((pre_lost o hk A.late u y f g1 hs).mpr hE)
        · have e : u = (u - c) + c := by omega
          rw [e] at hl
          exact h (u - c) (by omega) y g1 ((ih (u - c) (by omega) y f g1 (by omega)).mp hl)
    have on : ∀ {f : Nat}, On N (E ++ shK c L) f ((t + c : Nat) : Int) x ↔ On N (E ++ L) f (t : Int) x := fun {f} => by
      rw [Int.natCast_add]
      exact la_on o hk A fun hne => by
        have := A.rest hne
        have := tot_nonneg o
        omega
    have stay : ∀ g, (∃ u, Stay N (E ++ shK c L) (t + c) x g u) ↔ ∃ u, Stay N (E ++ L) t x g u := fun g => by
      constructor
      · rintro ⟨u', s1, s2, s3, s4⟩
        obtain ⟨n, e, hn⟩ := la_back' o hk A (t := (t : Int)) s1 (by omega) (by omega)
        rw [e] at s1
        exact ⟨n, (la_on o hk A hn).mp s1, by omega, by omega, (alive g).mp s4⟩
      · rintro ⟨u, s1, s2, s3, s4⟩
        have hb := la_back o hk A s1 (t := (t : Int)) (by omega) s3
        refine ⟨u + c, ?_, by omega, by omega, (alive g).mpr s4⟩
        rw [Int.natCast_add]
        exact (la_on o hk A hb).mpr s1
    have held : Held N (E ++ shK c L) (t + c) x ↔ Held N (E ++ L) t x := by
      constructor
      · rintro ⟨g1, h⟩
        exact ⟨g1, (stay g1).mp h⟩
      · rintro ⟨g1, h⟩
        exact ⟨g1, (stay g1).mpr h⟩
    have best : ∀ m, Best N (E ++ shK c L) (t + c) x m ↔ Best N (E ++ L) t x m := fun m => by
      unfold Best
      rw [on, alive]
      constructor
      · rintro ⟨b1, b2, b3⟩
        exact ⟨b1, b2, fun f hf ha => b3 f (on.mpr hf) ((alive f).mpr ha)⟩
      · rintro ⟨b1, b2, b3⟩
        exact ⟨b1, b2, fun f hf ha => b3 f (on.mp hf) ((alive f).mp ha)⟩
    rw [lost_sem o hk' (inv_all o hk' _), lost_sem o hk (inv_all o hk t), on, alive, stay, held, best]
omit o hk A in
def putN (s c t : Nat) : Nat := if s ≤ t then t + c else t
/-- all losses -/
theorem la_all (t' x f g : Nat) : LostAt N (E ++ shK c L) t' x f g ↔ ∃ t, t' = putN s c t ∧ LostAt N (E ++ L) t x f g := by
  constructor
  · intro h
    rcases Nat.lt_or_ge t' (s + c) with q | q
    · have hE := (la_mid o hk A q).mp h
      have hs := la_lostE o hk A hE
      refine ⟨t', ?_, (pre_lost o hk A.late t' x f g hs).mpr hE⟩
      unfold putN
      rw [if_neg (by omega)]
    · have e : t' = (t' - c) + c := by omega
      rw [e] at h
      refine ⟨t' - c, ?_, (la_lost o hk A _ x f g (by omega)).mp h⟩
      unfold putN
      rw [if_pos (by omega)]
      exact e
  · rintro ⟨t, rfl, h⟩
    unfold putN
    by_cases q : s ≤ t
    · rw [if_pos q]
      exact (la_lost o hk A t x f g q).mpr h
    · rw [if_neg q]
      exact (la_mid o hk A (by omega)).mpr ((pre_lost o hk A.late t x f g (by omega)).mp h)
theorem la_alive {f t : Nat} (ht : s ≤ t) : Alive N (E ++ shK c L) f (t + c) ↔ Alive N (E ++ L) f t := by
  constructor
  · intro h u hu y g1 hl
    refine h (putN s c u) ?_ y g1 ((la_all o hk A _ _ _ _).mpr ⟨u, rfl, hl⟩)
    unfold putN
    split <;> omega
  · intro h u hu y g1 hl
    obtain ⟨v, e, h2⟩ := (la_all o hk A _ _ _ _).mp hl
    refine h v ?_ y g1 h2
    unfold putN at e
    split at e <;> omega
omit o hk A in
def sh4 (s c : Nat) (d : C4) : C4 := (if (s : Int) ≤ d.1 then d.1 + c else d.1, d.2.1, d.2.2.1, d.2.2.2)
omit o hk A in
theorem sh4_inj {d e : C4} (h : sh4 s c d = sh4 s c e) : d = e := by
  obtain ⟨d1, d2, d3, d4⟩ := d
  obtain ⟨e1, e2, e3, e4⟩ := e
  have h1 := congrArg (·.1) h
  have h2 := congrArg (·.2) h
  simp only [sh4] at h1 h2
  have : d1 = e1 := by split at h1 <;> split at h1 <;> omega
  rw [this]
  cases h2
  rfl
theorem la_losses {R R' : List C4} (hR : Losses N (E ++ L) R) (hR' : Losses N (E ++ shK c L) R') : R' = R.map (sh4 s c) := by
  have hl := la_all o hk A
  have ep : ∀ t : Nat, ((putN s c t : Nat) : Int) = if (s : Int) ≤ (t : Int) then (t : Int) + c else (t : Int) := fun t => by
    unfold putN
    by_cases q : s ≤ t
    · rw [if_pos q, if_pos (by omega), Int.natCast_add]
    · rw [if_neg q, if_neg (by omega)]
  refine sorted_one c4L_inj hR'.srt ?_ ?_
  · rw [List.pairwise_map]
    refine hR.srt.imp fun {d e} h => ?_
    obtain ⟨d1, d2, d3, d4⟩ := d
    obtain ⟨e1, e2, e3, e4⟩ := e
    have h : lexL (c4L (e1, e2, e3, e4)) (c4L (d1, d2, d3, d4)) = false := h
    show lexL (c4L (if (s : Int) ≤ e1 then e1 + c else e1, e2, e3, e4)) (c4L (if (s : Int) ≤ d1 then d1 + c else d1, d2, d3, d4)) = false
    unfold c4L at h ⊢
    simp only at h ⊢
    rw [lexL_cons] at h ⊢
    by_cases q : e1 = d1
    · rw [if_pos q] at h
      rw [if_pos (by rw [q])]
      exact h
    · rw [if_neg q] at h
      have q2 : ¬ (if (s : Int) ≤ e1 then e1 + (c : Int) else e1) = (if (s : Int) ≤ d1 then d1 + (c : Int) else d1) := fun z => by split at z <;> split at z <;> omega
      rw [if_neg q2]
      have := of_decide_eq_false h
      refine decide_eq_false fun z => this ?_
      split at z <;> split at z <;> omega
  · refine (List.perm_ext_iff_of_nodup hR'.nd ?_).mpr fun d => ?_
    · rw [List.Nodup, List.pairwise_map]
      exact hR.nd.imp fun h e => h (sh4_inj e)
    · rw [hR'.iff, List.mem_map]
      constructor
      · rintro ⟨t', e, h⟩
        obtain ⟨t, rfl, h2⟩ := (hl t' _ _ _).mp h
        obtain ⟨d1, d2, d3, d4⟩ := d
        simp only at e h2
        refine ⟨((t : Int), d2, d3, d4), (hR.iff _).mpr ⟨t, rfl, h2⟩, ?_⟩
        show ((if (s : Int) ≤ (t : Int) then (t : Int) + c else (t : Int)), d2, d3, d4) = _
        rw [e, ep]
      · rintro ⟨e, he, rfl⟩
        obtain ⟨t, e1, h⟩ := (hR.iff e).mp he
        refine ⟨putN s c t, ?_, (hl _ _ _ _).mpr ⟨t, rfl, h⟩⟩
        show (if (s : Int) ≤ e.1 then e.1 + (c : Int) else e.1) = _
        rw [e1, ep]
omit o hk A in
def putI (s c : Nat) (t : Int) : Int := if (s : Int) ≤ t then t + c else t
omit o hk A in
def shF (s c : Nat) : Fate → Fate
  | .lost t x r => .lost (putI s c t) x r
  | .ended t x => .ended (putI s c t) x
  | .goes x t => .goes x (putI s c t)
omit hk A in
theorem frst_sh {x : Nat} (b d : Int) (j : Nat) : frst N (b + d) x j = frst N b x j + d := by
  unfold frst
  omega
theorem la_fates {R R' : List C4} (hR : Losses N (E ++ L) R) (hR' : Losses N (E ++ shK c L) R') : fatesR N (E ++ shK c L) R' = (fatesR N (E ++ L) R).map (shF s c) := by
  have hl := la_all o hk A
  have hk' := la_kok (c := c) hk
  have lk : (E ++ shK c L).length = (E ++ L).length := by unfold shK; rw [List.length_append, List.length_append, List.length_map]
  refine List.ext_getElem? fun f => ?_
  rw [List.getElem?_map]
  by_cases hf : f < (E ++ L).length
  · have hp := List.getElem?_eq_getElem hf
    have hx := hk _ (List.getElem_mem hf)
    have hf' : f < (E ++ shK c L).length := by omega
    have hp' := List.getElem?_eq_getElem hf'
    obtain ⟨e1, e2⟩ := fatesR_get o hk hR hp
    obtain ⟨e3, e4⟩ := fatesR_get o hk' hR' hp'
    by_cases h : ∃ t x g, LostAt N (E ++ L) t x f g
    · obtain ⟨t, x, g, h⟩ := h
      rw [e1 t x g h, e3 (putN s c t) x g ((hl _ _ _ _).mpr ⟨t, rfl, h⟩)]
      show some (Fate.lost ((putN s c t : Nat) : Int) x g) = some (Fate.lost (putI s c (t : Int)) x g)
      have : ((putN s c t : Nat) : Int) = putI s c (t : Int) := by
        unfold putN putI
        by_cases q : s ≤ t
        · rw [if_pos q, if_pos (by omega), Int.natCast_add]
        · rw [if_neg q, if_neg (by omega)]
      rw [this]
    · rw [e2 fun t x g q => h ⟨t, x, g, q⟩, e4 fun t x g q => by
        obtain ⟨u, _, q2⟩ := (hl t _ _ _).mp q
        exact h ⟨u, x, g, q2⟩]
      show some (fateA N _) = some (shF s c (fateA N _))
      congr 1
      -- who is early is told as he was, who is late later
      have key : ∃ d : Int, (E ++ shK c L)[f] = (((E ++ L)[f]).1 + d.toNat, ((E ++ L)[f]).2) ∧ 0 ≤ d ∧ ∀ t : Int, ((E ++ L)[f]).1 ≤ t → t ≤ ((E ++ L)[f]).1 + totN N → putI s c t = t + d := by
        by_cases q : f < E.length
        · refine ⟨0, ?_, Int.le_refl _, fun t h1 h2 => ?_⟩
          · rw [List.getElem_append_left q, List.getElem_append_left q]
            rfl
          · rw [List.getElem_append_left q] at h1 h2
            have hne : E ≠ [] := fun e => by rw [e] at q; exact absurd q (Nat.not_lt_zero _)
            have h3 := A.rest hne
            have h4 := A.early _ (List.getElem_mem q)
            have h5 := tot_nonneg o
            unfold putI
            rw [if_neg (by omega), Int.add_zero]
        · refine ⟨(c : Int), ?_, by omega, fun t h1 h2 => ?_⟩
          · rw [List.getElem_append_right (by omega), List.getElem_append_right (by omega)]
            unfold shK
            rw [List.getElem_map]
            rfl
          · rw [List.getElem_append_right (by omega)] at h1
            have h4 := A.late _ (List.getElem_mem (l := L) (n := f - E.length) (by rw [List.length_append] at hf; omega))
            unfold putI
            rw [if_pos (by omega)]
      obtain ⟨d, ed, hd, hput⟩ := key
      rw [ed]
      generalize (E ++ L)[f] = p at hx hput ⊢
      have ec : ((p.1 + d.toNat : Nat) : Int) = (p.1 : Int) + d := by omega
      unfold fateA
      simp only
      rw [ec]
      by_cases hr : wayR N p.2 = []
      · rw [if_pos hr, if_pos hr]
        show Fate.ended (frst N ((p.1 : Int) + d) p.2 _) _ = Fate.ended (putI s c _) _
        rw [frst_sh o, hput _ (frst_ge o hx _ _) (frst_tot o hx _ (Nat.le_refl _))]
      · rw [if_neg hr, if_neg hr]
        have hmem : minN (wayR N p.2) ∈ path N p.2 := by
          rw [← way_cat]
          exact List.mem_append_right _ (minN_mem hr).1
        show Fate.goes _ (frstOf N ((p.1 : Int) + d) p.2 _) = Fate.goes _ (putI s c _)
        rw [hput _ (by unfold frstOf; exact frst_ge o hx _ _) (frstOf_tot o hx _ hmem)]
        unfold frstOf
        rw [frst_sh o]
  · rw [List.getElem?_eq_none (by rw [fatesR_len, lk]; omega), List.getElem?_eq_none (by rw [fatesR_len]; omega)]
    rfl
omit o hk A in
def shLt (c : Nat) : Lt → Lt
  | none => none
  | some (f, t) => some (f, t + c)
theorem la_st {t : Nat} (ht : s ≤ t) : stW N (E ++ shK c L) (t + c + 1) = (stW N (E ++ L) (t + 1)).map (shLt c) := by
  have hk' := la_kok (c := c) hk
  have al : ∀ f, Alive N (E ++ shK c L) f (t + c + 1) ↔ Alive N (E ++ L) f (t + 1) := fun f => by
    rw [show t + c + 1 = (t + 1) + c by omega]
    exact la_alive o hk A (by omega)
  refine List.ext_getElem? fun z => ?_
  rw [List.getElem?_map]
  by_cases hz : z < N.length
  · rw [stW_at o hk' _ hz, stW_at o hk _ hz]
    show some _ = some _
    have fwd : ∀ f u, (stW N (E ++ L) (t + 1)).getD z none = some (f, u) → (stW N (E ++ shK c L) (t + c + 1)).getD z none = some (f, u + c) := fun f u h => by
      obtain ⟨r1, r2, r3, r4⟩ := (brn_iff o hk).mp h
      have hb := la_back o hk A r3 (t := (t : Int)) (by omega) r2
      refine (brn_iff o hk').mpr ⟨by omega, by omega, ?_, (al f).mpr r4⟩
      rw [Int.natCast_add]
      exact (la_on o hk A hb).mpr r3
    cases e : (stW N (E ++ L) (t + 1)).getD z none with
    | some q =>
      obtain ⟨f, u⟩ := q
      rw [fwd f u e]
      rfl
    | none =>
      cases e2 : (stW N (E ++ shK c L) (t + c + 1)).getD z none with
      | none => rfl
      | some q =>
        obtain ⟨f, u'⟩ := q
        obtain ⟨r1, r2, r3, r4⟩ := (brn_iff o hk').mp e2
        obtain ⟨n, en, hn⟩ := la_back' o hk A (t := (t : Int)) r3 (by omega) (by omega)
        rw [en] at r3
        rw [(brn_iff o hk).mpr ⟨by omega, by omega, (la_on o hk A hn).mp r3, (al f).mp r4⟩] at e
        cases e
  · rw [List.getElem?_eq_none (by rw [stW_len o hk']; omega), List.getElem?_eq_none (by rw [stW_len o hk]; omega)]
    rfl
theorem la_lits {x first count : Nat} (hf : s ≤ first) {W : List (Nat × Nat)} (h : Lits N (E ++ L) x first count W) : Lits N (E ++ shK c L) x (first + c) count (W.map fun w => (w.1 + c, w.2)) := by
  have lit : ∀ t f, s ≤ t → (LitAt N (E ++ shK c L) x (t + c) f ↔ LitAt N (E ++ L) x t f) := fun t f ht => by
    unfold LitAt
    rw [show t + c + 1 = (t + 1) + c by omega, la_alive o hk A (by omega), Int.natCast_add, la_on o hk A fun hne => by
      have := A.rest hne
      have := tot_nonneg o
      omega]
  have lex : ∀ {p q : Nat × Nat}, lexP p q → lexP (p.1 + c, p.2) (q.1 + c, q.2) := fun {p q} z => by
    unfold lexP at *
    simp only
    omega
  refine ⟨?_, by rw [List.length_map]; exact h.len, fun w hw => ?_, fun t' f h1 h2 => ?_⟩
  · rw [List.pairwise_map]
    exact h.srt.imp lex
  · obtain ⟨v, hv, rfl⟩ := List.mem_map.mp hw
    obtain ⟨q1, q2⟩ := h.is_ v hv
    exact ⟨by show first + c ≤ v.1 + c; omega, (lit v.1 v.2 (by omega)).mpr q2⟩
  · have e : t' = (t' - c) + c := by omega
    rw [e] at h2
    have la := (lit (t' - c) f (by omega)).mp h2
    rcases h.all (t' - c) f (by omega) la with z | ⟨z1, z2⟩
    · refine .inl (List.mem_map.mpr ⟨(t' - c, f), z, ?_⟩)
      show (t' - c + c, f) = _
      rw [← e]
    · refine .inr ⟨by rw [List.length_map]; exact z1, fun w hw => ?_⟩
      obtain ⟨v, hv, rfl⟩ := List.mem_map.mp hw
      have := lex (z2 v hv)
      simp only at this
      rwa [← e] at this
end
end Em

namespace Em
open PySem PySem.Spec PyProof.Rows L2 Qt

theorem Kp.over {S T : List Addr} {H H1 H2 : Hp} (k : Kp S H H1) (k' : Kp T H1 H2) (hT : ∀ a ∈ T, H a = none) : Kp S H H2 :=
  ⟨fun c o n h t => k'.at_ c o (fun z => by rw [hT c z] at h; cases h) (k.at_ c o n h t) t, fun c h => k'.tab c (k.tab c h), fun c h => k'.tr_ c (k.tr_ c h)⟩
/-! ### dicts whose keys are numbers below a bound -/
def kN (x : Nat) : Key := Sum.inl (x : Int)
theorem kN_inj {x y : Nat} (h : kN x = kN y) : x = y := by
  have : ((x : Nat) : Int) = y := Sum.inl.inj h
  omega
structure KeysN (r : List (Key × V)) (n : Nat) : Prop where
  nd : (r.map (·.1)).Nodup
  lt : ∀ kv ∈ r, ∃ x, x < n ∧ kv.1 = kN x
theorem KeysN.nil {n : Nat} : KeysN [] n := ⟨List.nodup_nil, fun kv h => by cases h⟩
theorem KeysN.len {r : List (Key × V)} {n : Nat} (h : KeysN r n) : r.length ≤ n := by
  have h1 := h.nd.length_le_of_subset (l₂ := (List.range n).map kN) fun k hk => by
    obtain ⟨kv, hkv, rfl⟩ := List.mem_map.mp hk
    obtain ⟨x, hx, e⟩ := h.lt kv hkv
    rw [e]
    exact List.mem_map.mpr ⟨x, List.mem_range.mpr hx, rfl⟩
  rw [List.length_map, List.length_map, List.length_range] at h1
  exact h1
theorem KeysN.put {r : List (Key × V)} {n x : Nat} (h : KeysN r n) (hx : x < n) (v : V) (hn : valV r (kN x) = none) : KeysN (putK r (kN x) v) n := by
  refine ⟨nd_putK v h.nd hn, fun kv hkv => ?_⟩
  rw [putK_new v hn] at hkv
  rcases List.mem_append.mp hkv with q | q
  · exact h.lt kv q
  · rw [List.mem_singleton.mp q]
    exact ⟨x, hx, rfl⟩
theorem KeysN.drop {r : List (Key × V)} {n : Nat} (h : KeysN r n) (k : Key) : KeysN (dropK r k) n := ⟨nd_dropK h.nd, fun kv hkv => h.lt kv (dropK_mem hkv)⟩
theorem valV_drop (k j : Key) : ∀ r : List (Key × V), valV (dropK r k) j = if j = k then none else valV r j
  | [] => by
    show valV ([] : List (Key × V)) j = _
    rw [valV_nil]
    split <;> rfl
  | p :: r => by
    by_cases e : p.1 = k
    · rw [dropK_pos e, valV_drop k j r]
      by_cases q : j = k
      · rw [if_pos q, if_pos q]
      · rw [if_neg q, if_neg q, valV_neg (fun z => q (by rw [← z, e]))]
    · rw [dropK_neg e]
      by_cases q : p.1 = j
      · rw [valV_pos q, valV_pos q, if_neg (fun z => e (by rw [q, z]))]
      · rw [valV_neg q, valV_neg q, valV_drop k j r]
/-! ### what burns, by lamps -/
def RelL (H : Hp) : Option V → Lt → Prop
  | none, none => True
  | some v, some (f, t0) => ∃ ta : Addr, v = .ref ta ∧ H ta = some (.tup [.int (f : Nat), .int (t0 : Nat)])
  | _, _ => False
theorem RelL.kt {H H' : Hp} (k : Kt H H') : ∀ {o : Option V} {l : Lt}, RelL H o l → RelL H' o l
  | none, none, _ => trivial
  | some _, some (_, _), ⟨ta, e, h⟩ => ⟨ta, e, k _ _ h⟩
  | none, some _, h => h.elim
  | some _, none, h => h.elim
theorem RelL.none_ {H : Hp} {o : Option V} (h : RelL H o none) : o = none := by
  cases o with
  | none => rfl
  | some v => exact h.elim
theorem RelL.some_ {H : Hp} {o : Option V} {f t : Nat} (h : RelL H o (some (f, t))) : ∃ ta : Addr, o = some (.ref ta) ∧ H ta = some (.tup [.int (f : Nat), .int (t : Nat)]) := by
  cases o with
  | none => exact h.elim
  | some v =>
    obtain ⟨ta, rfl, h⟩ := h
    exact ⟨ta, rfl, h⟩
def BurnD (H : Hp) (b : Addr) (n : Nat) (L : Nat → Lt) : Prop := ∃ r, H b = some (.dK r) ∧ KeysN r n ∧ ∀ x, x < n → RelL H (valV r (kN x)) (L x)
theorem BurnD.kp {S : List Addr} {H H' : Hp} {b : Addr} {n : Nat} {L : Nat → Lt} (h : BurnD H b n L) (k : Kp S H H') (t : Kt H H') (hb : b ∉ S) : BurnD H' b n L := by
  obtain ⟨r, h1, h2, h3⟩ := h
  exact ⟨r, k.at_ b _ hb h1 (fun ps z => by cases z), h2, fun x hx => (h3 x hx).kt t⟩
theorem BurnD.ext {H : Hp} {b : Addr} {n : Nat} {L L' : Nat → Lt} (h : BurnD H b n L) (e : ∀ x, x < n → L x = L' x) : BurnD H b n L' := by
  obtain ⟨r, h1, h2, h3⟩ := h
  exact ⟨r, h1, h2, fun x hx => by rw [← e x hx]; exact h3 x hx⟩
theorem BurnD.tr {H : Hp} {b : Addr} {n : Nat} {L : Nat → Lt} (h : BurnD H b n L) : H b ≠ none ∧ ∀ xs, H b ≠ some (.tup xs) := by
  obtain ⟨r, h1, _⟩ := h
  constructor
  · intro z
    rw [h1] at z
    cases z
  · intro xs z
    rw [h1] at z
    cases z
/-- one goes dark -/
theorem BurnD.pop {H : Hp} {b : Addr} {n : Nat} {L : Nat → Lt} {r : List (Key × V)} (h1 : H b = some (.dK r)) (h2 : KeysN r n) (h3 : ∀ x, x < n → RelL H (valV r (kN x)) (L x)) (x : Nat) :
    BurnD (upd H b (.dK (dropK r (kN x)))) b n (fun y => if y = x then none else L y) := by
  have t : Kt H (upd H b (.dK (dropK r (kN x)))) := Kt.put h1 fun _ z => by cases z
  refine ⟨_, upd_same, h2.drop _, fun y hy => ?_⟩
  show RelL _ _ (if y = x then none else L y)
  rw [valV_drop]
  by_cases e : y = x
  · rw [if_pos (by rw [e]), if_pos e]
    exact trivial
  · rw [if_neg (fun z => e (kN_inj z)), if_neg e]
    exact (h3 y hy).kt t
/-- one is lit -/
theorem BurnD.lit {H : Hp} {b : Addr} {n : Nat} {L : Nat → Lt} {r : List (Key × V)} (h1 : H b = some (.dK r)) (h2 : KeysN r n) (h3 : ∀ x, x < n → RelL H (valV r (kN x)) (L x)) {x f t0 : Nat} (hx : x < n) (hn : valV r (kN x) = none) {ta : Addr} (ht : H ta = some (.tup [.int (f : Nat), .int (t0 : Nat)])) :
    BurnD (upd H b (.dK (putK r (kN x) (.ref ta)))) b n (fun y => if y = x then some (f, t0) else L y) := by
  have t : Kt H (upd H b (.dK (putK r (kN x) (.ref ta)))) := Kt.put h1 fun _ z => by cases z
  refine ⟨_, upd_same, h2.put hx _ hn, fun y hy => ?_⟩
  show RelL _ _ (if y = x then some (f, t0) else L y)
  rw [valV_put]
  by_cases e : y = x
  · rw [if_pos (by rw [e]), if_pos e]
    exact ⟨ta, rfl, t _ _ ht⟩
  · rw [if_neg (fun z => e (kN_inj z)), if_neg e]
    exact (h3 y hy).kt t
/-! ### who comes, by lamps -/
structure ComeD (H0 H : Hp) (c : Addr) (n : Nat) (F : Nat → List Nat) (r : List (Key × V)) : Prop where
  top : H c = some (.dK r)
  keys : KeysN r n
  no : ∀ y, y < n → F y = [] → valV r (kN y) = none
  yes : ∀ y, y < n → F y ≠ [] → ∃ ly : Addr, valV r (kN y) = some (.ref ly) ∧ H ly = some (.lst (natV (F y))) ∧ H0 ly = none ∧ ly ≠ c
  one : ∀ y z ly, y < n → z < n → valV r (kN y) = some (.ref ly) → valV r (kN z) = some (.ref ly) → y = z
  new : H0 c = none
theorem ComeD.kp {S : List Addr} {H0 H H' : Hp} {c : Addr} {n : Nat} {F : Nat → List Nat} {r : List (Key × V)} (h : ComeD H0 H c n F r) (k : Kp S H H') (hS : ∀ s ∈ S, H0 s ≠ none) : ComeD H0 H' c n F r := by
  have nS : ∀ a, H0 a = none → a ∉ S := fun a ha hs => hS a hs ha
  refine ⟨k.at_ c _ (nS c h.new) h.top (fun ps z => by cases z), h.keys, h.no, fun y hy hF => ?_, h.one, h.new⟩
  obtain ⟨ly, h1, h2, h3, h4⟩ := h.yes y hy hF
  exact ⟨ly, h1, k.lst (nS ly h3) h2, h3, h4⟩
theorem ComeD.ext {H0 H : Hp} {c : Addr} {n : Nat} {F F' : Nat → List Nat} {r : List (Key × V)} (h : ComeD H0 H c n F r) (e : ∀ y, y < n → F y = F' y) : ComeD H0 H c n F' r :=
  ⟨h.top, h.keys, fun y hy hF => h.no y hy (by rw [e y hy]; exact hF), fun y hy hF => by
    rw [← e y hy] at hF ⊢
    exact h.yes y hy hF, h.one, h.new⟩
def addF (F : Nat → List Nat) (y e : Nat) : Nat → List Nat := fun z => if z = y then F y ++ [e] else F z
/-- d.setdefault(y, []).append(e): where there is a list -/
theorem ComeD.addA {H0 H : Hp} {c l0 : Addr} {n y e : Nat} {F : Nat → List Nat} {r : List (Key × V)} (h : ComeD H0 H c n F r) (hy : y < n) (hF : F y ≠ []) (nl : H l0 = none) (hl0 : H0 l0 = none) :
    ∃ ly : Addr, valV r (kN y) = some (.ref ly) ∧ upd H l0 (.lst []) ly = some (.lst (natV (F y))) ∧ ComeD H0 (upd (upd H l0 (.lst [])) ly (.lst (natV (F y) ++ [.int (e : Nat)]))) c n (addF F y e) r ∧
      ∃ T : List Addr, (∀ a ∈ T, H0 a = none) ∧ Kp T H (upd (upd H l0 (.lst [])) ly (.lst (natV (F y) ++ [.int (e : Nat)]))) ∧ Kt H (upd (upd H l0 (.lst [])) ly (.lst (natV (F y) ++ [.int (e : Nat)]))) := by
  obtain ⟨ly, h1, h2, h3, h4⟩ := h.yes y hy hF
  have k1 : Kp [] H (upd H l0 (.lst [])) := Kp.new nl
  have h21 := k1.lst (by simp) h2
  have htop := k1.at_ c _ (by simp) h.top (fun ps z => by cases z)
  refine ⟨ly, h1, h21, ⟨by rw [upd_ne h4.symm]; exact htop, h.keys, fun z hz hFz => ?_, fun z hz hFz => ?_, h.one, h.new⟩, [ly], fun a ha => by rw [List.mem_singleton.mp ha]; exact h3, k1.of0.tr (Kp.put (by simp) h21 fun _ z => by cases z), k1.kt0.tr (Kt.put h21 fun _ z => by cases z)⟩
  · unfold addF at hFz
    by_cases e1 : z = y
    · rw [if_pos e1] at hFz; simp at hFz
    · rw [if_neg e1] at hFz
      exact h.no z hz hFz
  · unfold addF at hFz ⊢
    by_cases e1 : z = y
    · subst e1
      rw [if_pos rfl]
      exact ⟨ly, h1, by rw [upd_same, natV_app], h3, h4⟩
    · rw [if_neg e1] at hFz ⊢
      obtain ⟨lz, g1, g2, g3, g4⟩ := h.yes z hz hFz
      refine ⟨lz, g1, ?_, g3, g4⟩
      have : lz ≠ ly := fun q => e1 (h.one z y ly hz hy (q ▸ g1) h1)
      rw [upd_ne this]
      exact k1.lst (by simp) g2
/-- where there is none -/
theorem ComeD.addB {H0 H : Hp} {c l0 : Addr} {n y e : Nat} {F : Nat → List Nat} {r : List (Key × V)} (h : ComeD H0 H c n F r) (hy : y < n) (hF : F y = []) (nl : H l0 = none) (hl0 : H0 l0 = none) :
    valV r (kN y) = none ∧ upd H l0 (.lst []) c = some (.dK r) ∧ upd (upd H l0 (.lst [])) c (.dK (putK r (kN y) (.ref l0))) l0 = some (.lst []) ∧ ComeD H0 (upd (upd (upd H l0 (.lst [])) c (.dK (putK r (kN y) (.ref l0)))) l0 (.lst ([] ++ [.int (e : Nat)]))) c n (addF F y e) (putK r (kN y) (.ref l0)) ∧
      ∃ T : List Addr, (∀ a ∈ T, H0 a = none) ∧ Kp T H (upd (upd (upd H l0 (.lst [])) c (.dK (putK r (kN y) (.ref l0)))) l0 (.lst ([] ++ [.int (e : Nat)]))) ∧ Kt H (upd (upd (upd H l0 (.lst [])) c (.dK (putK r (kN y) (.ref l0)))) l0 (.lst ([] ++ [.int (e : Nat)]))) := by
  have hn := h.no y hy hF
  have k1 : Kp [] H (upd H l0 (.lst [])) := Kp.new nl
  have htop := k1.at_ c _ (by simp) h.top (fun ps z => by cases z)
  have ncl : c ≠ l0 := fun q => by have := h.top; rw [q, nl] at this; cases this
  have k2 : Kp [c] (upd H l0 (.lst [])) (upd (upd H l0 (.lst [])) c (.dK (putK r (kN y) (.ref l0)))) := Kp.put (by simp) htop fun _ z => by cases z
  have hl0' : upd (upd H l0 (.lst [])) c (.dK (putK r (kN y) (.ref l0))) l0 = some (.lst []) := by rw [upd_ne ncl.symm]; exact upd_same
  have t2 : Kt (upd H l0 (.lst [])) (upd (upd H l0 (.lst [])) c (.dK (putK r (kN y) (.ref l0)))) := Kt.put htop fun _ z => by cases z
  refine ⟨hn, htop, hl0', ⟨by rw [upd_ne ncl, upd_same], h.keys.put hy _ hn, fun z hz hFz => ?_, fun z hz hFz => ?_, fun u z ly hu hz q1 q2 => ?_, h.new⟩, [c, l0], fun a ha => ?_, ?_, ?_⟩
  · unfold addF at hFz
    by_cases e1 : z = y
    · rw [if_pos e1] at hFz; simp at hFz
    · rw [if_neg e1] at hFz
      rw [valV_put, if_neg (fun q => e1 (kN_inj q))]
      exact h.no z hz hFz
  · unfold addF at hFz ⊢
    by_cases e1 : z = y
    · subst e1
      rw [if_pos rfl]
      refine ⟨l0, by rw [valV_put, if_pos rfl], ?_, hl0, ncl.symm⟩
      rw [upd_same, hF]
      rfl
    · rw [if_neg e1] at hFz ⊢
      obtain ⟨lz, g1, g2, g3, g4⟩ := h.yes z hz hFz
      refine ⟨lz, by rw [valV_put, if_neg (fun q => e1 (kN_inj q))]; exact g1, ?_, g3, g4⟩
      have : lz ≠ l0 := fun q => by rw [q, nl] at g2; cases g2
      rw [upd_ne this, upd_ne g4]
      exact k1.lst (by simp) g2
  · have old : ∀ u, u < n → u ≠ y → valV r (kN u) = some (.ref ly) → ly ≠ l0 := fun u hu ne q => by
      by_cases hFu : F u = []
      · rw [h.no u hu hFu] at q; cases q
      · obtain ⟨lu, g1, g2, _⟩ := h.yes u hu hFu
        rw [q] at g1
        cases g1
        exact fun z => by rw [z, nl] at g2; cases g2
    rw [valV_put] at q1 q2
    by_cases e1 : u = y
    · by_cases e2 : z = y
      · rw [e1, e2]
      · rw [if_pos (by rw [e1])] at q1
        rw [if_neg (fun q => e2 (kN_inj q))] at q2
        cases q1
        exact absurd rfl (old z hz e2 q2)
    · rw [if_neg (fun q => e1 (kN_inj q))] at q1
      by_cases e2 : z = y
      · rw [if_pos (by rw [e2])] at q2
        cases q2
        exact absurd rfl (old u hu e1 q1)
      · rw [if_neg (fun q => e2 (kN_inj q))] at q2
        exact h.one u z ly hu hz q1 q2
  · rcases List.mem_cons.mp ha with q | q
    · rw [q]; exact h.new
    · rw [List.mem_singleton.mp q]; exact hl0
  · exact k1.of0.tr ((k2.wk fun x z => by rw [List.mem_singleton.mp z]; simp).tr (Kp.put (by simp) hl0' fun _ z => by cases z))
  · exact k1.kt0.tr (t2.tr (Kt.put hl0' fun _ z => by cases z))
theorem ComeD.setd {H0 H : Hp} {c l0 : Addr} {n y e : Nat} {F : Nat → List Nat} {r : List (Key × V)} {R : V → Hp → Prop} (h : ComeD H0 H c n F r) (hy : y < n) (hn : n ≤ 12) (nl : H l0 = none) (hl0 : H0 l0 = none)
    (go : ∀ (ly : Addr) (H1 : Hp) (r' : List (Key × V)) (T : List Addr), H1 ly = some (.lst (natV (F y))) → ComeD H0 (upd H1 ly (.lst (natV (F y) ++ [.int (e : Nat)]))) c n (addF F y e) r' → (∀ a ∈ T, H0 a = none) → Kp T H (upd H1 ly (.lst (natV (F y) ++ [.int (e : Nat)]))) → Kt H (upd H1 ly (.lst (natV (F y) ++ [.int (e : Nat)]))) → R (.ref ly) H1) :
    ∃ (kvs : List (Key × V)) (k : Key), upd H l0 (.lst []) c = some (.dK kvs) ∧ V.int (y : Nat) = kV k ∧ kvs.length < sizeLine ∧ (∀ v, valV kvs k = some v → R v (upd H l0 (.lst []))) ∧ (valV kvs k = none → R (.ref l0) (upd (upd H l0 (.lst [])) c (.dK (putK kvs k (.ref l0))))) := by
  have hl := h.keys.len
  refine ⟨r, kN y, (Kp.new (S := []) nl).at_ c _ (by simp) h.top (fun ps z => by cases z), rfl, Nat.lt_of_le_of_lt (show r.length ≤ 12 by omega) (by decide), fun v hv => ?_, fun hno => ?_⟩
  · by_cases hF : F y = []
    · rw [h.no y hy hF] at hv; cases hv
    · obtain ⟨ly, h1, h2, h3, T, h4, h5, h6⟩ := h.addA (e := e) hy hF nl hl0
      rw [hv] at h1
      cases h1
      exact go ly _ r T h2 h3 h4 h5 h6
  · by_cases hF : F y = []
    · obtain ⟨h1, h2, h3, h4, T, h5, h6, h7⟩ := h.addB (e := e) hy hF nl hl0
      have hv : natV (F y) = [] := by rw [hF]; rfl
      refine go l0 (upd (upd H l0 (.lst [])) c (.dK (putK r (kN y) (.ref l0)))) (putK r (kN y) (.ref l0)) T ?_ ?_ h5 ?_ ?_
      · rw [hv]; exact h3
      · rw [hv]; exact h4
      · rw [hv]; exact h6
      · rw [hv]; exact h7
    · obtain ⟨ly, h1, _⟩ := h.yes y hy hF
      rw [hno] at h1; cases h1
theorem ComeD.weak {H0 H0' H : Hp} {c : Addr} {n : Nat} {F : Nat → List Nat} {r : List (Key × V)} (h : ComeD H0 H c n F r) (w : ∀ a, H0 a = none → H0' a = none) : ComeD H0' H c n F r :=
  ⟨h.top, h.keys, h.no, fun y hy hF => by
    obtain ⟨ly, h1, h2, h3, h4⟩ := h.yes y hy hF
    exact ⟨ly, h1, h2, w _ h3, h4⟩, h.one, w _ h.new⟩
theorem ComeD.setdE {H0 H : Hp} {c : Addr} {n y e : Nat} {F : Nat → List Nat} {r : List (Key × V)} {R : VK} {td ty : TE} {σ : L2.St} (h : ComeD H0 H c n F r) (hy : y < n) (hn : n ≤ 12) (hl0 : ∀ l, H l = none → H0 l = none)
    (hd : ∀ Q : VK, Q (.ref c) H → td σ H Q) (hk : ∀ Q : VK, Q (.int (y : Nat)) H → ty σ H Q)
    (go : ∀ (ly : Addr) (H1 : Hp) (r' : List (Key × V)) (T : List Addr), H1 ly = some (.lst (natV (F y))) → ComeD H0 (upd H1 ly (.lst (natV (F y) ++ [.int (e : Nat)]))) c n (addF F y e) r' → (∀ a ∈ T, H0 a = none) → Kp T H (upd H1 ly (.lst (natV (F y) ++ [.int (e : Nat)]))) → Kt H (upd H1 ly (.lst (natV (F y) ++ [.int (e : Nat)]))) → R (.ref ly) H1) :
    tDSetd td ty (tLst tNil) σ H R :=
  hd _ ⟨c, rfl, .inl ⟨_, .inl h.top⟩, hk _ ⟨by show (0 : Nat) ≤ sizeLine; decide, fun l0 nl0 => ComeD.setd (R := R) h hy hn nl0 (hl0 l0 nl0) go⟩⟩
end Em

namespace Em
open PySem PySem.Spec PyProof.Rows L2 Qt

def isLost : Em.Row → Bool
  | .lost _ _ _ _ => true
  | _ => false
def isLit : Em.Row → Bool
  | .lit _ _ _ => true
  | _ => false
def isEnded : Em.Row → Bool
  | .ended _ _ _ => true
  | _ => false
theorem nat_tu {H : Hp} : ∀ B : List Nat, TuA H (natV B) (B.map fun n : Nat => PyData.int (n : Int))
  | [] => .nil
  | n :: r => .cons (.int _) (nat_tu r)
theorem tu_int {H : Hp} : ∀ {B : List Int} {ws : List V}, TuA H ws (B.map fun i : Int => PyData.int i) → ws = B.map V.int
  | [], _, h => by cases h; rfl
  | n :: r, _, h => by
    cases h with
    | cons h1 h2 =>
      cases h1
      rw [tu_int h2]
      rfl
section
variable {N : Net} {ks : Kds} {t : Nat}
/-- the lamps to which somebody comes -/
def selS (N : Net) (ks : Kds) (t : Nat) : List Nat := (List.range N.length).filter fun x => decide (cmW N ks t x ≠ [])
def mtW (N : Net) (ks : Kds) (t x : Nat) : Lt × List Em.Row := metB N t (stW N ks t) (waitK ks t) x
theorem mtW_eq (x : Nat) : mtW N ks t x = meet t x (leftB N t (stW N ks t) x) (srt (cmW N ks t x)) := rfl
theorem mt_nil {x : Nat} (h : cmW N ks t x = []) : mtW N ks t x = (leftB N t (stW N ks t) x, []) := by
  rw [mtW_eq, h]
  exact Prod.ext (meet_nil_lt _ _) (meet_nil_row _ _)
theorem sel_mem {x : Nat} : x ∈ selS N ks t ↔ x < N.length ∧ cmW N ks t x ≠ [] := by
  unfold selS
  rw [List.mem_filter, List.mem_range]
  simp
theorem sel_up : (selS N ks t).Pairwise (· < ·) := List.Pairwise.filter _ List.pairwise_lt_range
theorem flat_filter {α β : Type} (p : α → Bool) (f : α → List β) (h : ∀ x, p x = false → f x = []) : ∀ R : List α, ((R.filter p).map f).flatten = (R.map f).flatten
  | [] => rfl
  | a :: R => by
    rw [List.filter_cons, List.map_cons, List.flatten_cons]
    cases e : p a with
    | true =>
      rw [if_pos rfl, List.map_cons, List.flatten_cons, flat_filter p f h R]
    | false =>
      rw [if_neg (by decide), h a e, flat_filter p f h R]
      rfl
theorem rows_sel (o : NetOk N) (hk : KdsOk N ks) : rowsW N ks t = overL N t (stW N ks t) N.length ++ ((selS N ks t).map fun x => (mtW N ks t x).2).flatten := by
  have h := (beat_at o (b := t) (stW_len o hk t) (wait_lt (t := t) hk)).2.2
  show (beatA N t (stW N ks t) (waitK ks t)).rows = _
  rw [h]
  unfold selS
  rw [flat_filter]
  · rfl
  · intro x hx
    rw [mt_nil (by simpa using hx)]
theorem over_ended : ∀ r ∈ overL N t (stW N ks t) N.length, isEnded r = true ∧ isLost r = false ∧ isLit r = false := by
  intro r hr
  unfold overL at hr
  obtain ⟨j, _, h⟩ := List.mem_filterMap.mp hr
  unfold overB at h
  cases e : outB N t (stW N ks t) j with
  | none => rw [e] at h; cases h
  | some f =>
    rw [e] at h
    simp only [Option.bind_some] at h
    split at h
    · cases h; exact ⟨rfl, rfl, rfl⟩
    · cases h
theorem met_ended {x : Nat} : ∀ r ∈ (mtW N ks t x).2, isEnded r = false := by
  intro r hr
  rw [mtW_eq] at hr
  cases e : leftB N t (stW N ks t) x with
  | some p =>
    rw [e] at hr
    obtain ⟨f, _, rfl⟩ := List.mem_map.mp hr
    rfl
  | none =>
    rw [e] at hr
    cases e2 : srt (cmW N ks t x) with
    | nil => rw [e2] at hr; cases hr
    | cons f r2 =>
      rw [e2] at hr
      rcases List.mem_cons.mp hr with q | q
      · rw [q]; rfl
      · obtain ⟨f, _, rfl⟩ := List.mem_map.mp q
        rfl
theorem filt_flat (p : Em.Row → Bool) : ∀ S : List Nat, ((S.map fun x => (mtW N ks t x).2).flatten).filter p = (S.map fun x => (mtW N ks t x).2.filter p).flatten
  | [] => rfl
  | x :: S => by
    rw [List.map_cons, List.flatten_cons, List.filter_append, List.map_cons, List.flatten_cons, filt_flat p S]
theorem filt_none (p : Em.Row → Bool) {R : List Em.Row} (h : ∀ r ∈ R, p r = false) : R.filter p = [] := List.filter_eq_nil_iff.mpr fun r hr => by rw [h r hr]; decide
theorem filt_lost (o : NetOk N) (hk : KdsOk N ks) : (rowsW N ks t).filter isLost = ((selS N ks t).map fun x => (mtW N ks t x).2.filter isLost).flatten := by
  rw [rows_sel o hk, List.filter_append, filt_flat, filt_none _ fun r hr => (over_ended r hr).2.1]
  rfl
theorem filt_lit (o : NetOk N) (hk : KdsOk N ks) : (rowsW N ks t).filter isLit = ((selS N ks t).map fun x => (mtW N ks t x).2.filter isLit).flatten := by
  rw [rows_sel o hk, List.filter_append, filt_flat, filt_none _ fun r hr => (over_ended r hr).2.2]
  rfl
theorem filt_ended (o : NetOk N) (hk : KdsOk N ks) : (rowsW N ks t).filter isEnded = overL N t (stW N ks t) N.length := by
  rw [rows_sel o hk, List.filter_append, List.filter_eq_self.mpr fun r hr => (over_ended r hr).1, filt_none _ fun r hr => ?_, List.append_nil]
  obtain ⟨l, hl, hr⟩ := List.mem_flatten.mp hr
  obtain ⟨x, _, rfl⟩ := List.mem_map.mp hl
  exact met_ended r hr
/-- the lamps of this beat when some lamps are done -/
def curF (N : Net) (ks : Kds) (t : Nat) (D : List Nat) (x : Nat) : Lt := if x ∈ D then (mtW N ks t x).1 else leftB N t (stW N ks t) x
theorem cur_end (o : NetOk N) (hk : KdsOk N ks) {x : Nat} (hx : x < N.length) : curF N ks t (selS N ks t) x = (stW N ks (t + 1)).getD x none := by
  have h := (beat_at o (b := t) (stW_len o hk t) (wait_lt (t := t) hk)).2.1 x hx
  show _ = (beatA N t (stW N ks t) (waitK ks t)).L.getD x none
  rw [h]
  unfold curF
  by_cases e : x ∈ selS N ks t
  · rw [if_pos e]; rfl
  · rw [if_neg e]
    have : cmW N ks t x = [] := Classical.not_not.mp fun q => e (sel_mem.mpr ⟨hx, q⟩)
    show _ = (mtW N ks t x).1
    rw [mt_nil this]
/-- the sorted keys of who comes -/
theorem sel_keys {H0 H : Hp} {c : Addr} {r : List (Key × V)} (h : ComeD H0 H c N.length (cmW N ks t) r) {is ys : List Int} (hi : r.map (·.1) = is.map Sum.inl) (hp : ys.Perm is) (hs : ys.Pairwise (· ≤ ·)) : ys = (selS N ks t).map fun n : Nat => (n : Int) := by
  have ndi : is.Nodup := by
    have := h.keys.nd
    rw [hi] at this
    unfold List.Nodup at this
    rw [List.pairwise_map] at this
    exact this.imp fun q e => q (by rw [e])
  have hnd : ((selS N ks t).map fun n : Nat => (n : Int)).Nodup := by
    unfold List.Nodup
    rw [List.pairwise_map]
    exact sel_up.imp fun q => by omega
  refine perm_up (hp.trans ((List.perm_ext_iff_of_nodup ndi hnd).mpr fun i => ?_)) hs (by
    rw [List.pairwise_map]
    exact sel_up.imp fun q => by omega)
  rw [List.mem_map]
  constructor
  · intro hm
    have : (Sum.inl i : Key) ∈ r.map (·.1) := by rw [hi]; exact List.mem_map.mpr ⟨i, hm, rfl⟩
    obtain ⟨kv, hkv, ek⟩ := List.mem_map.mp this
    obtain ⟨x, hx, ex⟩ := h.keys.lt kv hkv
    refine ⟨x, sel_mem.mpr ⟨hx, fun q => ?_⟩, ?_⟩
    · have := h.no x hx q
      refine valV_not this ?_
      rw [← ex]
      exact List.mem_map.mpr ⟨kv, hkv, rfl⟩
    · rw [ek] at ex
      exact (Sum.inl.inj ex).symm
  · rintro ⟨x, hx, rfl⟩
    obtain ⟨h1, h2⟩ := sel_mem.mp hx
    obtain ⟨ly, e, _⟩ := h.yes x h1 h2
    have : kN x ∈ r.map (·.1) := valV_in e
    rw [hi] at this
    obtain ⟨i, hi2, e2⟩ := List.mem_map.mp this
    rw [← Sum.inl.inj e2]
    exact hi2
theorem part_len {f : Nat → List Em.Row} {S : List Nat} (j : Nat) : (((S.take j).map f).flatten).length ≤ ((S.map f).flatten).length := by
  conv => rhs; rw [← List.take_append_drop j S, List.map_append, List.flatten_append, List.length_append]
  omega
theorem part_rows (o : NetOk N) (hk : KdsOk N ks) (p : Em.Row → Bool) (hp : (rowsW N ks t).filter p = ((selS N ks t).map fun x => (mtW N ks t x).2.filter p).flatten) (j : Nat) :
    ((allW N ks t).filter p ++ (((selS N ks t).take j).map fun x => (mtW N ks t x).2.filter p).flatten).length ≤ (N.length + ks.length) * (t + 1) := by
  have h1 := allW_len o hk (t + 1)
  have h2 : ((allW N ks (t + 1)).filter p).length ≤ (allW N ks (t + 1)).length := List.length_filter_le _ _
  rw [allW_succ, List.filter_append, hp, List.length_append] at h2
  have h3 := part_len (f := fun x => (mtW N ks t x).2.filter p) (S := selS N ks t) j
  rw [← allW_succ] at h2
  rw [List.length_append]
  omega
theorem part_all (p : Em.Row → Bool) (hp : (rowsW N ks t).filter p = ((selS N ks t).map fun x => (mtW N ks t x).2.filter p).flatten) :
    (allW N ks t).filter p ++ (((selS N ks t).take (selS N ks t).length).map fun x => (mtW N ks t x).2.filter p).flatten = (allW N ks (t + 1)).filter p := by
  rw [allW_succ, List.filter_append, hp, List.take_length]
theorem part_succ (p : Em.Row → Bool) {j x : Nat} (h : (selS N ks t)[j]? = some x) (A : List Em.Row) :
    A ++ (((selS N ks t).take (j + 1)).map fun x => (mtW N ks t x).2.filter p).flatten = (A ++ (((selS N ks t).take j).map fun x => (mtW N ks t x).2.filter p).flatten) ++ (mtW N ks t x).2.filter p := by
  rw [List.take_add_one, h, List.map_append, List.flatten_append, List.append_assoc]
  simp
theorem sel_not {j x : Nat} (h : (selS N ks t)[j]? = some x) : x ∉ (selS N ks t).take j := by
  intro hm
  have hp := sel_up (N := N) (ks := ks) (t := t)
  obtain ⟨i, hi, e⟩ := List.getElem_of_mem hm
  rw [List.length_take] at hi
  rw [List.getElem_take] at e
  have hj : j < (selS N ks t).length := by
    rcases Nat.lt_or_ge j (selS N ks t).length with q | q
    · exact q
    · rw [List.getElem?_eq_none q] at h; cases h
  rw [List.getElem?_eq_getElem hj] at h
  have := List.pairwise_iff_getElem.mp hp i j (by omega) hj (by omega)
  rw [e, Option.some.inj h] at this
  omega
theorem cur_old {j x : Nat} (h : (selS N ks t)[j]? = some x) : curF N ks t ((selS N ks t).take j) x = leftB N t (stW N ks t) x := if_neg (sel_not h)
theorem cur_succ {j x : Nat} (h : (selS N ks t)[j]? = some x) (y : Nat) : curF N ks t ((selS N ks t).take (j + 1)) y = if y = x then (mtW N ks t x).1 else curF N ks t ((selS N ks t).take j) y := by
  unfold curF
  rw [List.take_add_one, h]
  by_cases e : y = x
  · rw [if_pos e, if_pos (List.mem_append.mpr (.inr (by rw [e]; simp))), e]
  · rw [if_neg e]
    by_cases q : y ∈ (selS N ks t).take j
    · rw [if_pos q, if_pos (List.mem_append.mpr (.inl q))]
    · rw [if_neg q, if_neg (fun z => (List.mem_append.mp z).elim q fun z => e (by simpa using z))]
theorem mt_some {x g t0 : Nat} (h : leftB N t (stW N ks t) x = some (g, t0)) : (mtW N ks t x).1 = some (g, t0) ∧ (mtW N ks t x).2.filter isLost = (srt (cmW N ks t x)).map (fun f => Em.Row.lost t x f g) ∧ (mtW N ks t x).2.filter isLit = [] := by
  have e : mtW N ks t x = (some (g, t0), (srt (cmW N ks t x)).map fun f => Em.Row.lost t x f g) := by
    rw [mtW_eq, h]; rfl
  rw [e]
  refine ⟨rfl, List.filter_eq_self.mpr fun r hr => ?_, filt_none _ fun r hr => ?_⟩
  · obtain ⟨f, _, rfl⟩ := List.mem_map.mp hr; rfl
  · obtain ⟨f, _, rfl⟩ := List.mem_map.mp hr; rfl
theorem mt_none {x g : Nat} {r : List Nat} (h : leftB N t (stW N ks t) x = none) (hs : srt (cmW N ks t x) = g :: r) : (mtW N ks t x).1 = some (g, t) ∧ (mtW N ks t x).2.filter isLost = r.map (fun f => Em.Row.lost t x f g) ∧ (mtW N ks t x).2.filter isLit = [.lit t x g] := by
  have e : mtW N ks t x = (some (g, t), .lit t x g :: r.map fun f => Em.Row.lost t x f g) := by
    rw [mtW_eq, h, hs]; rfl
  rw [e]
  refine ⟨rfl, ?_, ?_⟩
  · rw [List.filter_cons]
    exact List.filter_eq_self.mpr fun r hr => by obtain ⟨f, _, rfl⟩ := List.mem_map.mp hr; rfl
  · rw [List.filter_cons]
    show Em.Row.lit t x g :: _ = _
    rw [filt_none _ fun r hr => ?_]
    obtain ⟨f, _, rfl⟩ := List.mem_map.mp hr; rfl
theorem cm_len (hk : KdsOk N ks) (x : Nat) : (cmW N ks t x).length ≤ N.length + ks.length := by
  show (cameL N t (stW N ks t) N.length x ++ newL (waitK ks t) x).length ≤ _
  rw [List.length_append]
  have h1 : (cameL N t (stW N ks t) N.length x).length ≤ N.length := Nat.le_trans (List.length_filterMap_le _ _) (by rw [List.length_range]; exact Nat.le_refl _)
  have h2 : (newL (waitK ks t) x).length ≤ ks.length := by
    unfold newL
    rw [List.length_map]
    refine Nat.le_trans (List.length_filter_le _ _) ?_
    unfold waitK
    exact Nat.le_trans (List.length_filterMap_le _ _) (by rw [List.length_range]; exact Nat.le_refl _)
  omega
theorem KeysN.ints : ∀ {r : List (Key × V)} {n : Nat}, (∀ kv ∈ r, ∃ x, x < n ∧ kv.1 = kN x) → ∃ is : List Int, r.map (·.1) = is.map Sum.inl ∧ is.length = r.length
  | [], _, _ => ⟨[], rfl, rfl⟩
  | kv :: r, n, h => by
    obtain ⟨is, e, l⟩ := KeysN.ints (r := r) (n := n) fun q hq => h q (List.mem_cons_of_mem _ hq)
    obtain ⟨x, _, ex⟩ := h kv List.mem_cons_self
    exact ⟨(x : Int) :: is, by rw [List.map_cons, List.map_cons, e, ex]; rfl, by rw [List.length_cons, List.length_cons, l]⟩
end
end Em

namespace Em
open PySem PySem.Spec PyProof.Rows L2 Qt

/-! ### rules of a comprehension in a comprehension -/
theorem cr_sortedIK {X : Cx} {K : PySem.W.Frag} (h : X.K = K) : CallR X (.builtin "sorted") (rSortedI K) := h ▸ cr_sortedI
theorem pi_listK {X : Cx} {K : PySem.W.Frag} {tg l : Expr} {tl : TE} (h : X.K = K) (hl : PE X l tl) : PI X tg l (iList K tl) := h ▸ pi_list hl
theorem pi_tupK {X : Cx} {K : PySem.W.Frag} {tg l : Expr} {tl : TE} (h : X.K = K) (hl : PE X l tl) : PI X tg l (iTup K tl) := h ▸ pi_tup hl
/-! ### who robs whom -/
def LR (N : Net) (ks : Kds) (f g : Nat) : Prop := ∃ t x, LostAt N ks t x f g
section
variable {N : Net} {ks : Kds} {R : List C4}
theorem lr_iff (hR : Losses N ks R) {f g : Nat} : LR N ks f g ↔ ∃ c ∈ R, c.2.2.1 = f ∧ c.2.2.2 = g := by
  constructor
  · rintro ⟨t, x, h⟩
    exact ⟨((t : Int), x, f, g), (hR.iff _).mpr ⟨t, rfl, h⟩, rfl, rfl⟩
  · rintro ⟨⟨b, x, f', g'⟩, h, rfl, rfl⟩
    obtain ⟨t, _, h⟩ := (hR.iff _).mp h
    exact ⟨t, x, h⟩
theorem lr_one (o : NetOk N) (hk : KdsOk N ks) {f g g' : Nat} (h : LR N ks f g) (h' : LR N ks f g') : g' = g := by
  obtain ⟨t, x, h⟩ := h
  obtain ⟨t', x', h'⟩ := h'
  exact (lost_once o hk h h').2.2
theorem lr_lt (o : NetOk N) (hk : KdsOk N ks) {f g : Nat} (h : LR N ks f g) : f < ks.length ∧ g < ks.length := by
  obtain ⟨t, x, h⟩ := h
  exact ⟨(lost_lt o hk h).1, (lost_lt o hk h).2.1⟩
theorem lr_great (o : NetOk N) (hk : KdsOk N ks) {c d : Nat} (hc : 1 ≤ c) (f g : Nat) : LR (tmN N c) (shK d (tmK ks c)) f g ↔ LR N ks f g := by
  have o' := tmN_ok (N := N) o hc
  have hk' : KdsOk (tmN N c) (tmK ks c) := tmK_ok hk
  have A : Late (tmN N c) [] (tmK ks c) 0 d 0 := ⟨fun p _ => Nat.zero_le _, fun p h => (by cases h), fun h => absurd rfl h, fun h => absurd rfl h⟩
  have ha := la_all o' (E := []) hk' A
  constructor
  · rintro ⟨t, x, h⟩
    obtain ⟨u, _, h⟩ := (ha t x f g).mp h
    obtain ⟨v, _, h⟩ := (tm_lost o hk hc u x f g).mp h
    exact ⟨v, x, h⟩
  · rintro ⟨t, x, h⟩
    have h1 := (tm_lost o hk hc _ x f g).mpr ⟨t, rfl, h⟩
    exact ⟨_, x, (ha _ x f g).mpr ⟨_, rfl, h1⟩⟩
def flR (R : List C4) : List Nat := R.map (·.2.2.1)
theorem fl_nd (o : NetOk N) (hk : KdsOk N ks) (hR : Losses N ks R) : (flR R).Nodup := by
  unfold flR List.Nodup
  rw [List.pairwise_map]
  exact List.Pairwise.imp_of_mem (fun {c d} hc hd ne e => ne (losses_uniq o hk hR hd hc e)) hR.nd
theorem fl_lt (o : NetOk N) (hk : KdsOk N ks) (hR : Losses N ks R) : ∀ f ∈ flR R, f < ks.length := fun f hf => by
  obtain ⟨c, hc, rfl⟩ := List.mem_map.mp hf
  exact (lr_lt o hk ((lr_iff hR).mpr ⟨c, hc, rfl, rfl⟩)).1
theorem fl_len (o : NetOk N) (hk : KdsOk N ks) (hR : Losses N ks R) : R.length ≤ ks.length := by
  have h := (fl_nd o hk hR).length_le_of_subset (l₂ := List.range ks.length) fun f hf => List.mem_range.mpr (fl_lt o hk hR f hf)
  rw [List.length_range] at h
  unfold flR at h
  rw [List.length_map] at h
  exact h
theorem srt_strict {g : List Nat} (h : g.Nodup) : (srt g).Pairwise (· < ·) :=
  (List.pairwise_and_iff.mpr ⟨srt_up g, (srt_perm g).nodup_iff.mpr h⟩).imp fun ⟨a, b⟩ => Nat.lt_of_le_of_ne a b
theorem up_one {l m : List Nat} (h1 : l.Pairwise (· < ·)) (h2 : m.Pairwise (· < ·)) (h : ∀ f, f ∈ l ↔ f ∈ m) : l = m := by
  have nd : ∀ {l : List Nat}, l.Pairwise (· < ·) → l.Nodup := fun h => h.imp fun q => Nat.ne_of_lt q
  have hp := (List.perm_ext_iff_of_nodup (nd h1) (nd h2)).mpr h
  have := perm_up (hp.map fun n : Nat => (n : Int)) (by rw [List.pairwise_map]; exact h1.imp fun q => by omega) (by rw [List.pairwise_map]; exact h2.imp fun q => by omega)
  exact List.map_inj_right (fun a b e => by omega) |>.mp this
end
/-- flame by flame who is lost to it, rising -/
structure RbD (N : Net) (ks : Kds) (B : List (List Nat)) : Prop where
  len : B.length = ks.length
  up : ∀ (g : Nat) L, B[g]? = some L → L.Pairwise (· < ·)
  iff : ∀ (g : Nat) L, B[g]? = some L → ∀ f, f ∈ L ↔ LR N ks f g
theorem rb_one {N N' : Net} {ks ks' : Kds} {B B' : List (List Nat)} (h : RbD N ks B) (h' : RbD N' ks' B') (hl : ks'.length = ks.length) (e : ∀ f g, LR N' ks' f g ↔ LR N ks f g) : B' = B := by
  refine List.ext_getElem? fun g => ?_
  by_cases q : g < ks.length
  · have h1 : B[g]? = some (B[g]'(by rw [h.len]; exact q)) := List.getElem?_eq_getElem _
    have h2 : B'[g]? = some (B'[g]'(by rw [h'.len, hl]; exact q)) := List.getElem?_eq_getElem _
    rw [h1, h2, up_one (h'.up g _ h2) (h.up g _ h1) fun f => by rw [h'.iff g _ h2, h.iff g _ h1]; exact e f g]
  · rw [List.getElem?_eq_none (l := B') (by rw [h'.len, hl]; omega), List.getElem?_eq_none (l := B) (by rw [h.len]; omega)]
def llD (L : List Nat) : PyData := .list (L.map fun n : Nat => PyData.int (n : Int))
theorem bag_dx {H : Hp} {c : Addr} {ps : List Addr} {css : List (List Nat)} (b : Bag H c ps css) : Dx [] H (.ref c) (.list (css.map llD)) := by
  have dn : ∀ L : List Nat, DxA [] H (natV L) (L.map fun n : Nat => PyData.int (n : Int)) := fun L => by
    induction L with
    | nil => exact .nil
    | cons n L ih => exact .cons (.int _) ih
  have : ∀ (ps : List Addr) (css : List (List Nat)), ps.length = css.length → (∀ (i : Nat) p g, ps[i]? = some p → css[i]? = some g → H p = some (.lst (natV g))) → DxA [] H (ps.map V.ref) (css.map llD) := by
    intro ps
    induction ps with
    | nil =>
      intro css hl _
      cases css with
      | nil => exact .nil
      | cons g css => simp at hl
    | cons p ps ih =>
      intro css hl h
      cases css with
      | nil => simp at hl
      | cons g css => exact .cons (.lst (by simp) (h 0 p g rfl rfl) (dn g)) (ih css (by simpa using hl) fun i q u hq hu => h (i + 1) q u (by simpa using hq) (by simpa using hu))
  exact .lst (by simp) b.top (this ps css b.len b.at_)
theorem same_ll : ∀ (B : List (List Nat)), B.length ≤ 100 → (∀ L ∈ B, L.length ≤ 100) → (PyData.list (B.map llD)).canLay0 = true ∧ wdB (.list (B.map llD)) = true ∧ (PyData.list (B.map llD)).depth ≤ 7 := by
  intro B hB hL
  have h1 : ∀ L : List Nat, (llD L).canLay0 = true := fun L => all_lay (fun _ => rfl) L
  have h2 : ∀ L : List Nat, (llD L).depth ≤ 1 := fun L => by
    show PyData.depthAll _ + 1 ≤ 1
    have := all_depth (f := fun n : Nat => PyData.int (n : Int)) (n := 0) (fun _ => Nat.le_refl _) L
    omega
  have h3 : ∀ B : List (List Nat), (∀ L ∈ B, L.length ≤ 100) → wdAll (B.map llD) = true := by
    intro B
    induction B with
    | nil => intro _; rfl
    | cons L B ih =>
      intro h
      show (wdB (llD L) && wdAll (B.map llD)) = true
      rw [ih fun M hM => h M (List.mem_cons_of_mem _ hM)]
      have := h L List.mem_cons_self
      have : wdB (llD L) = true := wd_list (by rw [List.length_map]; omega) (wd_map (fun _ => rfl) L)
      rw [this]; rfl
  refine ⟨?_, wd_list (by rw [List.length_map]; omega) (h3 B hL), ?_⟩
  · show PyData.canLayAll0 (B.map llD) = true
    exact all_lay h1 B
  · show PyData.depthAll (B.map llD) + 1 ≤ 7
    have := all_depth (f := llD) (n := 1) h2 B
    omega
/-! ### the rows of those that are lost -/
def flameR : Em.Row → Nat
  | .lost _ _ f _ => f
  | _ => 0
def robR : Em.Row → Nat
  | .lost _ _ _ g => g
  | _ => 0
section
variable {N : Net} {ks : Kds} {t M : Nat}
theorem mt_lost (o : NetOk N) (hk : KdsOk N ks) (x : Nat) : ∃ (g : Nat) (fs : List Nat), (mtW N ks t x).2.filter isLost = fs.map (fun f => Em.Row.lost t x f g) ∧ fs.Nodup := by
  have hn := cm_nd o hk (inv_all o hk t) x
  cases e : leftB N t (stW N ks t) x with
  | some p => exact ⟨p.1, srt (cmW N ks t x), (mt_some (g := p.1) (t0 := p.2) e).2.1, (srt_perm _).nodup_iff.mpr hn⟩
  | none =>
    cases e2 : srt (cmW N ks t x) with
    | nil =>
      have : cmW N ks t x = [] := by
        have := srt_len (cmW N ks t x)
        rw [e2] at this
        exact List.eq_nil_of_length_eq_zero this.symm
      exact ⟨0, [], by rw [mt_nil this]; rfl, List.nodup_nil⟩
    | cons g r => exact ⟨g, r, (mt_none e e2).2.1, by
        have := (srt_perm (cmW N ks t x)).nodup_iff.mpr hn
        rw [e2] at this
        exact (List.nodup_cons.mp this).2⟩
theorem row_lost (o : NetOk N) (hk : KdsOk N ks) {r : Em.Row} (h : r ∈ (rowsW N ks t).filter isLost) : ∃ x f g, r = .lost t x f g ∧ LostAt N ks t x f g := by
  have h0 := (List.mem_filter.mp h).1
  rw [filt_lost o hk] at h
  obtain ⟨l, hl, hr⟩ := List.mem_flatten.mp h
  obtain ⟨x, _, rfl⟩ := List.mem_map.mp hl
  obtain ⟨g, fs, e, _⟩ := mt_lost (t := t) o hk x
  rw [e] at hr
  obtain ⟨f, _, rfl⟩ := List.mem_map.mp hr
  exact ⟨x, f, g, rfl, h0⟩
theorem all_lost (o : NetOk N) (hk : KdsOk N ks) {r : Em.Row} (h : r ∈ (allW N ks M).filter isLost) : ∃ t x f g, t < M ∧ r = .lost t x f g ∧ LostAt N ks t x f g := by
  obtain ⟨h1, h2⟩ := List.mem_filter.mp h
  obtain ⟨t, ht, h3⟩ := allW_mem.mp h1
  obtain ⟨x, f, g, e, h4⟩ := row_lost o hk (List.mem_filter.mpr ⟨h3, h2⟩)
  exact ⟨t, x, f, g, ht, e, h4⟩
theorem lost_pw (o : NetOk N) (hk : KdsOk N ks) : ∀ M, ((allW N ks M).filter isLost).Pairwise fun r r' => flameR r ≠ flameR r'
  | 0 => List.Pairwise.nil
  | M + 1 => by
    rw [allW_succ, List.filter_append]
    refine List.pairwise_append.mpr ⟨lost_pw o hk M, ?_, fun r hr r' hr' => ?_⟩
    · rw [filt_lost o hk, List.pairwise_flatten]
      refine ⟨fun l hl => ?_, ?_⟩
      · obtain ⟨x, _, rfl⟩ := List.mem_map.mp hl
        obtain ⟨g, fs, e, hn⟩ := mt_lost (t := M) o hk x
        rw [e, List.pairwise_map]
        exact hn
      · rw [List.pairwise_map]
        refine sel_up.imp_of_mem fun {x y} hx hy hlt r hr r' hr' e => ?_
        have mem : ∀ {x r}, x ∈ selS N ks M → r ∈ (mtW N ks M x).2.filter isLost → ∃ f g, r = .lost M x f g ∧ LostAt N ks M x f g := fun {x r} hx hr => by
          have hm : r ∈ (rowsW N ks M).filter isLost := by
            rw [filt_lost o hk]
            exact List.mem_flatten.mpr ⟨_, List.mem_map.mpr ⟨x, hx, rfl⟩, hr⟩
          obtain ⟨g, fs, e, _⟩ := mt_lost (t := M) o hk x
          rw [e] at hr
          obtain ⟨f, _, rfl⟩ := List.mem_map.mp hr
          exact ⟨f, g, rfl, (List.mem_filter.mp hm).1⟩
        obtain ⟨f, g, rfl, h1⟩ := mem hx hr
        obtain ⟨f', g', rfl, h2⟩ := mem hy hr'
        have e : f = f' := e
        subst e
        have := (lost_once o hk h1 h2).2.1
        omega
    · obtain ⟨t, x, f, g, ht, rfl, h1⟩ := all_lost o hk hr
      obtain ⟨x', f', g', rfl, h2⟩ := row_lost o hk hr'
      intro e
      have e : f = f' := e
      subst e
      have := (lost_once o hk h1 h2).1
      omega
/-- those that are lost to a flame, as the rows come -/
def flG (g : Nat) (L : List Em.Row) : List Nat := (L.filter fun r => decide (robR r = g)).map flameR
theorem flG_nd (o : NetOk N) (hk : KdsOk N ks) (g : Nat) : (flG g ((allW N ks M).filter isLost)).Nodup := by
  unfold flG List.Nodup
  rw [List.pairwise_map]
  exact (lost_pw o hk M).filter _
theorem flG_iff (o : NetOk N) (hk : KdsOk N ks) (hM : ∀ p ∈ ks, (p.1 : Int) + 2 * totN N < (M : Nat)) (g f : Nat) : f ∈ flG g ((allW N ks M).filter isLost) ↔ LR N ks f g := by
  unfold flG
  rw [List.mem_map]
  constructor
  · rintro ⟨r, hr, rfl⟩
    obtain ⟨h1, h2⟩ := List.mem_filter.mp hr
    obtain ⟨t, x, f, g', _, rfl, h3⟩ := all_lost o hk h1
    have e : g' = g := of_decide_eq_true h2
    subst e
    exact ⟨t, x, h3⟩
  · rintro ⟨t, x, h⟩
    have hlt : t < M := by
      have h1 : ∀ p ∈ ks, (p.1 : Int) ≤ (M : Int) - 1 - 2 * totN N := fun p hp => by have := hM p hp; omega
      have := lost_le o hk h h1
      omega
    exact ⟨.lost t x f g, List.mem_filter.mpr ⟨List.mem_filter.mpr ⟨allW_mem.mpr ⟨t, hlt, h⟩, rfl⟩, decide_eq_true rfl⟩, rfl⟩
theorem flG_succ {g j : Nat} {L : List Em.Row} {r : Em.Row} (h : L[j]? = some r) : flG g (L.take (j + 1)) = flG g (L.take j) ++ if robR r = g then [flameR r] else [] := by
  unfold flG
  rw [List.take_add_one, h, List.filter_append, List.map_append]
  show _ ++ ([r].filter _).map _ = _
  rw [List.filter_cons]
  by_cases e : robR r = g
  · rw [if_pos (decide_eq_true e), if_pos e]; rfl
  · rw [if_neg (fun z => e (of_decide_eq_true z)), if_neg e]; rfl
theorem flG_len (g : Nat) (L : List Em.Row) : (flG g L).length ≤ L.length := by
  unfold flG
  rw [List.length_map]
  exact List.length_filter_le _ _
end
/-- one more list, filled -/
theorem Bag.push {H : Hp} {c : Addr} {ps : List Addr} {css : List (List Nat)} (b : Bag H c ps css) {p : Addr} {g : List Nat} (hp : H p = some (.lst (natV g))) (n : p ∉ c :: ps) : Bag (upd H c (.lst (ps.map V.ref ++ [.ref p]))) c (ps ++ [p]) (css ++ [g]) := by
  have hcp : p ≠ c := fun e => n (by rw [e]; simp)
  refine ⟨by rw [upd_same, List.map_append]; rfl, ?_, by rw [List.length_append, List.length_append, b.len]; rfl, fun i q u hq hu => ?_⟩
  · have h1 := b.nd
    have : (c :: (ps ++ [p])) = (c :: ps) ++ [p] := rfl
    rw [this, List.nodup_append]
    exact ⟨h1, List.nodup_cons.mpr ⟨by simp, List.nodup_nil⟩, fun x hx y hy e => n (by rw [List.mem_singleton.mp hy] at e; rw [← e]; exact hx)⟩
  · by_cases hi : i < ps.length
    · rw [List.getElem?_append_left hi] at hq
      rw [List.getElem?_append_left (by rw [← b.len]; exact hi)] at hu
      have : q ≠ c := fun e => (List.nodup_cons.mp b.nd).1 (e ▸ List.mem_of_getElem? hq)
      rw [upd_ne this]
      exact b.at_ i q u hq hu
    · rw [List.getElem?_append_right (by omega)] at hq
      rw [List.getElem?_append_right (by rw [← b.len]; omega)] at hu
      have e0 : i - ps.length = 0 := by
        have := (List.getElem?_eq_some_iff.mp hq).1
        simp at this
        omega
      rw [e0] at hq
      rw [← b.len, e0] at hu
      cases Option.some.inj hq
      cases Option.some.inj hu
      rw [upd_ne hcp]
      exact hp
theorem rb_len {N : Net} {ks : Kds} {B : List (List Nat)} (o : NetOk N) (hk : KdsOk N ks) (h : RbD N ks B) : ∀ L ∈ B, L.length ≤ ks.length := fun L hL => by
  obtain ⟨g, hg, rfl⟩ := List.getElem_of_mem hL
  have e : B[g]? = some B[g] := List.getElem?_eq_getElem hg
  have nd : (B[g]).Nodup := (h.up g _ e).imp fun q => Nat.ne_of_lt q
  have := nd.length_le_of_subset (l₂ := List.range ks.length) fun f hf => List.mem_range.mpr (lr_lt o hk ((h.iff g _ e f).mp hf)).1
  rw [List.length_range] at this
  exact this
theorem te_gen {t : TE} {σ : L2.St} {H : Hp} {Q : VK} (G : V → Hp → Prop) (hr : ∀ x H', G x H' → Q x H') (h : ∀ Q' : VK, (∀ x H', G x H' → Q' x H') → t σ H Q') : t σ H Q := h Q hr
end Em

namespace Em
open PySem PySem.Spec PyProof.Rows L2 Qt

/-! ### flames at one lamp, each kindled as the one ahead comes back -/
def chN (B : Nat) : Net := [((B : Int), some 0)]
def chK (b0 B m : Nat) : Kds := (List.range m).map fun k => (b0 + (m - 1 - k) * B, 0)
section
variable {B b0 m : Nat}
theorem ch_ok (hB : 1 ≤ B) : NetOk (chN B) :=
  ⟨Nat.le_refl _, by show 1 ≤ 12; decide, fun p hp => by rw [List.mem_singleton.mp hp]; show (1 : Int) ≤ (B : Int); omega, fun p hp y e => by
    rw [List.mem_singleton.mp hp] at e
    cases e
    show 0 < 1
    decide⟩
theorem ch_kok : KdsOk (chN B) (chK b0 B m) := fun p hp => by
  obtain ⟨k, _, rfl⟩ := List.mem_map.mp hp
  show 0 < 1
  decide
theorem ch_len : (chK b0 B m).length = m := by unfold chK; rw [List.length_map, List.length_range]
theorem ch_get {f : Nat} {p : Nat × Nat} : (chK b0 B m)[f]? = some p ↔ f < m ∧ p = (b0 + (m - 1 - f) * B, 0) := by
  unfold chK
  rw [List.getElem?_map]
  by_cases h : f < m
  · rw [List.getElem?_range h]
    constructor
    · intro e
      exact ⟨h, (Option.some.inj e).symm⟩
    · rintro ⟨_, rfl⟩; rfl
  · rw [List.getElem?_eq_none (by rw [List.length_range]; omega)]
    exact ⟨fun e => (by cases e), fun e => absurd e.1 h⟩
theorem ch_path : path (chN B) 0 = [0] := rfl
theorem ch_lap : lapOf (chN B) 0 = B := by
  show ((B : Int) + 0) = B
  omega
theorem ch_way {b t : Int} {z : Nat} : OnWay (chN B) b 0 t z ↔ z = 0 ∧ ∃ j : Nat, t = b + (j : Int) * B := by
  unfold OnWay
  rw [ch_path, ch_lap]
  constructor
  · rintro ⟨j, laps, h1, h2, h3, _⟩
    have hj : j = 0 := by
      have := (List.getElem?_eq_some_iff.mp h1).1
      simp at this
      omega
    subst hj
    refine ⟨(Option.some.inj h1).symm, laps.toNat, ?_⟩
    rw [h2, Int.toNat_of_nonneg h3]
    show b + 0 + _ = _
    omega
  · rintro ⟨rfl, j, rfl⟩
    refine ⟨0, j, rfl, ?_, by omega, .inr (Nat.zero_le _)⟩
    show _ = b + 0 + _
    omega
theorem ch_on {f z : Nat} {t : Int} : On (chN B) (chK b0 B m) f t z ↔ f < m ∧ z = 0 ∧ ∃ i : Nat, m - 1 - f ≤ i ∧ t = ((b0 + i * B : Nat) : Int) := by
  unfold On
  constructor
  · rintro ⟨p, hp, h⟩
    obtain ⟨h1, rfl⟩ := ch_get.mp hp
    obtain ⟨h2, j, h3⟩ := ch_way.mp h
    refine ⟨h1, h2, m - 1 - f + j, by omega, ?_⟩
    rw [h3, Nat.add_mul, Int.natCast_add, Int.natCast_add, Int.natCast_add, Int.natCast_mul j B]
    omega
  · rintro ⟨h1, h2, i, h3, h4⟩
    refine ⟨_, ch_get.mpr ⟨h1, rfl⟩, ch_way.mpr ⟨h2, i - (m - 1 - f), ?_⟩⟩
    have : i * B = (m - 1 - f) * B + (i - (m - 1 - f)) * B := by rw [← Nat.add_mul, Nat.add_sub_cancel' h3]
    rw [h4, this, Int.natCast_add, Int.natCast_add, Int.natCast_add, ← Int.natCast_mul]
    omega
theorem ch_le (hB : 1 ≤ B) {i j : Nat} : b0 + i * B ≤ b0 + j * B ↔ i ≤ j := by
  constructor
  · intro h
    exact Nat.le_of_mul_le_mul_right (by omega) (show 0 < B by omega)
  · intro h
    have := Nat.mul_le_mul_right B h
    omega
theorem ch_lost (hB : 1 ≤ B) : ∀ t x f g, LostAt (chN B) (chK b0 B m) t x f g ↔ x = 0 ∧ f = g + 1 ∧ f < m ∧ t = b0 + (m - 1 - g) * B := by
  have o := ch_ok hB
  have hk := ch_kok (B := B) (b0 := b0) (m := m)
  intro t
  induction t using Nat.strongRecOn with
  | ind t ih =>
    have le := @ch_le B b0 hB
    -- who is alive
    have al : ∀ f, f < m → (Alive (chN B) (chK b0 B m) f t ↔ f = 0 ∨ t ≤ b0 + (m - 1 - (f - 1)) * B) := fun f hf => by
      constructor
      · intro h
        by_cases e : f = 0
        · exact .inl e
        · refine .inr ?_
          rcases Nat.lt_or_ge (b0 + (m - 1 - (f - 1)) * B) t with q | q
          · exact absurd ((ih _ q 0 f (f - 1)).mpr ⟨rfl, by omega, hf, rfl⟩) (h _ q 0 (f - 1))
          · exact q
      · intro h u hu x g hl
        obtain ⟨_, e, _, e2⟩ := (ih u hu x f g).mp hl
        rcases h with h | h
        · omega
        · have : f - 1 = g := by omega
          rw [this] at h
          omega
    -- nobody burns on
    have nst : ∀ i : Nat, t = b0 + i * B → ∀ g t0, ¬ Stay (chN B) (chK b0 B m) t 0 g t0 := fun i hi g t0 hs => by
      obtain ⟨h1, h2, h3, _⟩ := hs
      obtain ⟨_, _, j, _, h4⟩ := ch_on.mp h1
      have e4 : t0 = b0 + j * B := by omega
      have hb : burnOf (chN B) 0 = B := rfl
      rw [hb] at h3
      have h5 : t < t0 + B := by omega
      have h6 : j < i := by
        rcases Nat.lt_or_ge j i with q | q
        · exact q
        · have := (le (i := i) (j := j)).mpr q
          omega
      have h7 := (le (i := j + 1) (j := i)).mpr h6
      rw [Nat.add_mul, Nat.one_mul] at h7
      omega
    intro x f g
    rw [lost_sem o hk (inv_all o hk t)]
    constructor
    · rintro ⟨h1, h2, h3⟩
      obtain ⟨hf, rfl, i, hi, ei⟩ := ch_on.mp h1
      have ei : t = b0 + i * B := by omega
      rcases h3 with ⟨t0, hs⟩ | ⟨_, ⟨hg, hga, hmin⟩, hne⟩
      · exact absurd hs (nst i ei g t0)
      · obtain ⟨hgm, _, j, hj, ej⟩ := ch_on.mp hg
        have ej : t = b0 + j * B := by omega
        have eij : i = j := by
          have h5 := (le (i := i) (j := j)).mp (by omega)
          have h6 := (le (i := j) (j := i)).mp (by omega)
          omega
        subst eij
        have hbest : g ≤ f := hmin f h1 h2
        rcases (al f hf).mp h2 with h5 | h5
        · omega
        · rw [ei] at h5
          have h6 := le.mp h5
          have hgf : f = g + 1 := by omega
          refine ⟨rfl, hgf, hf, ?_⟩
          have : i = m - 1 - g := by omega
          rw [ei, this]
    · rintro ⟨rfl, rfl, hf, ht⟩
      have hgm : g < m := by omega
      refine ⟨ch_on.mpr ⟨hf, rfl, m - 1 - g, by omega, by rw [ht]⟩, (al _ hf).mpr (.inr (by rw [ht]; exact Nat.le_refl _)), .inr ⟨fun ⟨h, t0, hs⟩ => nst _ ht h t0 hs, ⟨ch_on.mpr ⟨hgm, rfl, m - 1 - g, Nat.le_refl _, by rw [ht]⟩, ?_, ?_⟩, by omega⟩⟩
      · refine (al g hgm).mpr ?_
        by_cases e : g = 0
        · exact .inl e
        · refine .inr ?_
          rw [ht]
          exact le.mpr (by omega)
      · intro h hh _
        obtain ⟨hm, _, j, hj, ej⟩ := ch_on.mp hh
        have ej : t = b0 + j * B := by omega
        rw [ht] at ej
        have h1 := le.mp (Nat.le_of_eq ej)
        have h2 := le.mp (Nat.le_of_eq ej.symm)
        omega
theorem ch_lr (hB : 1 ≤ B) (f g : Nat) : LR (chN B) (chK b0 B m) f g ↔ f = g + 1 ∧ f < m := by
  constructor
  · rintro ⟨t, x, h⟩
    obtain ⟨_, h1, h2, _⟩ := (ch_lost hB t x f g).mp h
    exact ⟨h1, h2⟩
  · rintro ⟨h1, h2⟩
    exact ⟨_, 0, (ch_lost hB _ 0 f g).mpr ⟨rfl, h1, h2, rfl⟩⟩
end
theorem lists_dx {H : Hp} : ∀ (ps : List Addr) (css : List (List Nat)), ps.length = css.length → (∀ (i : Nat) p g, ps[i]? = some p → css[i]? = some g → H p = some (.lst (natV g))) → DxA [] H (ps.map V.ref) (css.map llD) := by
  have dn : ∀ L : List Nat, DxA [] H (natV L) (L.map fun n : Nat => PyData.int (n : Int)) := fun L => by
    induction L with
    | nil => exact .nil
    | cons n L ih => exact .cons (.int _) ih
  intro ps
  induction ps with
  | nil =>
    intro css hl _
    cases css with
    | nil => exact .nil
    | cons g css => simp at hl
  | cons p ps ih =>
    intro css hl h
    cases css with
    | nil => simp at hl
    | cons g css => exact .cons (.lst (by simp) (h 0 p g rfl rfl) (dn g)) (ih css (by simpa using hl) fun i q u hq hu => h (i + 1) q u (by simpa using hq) (by simpa using hu))
def rowsB (m : Nat) : List (List Nat) := (List.range (m - 1)).map (fun k => [k + 1]) ++ [[]]
theorem rowsB_len {m : Nat} (h : 2 ≤ m) : (rowsB m).length = m := by
  unfold rowsB
  rw [List.length_append, List.length_map, List.length_range]
  show m - 1 + 1 = m
  omega
theorem rowsB_get {m g : Nat} {L : List Nat} (h : 2 ≤ m) (e : (rowsB m)[g]? = some L) : g < m ∧ L = if g + 1 < m then [g + 1] else [] := by
  have hg : g < m := by
    have := (List.getElem?_eq_some_iff.mp e).1
    rw [rowsB_len h] at this
    exact this
  refine ⟨hg, ?_⟩
  unfold rowsB at e
  by_cases q : g + 1 < m
  · rw [List.getElem?_append_left (by rw [List.length_map, List.length_range]; omega), List.getElem?_map, List.getElem?_range (by omega)] at e
    rw [if_pos q]
    exact (Option.some.inj e).symm
  · rw [List.getElem?_append_right (by rw [List.length_map, List.length_range]; omega), List.length_map, List.length_range, show g - (m - 1) = 0 by omega] at e
    rw [if_neg q]
    exact (Option.some.inj e).symm
theorem ch_rb {B b0 m : Nat} (hB : 1 ≤ B) (hm : 2 ≤ m) : RbD (chN B) (chK b0 B m) (rowsB m) :=
  ⟨by rw [ch_len, rowsB_len hm], fun g L e => by
    obtain ⟨_, rfl⟩ := rowsB_get hm e
    split
    · exact List.pairwise_singleton _ _
    · exact List.Pairwise.nil, fun g L e f => by
    obtain ⟨hg, rfl⟩ := rowsB_get hm e
    rw [ch_lr hB]
    by_cases q : g + 1 < m
    · rw [if_pos q, List.mem_singleton]
      exact ⟨fun z => ⟨z, by omega⟩, fun z => z.1⟩
    · rw [if_neg q]
      exact ⟨fun z => (by cases z), fun z => by omega⟩⟩
theorem ll_one (I : List Nat) (h : I.length ≤ 100) : (llD I).canLay0 = true ∧ wdB (llD I) = true ∧ (llD I).depth ≤ 1 := by
  refine ⟨all_lay (fun _ => rfl) I, wd_list (by rw [List.length_map]; omega) (wd_map (fun _ => rfl) I), ?_⟩
  show PyData.depthAll _ + 1 ≤ 1
  have := all_depth (f := fun n : Nat => PyData.int (n : Int)) (n := 0) (fun _ => Nat.le_refl _) I
  omega
theorem kd_list (L : Kds) (h : L.length ≤ 100) : (PyData.list (L.map kdD)).canLay0 = true ∧ wdB (.list (L.map kdD)) = true ∧ (PyData.list (L.map kdD)).depth ≤ 2 := by
  refine ⟨(same_kd L (by omega)).1, (same_kd L (by omega)).2.1, ?_⟩
  show PyData.depthAll _ + 1 ≤ 2
  have := all_depth (f := kdD) (n := 1) (fun _ => Nat.le_refl _) L
  omega
theorem ll_list (B : List (List Nat)) (h : B.length ≤ 100) (hL : ∀ L ∈ B, L.length ≤ 100) : (PyData.list (B.map llD)).canLay0 = true ∧ wdB (.list (B.map llD)) = true ∧ (PyData.list (B.map llD)).depth ≤ 2 := by
  refine ⟨(same_ll B h hL).1, (same_ll B h hL).2.1, ?_⟩
  show PyData.depthAll _ + 1 ≤ 2
  have := all_depth (f := llD) (n := 1) (fun L => by
    show PyData.depthAll _ + 1 ≤ 1
    have := all_depth (f := fun n : Nat => PyData.int (n : Int)) (n := 0) (fun _ => Nat.le_refl _) L
    omega) B
  omega
theorem same_of : ∀ (ds : List PyData), ds.length < 1000 → (∀ d ∈ ds, d.canLay0 = true ∧ wdB d = true ∧ d.depth ≤ 6) → (PyData.list ds).canLay0 = true ∧ wdB (.list ds) = true ∧ (PyData.list ds).depth ≤ 7 := by
  intro ds hl h
  have h1 : ∀ ds : List PyData, (∀ d ∈ ds, d.canLay0 = true ∧ wdB d = true ∧ d.depth ≤ 6) → PyData.canLayAll0 ds = true ∧ wdAll ds = true ∧ PyData.depthAll ds ≤ 6 := by
    intro ds
    induction ds with
    | nil => intro _; exact ⟨rfl, rfl, Nat.zero_le _⟩
    | cons d ds ih =>
      intro h
      obtain ⟨a, b, c⟩ := h d List.mem_cons_self
      obtain ⟨a2, b2, c2⟩ := ih fun e he => h e (List.mem_cons_of_mem _ he)
      refine ⟨?_, ?_, ?_⟩
      · show (d.canLay0 && PyData.canLayAll0 ds) = true
        rw [a, a2]; rfl
      · show (wdB d && wdAll ds) = true
        rw [b, b2]; rfl
      · show max d.depth (PyData.depthAll ds) ≤ 6
        omega
  obtain ⟨a, b, c⟩ := h1 ds h
  refine ⟨a, wd_list (by omega) b, ?_⟩
  show PyData.depthAll ds + 1 ≤ 7
  omega
end Em

namespace Em
open PySem PySem.Spec PyProof.Rows L2 Qt

/-! ### some flames alone, of more: those that are not there rob none of them, ahead of beat U -/
structure Out (N N' : Net) (ks ks' : Kds) (e : Nat → Nat) (U : Nat) : Prop where
  mono : ∀ f h, f < h → h < ks'.length → e f < e h
  on : ∀ f (t : Int) x, f < ks'.length → (On N' ks' f t x ↔ On N ks (e f) t x)
  burn : ∀ f (t : Int) x, On N' ks' f t x → burnOf N' x = burnOf N x
  no : ∀ t, t < U → ∀ x f g, f < ks'.length → LostAt N ks t x (e f) g → ∃ g1, g1 < ks'.length ∧ g = e g1
section
variable {N N' : Net} {ks ks' : Kds} {e : Nat → Nat} {U : Nat}
theorem Out.inj (P : Out N N' ks ks' e U) {f h : Nat} (hf : f < ks'.length) (hh : h < ks'.length) (q : e f = e h) : f = h := by
  rcases Nat.lt_trichotomy f h with a | a | a
  · have := P.mono _ _ a hh; omega
  · exact a
  · have := P.mono _ _ a hf; omega
theorem Out.le (P : Out N N' ks ks' e U) {f h : Nat} (hf : f < ks'.length) (hh : h < ks'.length) : e f ≤ e h ↔ f ≤ h := by
  rcases Nat.lt_trichotomy f h with a | a | a
  · have := P.mono _ _ a hh; omega
  · subst a; simp
  · have := P.mono _ _ a hf; omega
theorem out_both (o : NetOk N) (hk : KdsOk N ks) (o' : NetOk N') (hk' : KdsOk N' ks') (P : Out N N' ks ks' e U) :
    ∀ t, t ≤ U → (∀ f, f < ks'.length → (Alive N' ks' f t ↔ Alive N ks (e f) t)) ∧ (t < U → ∀ x f g, f < ks'.length → g < ks'.length → (LostAt N' ks' t x f g ↔ LostAt N ks t x (e f) (e g))) := by
  intro t
  induction t using Nat.strongRecOn with
  | ind t ih =>
    intro hU
    have alive : ∀ f, f < ks'.length → (Alive N' ks' f t ↔ Alive N ks (e f) t) := fun f hf => by
      constructor
      · intro h u hu y g hl
        obtain ⟨g1, hg1, rfl⟩ := P.no u (by omega) y f g hf hl
        exact h u hu y g1 (((ih u hu (by omega)).2 (by omega) y f g1 hf hg1).mpr hl)
      · intro h u hu y g hl
        have hg := (lost_num o' hk' hl).2
        exact h u hu y (e g) (((ih u hu (by omega)).2 (by omega) y f g hf hg).mp hl)
    refine ⟨alive, fun hlt x f g hf hg => ?_⟩
    have I' := inv_all o' hk' t
    have I := inv_all o hk t
    have stay : ∀ y h u, h < ks'.length → (Stay N' ks' t y h u ↔ Stay N ks t y (e h) u) := fun y h u hh => by
      constructor
      · rintro ⟨s1, s2, s3, s4⟩
        exact ⟨(P.on _ _ _ hh).mp s1, s2, by rw [← P.burn _ _ _ s1]; exact s3, (alive h hh).mp s4⟩
      · rintro ⟨s1, s2, s3, s4⟩
        have s1' := (P.on _ _ _ hh).mpr s1
        exact ⟨s1', s2, by rw [P.burn _ _ _ s1']; exact s3, (alive h hh).mpr s4⟩
    rw [lost_sem o' hk' I', lost_sem o hk I]
    constructor
    · rintro ⟨l1, l2, l3⟩
      have m1 := (P.on _ _ _ hf).mp l1
      have m2 := (alive f hf).mp l2
      refine ⟨m1, m2, ?_⟩
      rcases l3 with ⟨u, s⟩ | ⟨h1, ⟨b1, b2, b3⟩, h3⟩
      · exact .inl ⟨u, (stay _ _ _ hg).mp s⟩
      · have nh : ¬ Held N ks t x := by
          rintro ⟨h, u, s⟩
          obtain ⟨g1, hg1, rfl⟩ := P.no t hlt x f h hf ((lost_sem o hk I).mpr ⟨m1, m2, .inl ⟨u, s⟩⟩)
          exact h1 ⟨g1, u, (stay _ _ _ hg1).mpr s⟩
        -- who is best of all
        have hbest : Best N ks t x (e g) := by
          refine ⟨(P.on _ _ _ hg).mp b1, (alive g hg).mp b2, fun h hh ah => ?_⟩
          -- the least of all that come
          have : ∃ m, Best N ks t x m := by
            obtain ⟨m, hm, hmin⟩ : ∃ m, (On N ks m t x ∧ Alive N ks m t) ∧ ∀ k, On N ks k t x ∧ Alive N ks k t → m ≤ k := by
              have hex : ∃ k, On N ks k t x ∧ Alive N ks k t := ⟨h, hh, ah⟩
              clear hh ah
              obtain ⟨k, hk1⟩ := hex
              induction k using Nat.strongRecOn with
              | ind k ihk =>
                by_cases q : ∃ j, j < k ∧ On N ks j t x ∧ Alive N ks j t
                · obtain ⟨j, hj, hj2⟩ := q
                  exact ihk j hj hj2
                · refine ⟨k, hk1, fun j hj => ?_⟩
                  rcases Nat.lt_or_ge j k with z | z
                  · exact absurd ⟨j, z, hj⟩ q
                  · exact z
            exact ⟨m, hm.1, hm.2, fun k hk1 hk2 => hmin k ⟨hk1, hk2⟩⟩
          obtain ⟨m, c1, c2, c3⟩ := this
          have hm : ∃ m1, m1 < ks'.length ∧ m = e m1 := by
            by_cases q : m = e f
            · exact ⟨f, hf, q⟩
            · exact P.no t hlt x f m hf ((lost_sem o hk I).mpr ⟨m1, m2, .inr ⟨nh, ⟨c1, c2, c3⟩, q⟩⟩)
          obtain ⟨m1', hm1, rfl⟩ := hm
          have := b3 m1' ((P.on _ _ _ hm1).mpr c1) ((alive m1' hm1).mpr c2)
          have h5 := c3 h hh ah
          have h6 := (P.le hg hm1).mpr this
          omega
        exact .inr ⟨nh, hbest, fun q => h3 (P.inj hg hf q)⟩
    · rintro ⟨l1, l2, l3⟩
      refine ⟨(P.on _ _ _ hf).mpr l1, (alive f hf).mpr l2, ?_⟩
      rcases l3 with ⟨u, s⟩ | ⟨h1, ⟨b1, b2, b3⟩, h3⟩
      · exact .inl ⟨u, (stay _ _ _ hg).mpr s⟩
      · refine .inr ⟨?_, ⟨(P.on _ _ _ hg).mpr b1, (alive g hg).mpr b2, fun h hh ah => ?_⟩, fun q => h3 (by rw [q])⟩
        · rintro ⟨h, u, s⟩
          exact h1 ⟨e h, u, (stay _ _ _ s.1.num).mp s⟩
        · have hn := hh.num
          exact (P.le hg hn).mp (b3 (e h) ((P.on _ _ _ hn).mp hh) ((alive h hn).mp ah))
theorem out_lost (o : NetOk N) (hk : KdsOk N ks) (o' : NetOk N') (hk' : KdsOk N' ks') (P : Out N N' ks ks' e U) {t x f g : Nat} (ht : t < U) (hf : f < ks'.length) : LostAt N ks t x (e f) g ↔ ∃ g1, g1 < ks'.length ∧ g = e g1 ∧ LostAt N' ks' t x f g1 := by
  have h := (out_both o hk o' hk' P t (by omega)).2 ht
  constructor
  · intro hl
    obtain ⟨g1, hg1, rfl⟩ := P.no t ht x f g hf hl
    exact ⟨g1, hg1, rfl, (h x f g1 hf hg1).mpr hl⟩
  · rintro ⟨g1, hg1, rfl, hl⟩
    exact (h x f g1 hf hg1).mp hl
theorem out_lost' (o : NetOk N) (hk : KdsOk N ks) (o' : NetOk N') (hk' : KdsOk N' ks') (P : Out N N' ks ks' e U) {t x f g : Nat} (ht : t < U) (hl : LostAt N' ks' t x f g) : LostAt N ks t x (e f) (e g) := by
  obtain ⟨h1, h2⟩ := lost_num o' hk' hl
  exact (out_lost o hk o' hk' P ht h1).mpr ⟨g, h2, rfl, hl⟩
theorem out_alive (o : NetOk N) (hk : KdsOk N ks) (o' : NetOk N') (hk' : KdsOk N' ks') (P : Out N N' ks ks' e U) {t f : Nat} (ht : t ≤ U) (hf : f < ks'.length) : Alive N' ks' f t ↔ Alive N ks (e f) t := (out_both o hk o' hk' P t ht).1 f hf
end
/-! ### one left out -/
def delK {α : Type} (ks : List α) (r : Nat) : List α := ks.take r ++ ks.drop (r + 1)
theorem del_len {α : Type} {ks : List α} {r : Nat} (h : r < ks.length) : (delK ks r).length = ks.length - 1 := by
  unfold delK
  rw [List.length_append, List.length_take, List.length_drop]
  omega
theorem del_num {α : Type} {ks : List α} {r : Nat} (h : r < ks.length) (f : Nat) : (delK ks r)[f]? = ks[numI r f]? := by
  have hl : (ks.take r).length = r := by rw [List.length_take]; omega
  unfold delK numI
  by_cases q : r ≤ f
  · rw [if_pos q, List.getElem?_append_right (by omega), hl, List.getElem?_drop]
    congr 1
    omega
  · rw [if_neg q, List.getElem?_append_left (by omega), List.getElem?_take_of_lt (by omega)]
theorem del_ok {N : Net} {ks : Kds} {r : Nat} (hk : KdsOk N ks) : KdsOk N (delK ks r) := fun p hp => by
  unfold delK at hp
  rcases List.mem_append.mp hp with h | h
  · exact hk p (List.mem_of_mem_take h)
  · exact hk p (List.mem_of_mem_drop h)
def dnN (r f : Nat) : Nat := if r < f then f - 1 else f
theorem dn_num (r f : Nat) : dnN r (numI r f) = f := by
  unfold dnN numI
  split <;> split <;> omega
theorem num_dn {r f : Nat} (h : f ≠ r) : numI r (dnN r f) = f := by
  unfold dnN numI
  split <;> split <;> omega
theorem num_lt {r f n : Nat} (hr : r < n) : numI r f < n ↔ f < n - 1 := by
  unfold numI
  split <;> omega
theorem dn_lt {r f n : Nat} (hr : r < n) (hf : f < n) (h : f ≠ r) : dnN r f < n - 1 := by
  unfold dnN
  split <;> omega
def dn4 (r : Nat) (c : C4) : C4 := (c.1, c.2.1, dnN r c.2.2.1, dnN r c.2.2.2)
section
variable {N : Net} {ks : Kds} {r : Nat}
theorem del_on (hr : r < ks.length) (f : Nat) (t : Int) (x : Nat) : On N (delK ks r) f t x ↔ On N ks (numI r f) t x := by
  unfold On
  rw [del_num hr]
theorem del_out (o : NetOk N) (hk : KdsOk N ks) (hr : r < ks.length) {U : Nat} (hno : ∀ t, t < U → ∀ x f, ¬ LostAt N ks t x f r) : Out N N ks (delK ks r) (numI r) U :=
  ⟨fun f h l _ => by
      have h1 := numI_le (a := r) (f := h) (g := f)
      have h2 := numI_le (a := r) (f := f) (g := h)
      omega, fun f t x _ => del_on hr f t x, fun f t x _ => rfl, fun t ht x f g _ hl => by
    rcases numI_or r g with rfl | ⟨g1, rfl⟩
    · exact absurd hl (hno t ht x _)
    · refine ⟨g1, ?_, rfl⟩
      rw [del_len hr]
      exact (num_lt hr).mp (lost_num o hk hl).2⟩
theorem del_losses (o : NetOk N) (hk : KdsOk N ks) (hr : r < ks.length) (p : Int → Bool) (hno : ∀ t : Nat, p t = true → ∀ u, u ≤ t → ∀ x f, ¬ LostAt N ks u x f r) {R R' : List C4} (hR : Losses N ks R) (hR' : Losses N (delK ks r) R') :
    (R'.filter fun c => p c.1).Perm ((R.filter fun c => p c.1 && decide (c.2.2.1 ≠ r)).map (dn4 r)) := by
  have hk' := del_ok (r := r) hk
  have out : ∀ t : Nat, p t = true → Out N N ks (delK ks r) (numI r) (t + 1) := fun t ht => del_out o hk hr fun u hu => hno t ht u (by omega)
  refine (List.perm_ext_iff_of_nodup (hR'.nd.sublist List.filter_sublist) ?_).mpr fun c => ?_
  · rw [List.Nodup, List.pairwise_map]
    refine (List.Pairwise.and_mem.mp (hR.nd.sublist List.filter_sublist)).imp fun {c d} h e => ?_
    obtain ⟨hc, hd, hne⟩ := h
    obtain ⟨hc1, hc2⟩ := List.mem_filter.mp hc
    obtain ⟨hd1, hd2⟩ := List.mem_filter.mp hd
    rw [Bool.and_eq_true, decide_eq_true_iff] at hc2 hd2
    obtain ⟨t, e1, l1⟩ := (hR.iff c).mp hc1
    obtain ⟨t', e1', l1'⟩ := (hR.iff d).mp hd1
    have n1 : c.2.2.2 ≠ r := fun z => hno t (e1 ▸ hc2.1) t (Nat.le_refl _) _ _ (z ▸ l1)
    have n2 : d.2.2.2 ≠ r := fun z => hno t' (e1' ▸ hd2.1) t' (Nat.le_refl _) _ _ (z ▸ l1')
    obtain ⟨c1, c2, c3, c4⟩ := c
    obtain ⟨d1, d2, d3, d4⟩ := d
    have q1 := congrArg (·.1) e
    have q2 := congrArg (·.2.1) e
    have q3 := congrArg (numI r ·.2.2.1) e
    have q4 := congrArg (numI r ·.2.2.2) e
    simp only [dn4] at q1 q2 q3 q4
    rw [num_dn hc2.2, num_dn hd2.2] at q3
    rw [num_dn n1, num_dn n2] at q4
    simp only at q3 q4
    exact hne (by rw [q1, q2, q3, q4])
  · rw [List.mem_filter, hR'.iff, List.mem_map]
    constructor
    · rintro ⟨⟨t, e, hl⟩, hp⟩
      have ht : p t = true := e ▸ hp
      have := out_lost' o hk o hk' (out t ht) (Nat.lt_succ_self t) hl
      refine ⟨(c.1, c.2.1, numI r c.2.2.1, numI r c.2.2.2), List.mem_filter.mpr ⟨(hR.iff _).mpr ⟨t, e, this⟩, ?_⟩, ?_⟩
      · rw [Bool.and_eq_true, decide_eq_true_iff]
        exact ⟨hp, numI_ne _ _⟩
      · show (c.1, c.2.1, dnN r (numI r c.2.2.1), dnN r (numI r c.2.2.2)) = c
        rw [dn_num, dn_num]
    · rintro ⟨d, hd, rfl⟩
      obtain ⟨hd1, hd2⟩ := List.mem_filter.mp hd
      rw [Bool.and_eq_true, decide_eq_true_iff] at hd2
      obtain ⟨t, e, hl⟩ := (hR.iff d).mp hd1
      have ht : p t = true := e ▸ hd2.1
      have hf := (lost_num o hk hl).1
      have hlt : dnN r d.2.2.1 < (delK ks r).length := by rw [del_len hr]; exact dn_lt hr hf hd2.2
      rw [show d.2.2.1 = numI r (dnN r d.2.2.1) from (num_dn hd2.2).symm] at hl
      obtain ⟨g1, _, e2, hl2⟩ := (out_lost o hk o hk' (out t ht) (Nat.lt_succ_self t) hlt).mp hl
      refine ⟨⟨t, e, ?_⟩, hd2.1⟩
      show LostAt N (delK ks r) t d.2.1 (dnN r d.2.2.1) (dnN r d.2.2.2)
      rw [e2, dn_num]
      exact hl2
end
/-! ### the kindlings but those of these flames -/
def keepP (ks : Kds) (F : List Nat) (f : Nat) : Option (Nat × Nat) := if f ∈ F then none else ks[f]?
def keepK (ks : Kds) (F : List Nat) : Kds := (List.range ks.length).filterMap (keepP ks F)
theorem keep_fm {β : Type} (f : Nat → Option β) (i : Nat) : (List.range (i + 1)).filterMap f = (List.range i).filterMap f ++ (match f i with | some x => [x] | none => []) := by
  rw [List.range_succ, List.filterMap_append]
  cases e : f i with
  | none => simp [e]
  | some x => simp [e]
theorem keep_len (ks : Kds) (F : List Nat) : (keepK ks F).length ≤ ks.length := by
  unfold keepK
  exact Nat.le_trans (List.length_filterMap_le _ _) (by rw [List.length_range]; omega)
theorem range_get {α : Type} : ∀ l : List α, (List.range l.length).filterMap (fun f => l[f]?) = l
  | [] => rfl
  | x :: l => by
    rw [List.length_cons, List.range_succ_eq_map, List.filterMap_cons, List.filterMap_map]
    show x :: (List.range l.length).filterMap (fun f => l[f]?) = x :: l
    rw [range_get l]
theorem fm_congr {α β : Type} {f g : α → Option β} : ∀ {l : List α}, (∀ x ∈ l, f x = g x) → l.filterMap f = l.filterMap g
  | [], _ => rfl
  | x :: l, h => by
    rw [List.filterMap_cons, List.filterMap_cons, h x List.mem_cons_self, fm_congr fun y hy => h y (List.mem_cons_of_mem _ hy)]
theorem keep_one {ks : Kds} {r : Nat} (hr : r < ks.length) : keepK ks [r] = delK ks r := by
  have e : keepK ks [r] = (List.range ks.length).filterMap (fun f => if f = r then none else ks[f]?) := by
    unfold keepK
    congr 1
    funext f
    unfold keepP
    simp
  rw [e]
  unfold delK
  have e2 : List.range ks.length = List.range r ++ r :: (List.range (ks.length - (r + 1))).map (· + (r + 1)) := by
    refine List.ext_getElem? fun i => ?_
    by_cases h1 : i < ks.length
    · rw [List.getElem?_range h1]
      rcases Nat.lt_trichotomy i r with h | h | h
      · rw [List.getElem?_append_left (by rw [List.length_range]; exact h), List.getElem?_range h]
      · rw [List.getElem?_append_right (by rw [List.length_range]; omega), List.length_range, h, Nat.sub_self]; rfl
      · rw [List.getElem?_append_right (by rw [List.length_range]; omega), List.length_range, show i - r = (i - r - 1) + 1 by omega, List.getElem?_cons_succ, List.getElem?_map, List.getElem?_range (by omega)]
        show some i = some (i - r - 1 + (r + 1))
        congr 1
        omega
    · rw [List.getElem?_eq_none (by rw [List.length_range]; omega), List.getElem?_eq_none]
      rw [List.length_append, List.length_range, List.length_cons, List.length_map, List.length_range]
      omega
  rw [e2, List.filterMap_append, List.filterMap_cons, if_pos rfl, List.filterMap_map]
  congr 1
  · have h1 := range_get (ks.take r)
    rw [List.length_take, Nat.min_eq_left (by omega)] at h1
    rw [← h1]
    refine fm_congr fun f hf => ?_
    have := List.mem_range.mp hf
    rw [if_neg (by omega), List.getElem?_take_of_lt this]
  · have h1 := range_get (ks.drop (r + 1))
    rw [List.length_drop] at h1
    rw [← h1]
    refine fm_congr fun f hf => ?_
    show (if f + (r + 1) = r then none else ks[f + (r + 1)]?) = _
    rw [if_neg (by omega), List.getElem?_drop]
    congr 1
    omega
end Em

namespace Em
open PySem PySem.Spec PyProof.Rows L2 Qt

/-! ### comprehensions that leave some parts out -/
section
variable {α β : Type} {K : PySem.W.Frag} {g : TG} {tt : TT} {te : TE} {vs : List Nat} {σ : L2.St} {H1 : Hp} {D : Addr} {Qd : Hp → Prop}
theorem take_fm_succ {A : List α} {h : α → Option β} {i : Nat} {z : α} (hz : A[i]? = some z) : (A.take (i + 1)).filterMap h = (A.take i).filterMap h ++ (h z).toList := by
  rw [List.take_add_one, hz, List.filterMap_append]
  show _ ++ [z].filterMap h = _
  rw [List.filterMap_cons]
  cases h z <;> rfl
/-- of a list of tuples (or numbers) -/
theorem lcf_list {l : Addr} {xs : List V} (A : List α) (dA : α → PyData) (dB : β → PyData) (h : α → Option β) (hl : H1 l = some (.lst xs)) (hxs : TuA H1 xs (A.map dA)) (nD : H1 D = none) (hA : A.length ≤ 1000000)
    (hs : ∀ (i : Nat) (z : α) (x : V) (H : Hp) (Q : V → Hp → Prop) (R : Hp → Prop), A[i]? = some z → xs[i]? = some x → Tu H x (dA z) → Kp [] H1 H → (∀ w y H4, h z = some w → Kp [] H H4 → Tu H4 y (dB w) → Q y H4) → (∀ H4, h z = none → Kp [] H H4 → R H4) →
      g x (wipe σ vs) H fun σ2 H2 => wipe σ2 vs = wipe σ vs ∧ tt σ2 H2 fun b H3 => if b = true then te σ2 H3 Q else R H3)
    (hd : ∀ ws H, H D = some (.lst ws) → TuA H ws ((A.filterMap h).map dB) → Kp [] H1 H → Qd H) :
    ∃ W : Nat → Nat → Hp → Prop, (∃ m, W 0 m (upd H1 D (.lst []))) ∧ ∀ i m H, W i m H →
      ((Itl K l).stop i H ∧ Qd H) ∨ ((Itl K l).go i H ∧ ∃ Nx : Hp → Prop, (∀ H', Nx H' → ∃ m', m' < m ∧ W (i + 1) m' H') ∧ ∀ x H', (Itl K l).yld i H x H' → g x (wipe σ vs) H' fun σ2 H2 => wipe σ2 vs = wipe σ vs ∧ tt σ2 H2 fun b H3 =>
        if b = true then te σ2 H3 fun y H4 => ∃ acc, H4 D = some (.lst acc) ∧ acc.length < sizeLine ∧ Nx (upd H4 D (.lst (acc ++ [y]))) else Nx H3) := by
  have lx : xs.length = A.length := by rw [hxs.len, List.length_map]
  have sz : 1000000 < sizeLine := by decide
  refine lc_list (xs := xs) (fun i H' => ∃ ws, H' D = some (.lst ws) ∧ TuA H' ws (((A.take i).filterMap h).map dB) ∧ Kp [] H1 H') ⟨[], upd_same, .nil, Kp.new nD⟩ (fun i H' _ hP => ?_) (fun i x H' hx1 hP => ?_) (fun H2 hP => ?_)
  · obtain ⟨_, _, _, k⟩ := hP
    exact SqL.of (k.lst (by simp) hl)
  · obtain ⟨ws, hD, hws, k⟩ := hP
    obtain ⟨d, g1, g2⟩ := (hxs.kt k.kt0).get hx1
    obtain ⟨z, hz, rfl⟩ := mapd_get g1
    refine hs i z x H' _ _ hz hx1 g2 k (fun w y H4 hw k4 hy => ?_) (fun H4 hn k4 => ?_)
    · have hD4 := k4.lst (by simp) hD
      have tput : Kt H4 (upd H4 D (.lst (ws ++ [y]))) := Kt.put hD4 fun _ z => by cases z
      have hwl : ws.length ≤ 1000000 := by
        rw [hws.len, List.length_map]
        refine Nat.le_trans (List.length_filterMap_le _ _) ?_
        rw [List.length_take]
        omega
      refine ⟨ws, hD4, by omega, ws ++ [y], upd_same, ?_, Kp.drop nD ((k.tr k4).of0.tr (Kp.put (by simp) hD4 fun ps z => by cases z))⟩
      rw [take_fm_succ hz, hw, List.map_append]
      exact ((hws.kt k4.kt0).kt tput).app (.cons (hy.kt tput) .nil)
    · refine ⟨ws, k4.lst (by simp) hD, ?_, k.tr k4⟩
      rw [take_fm_succ hz, hn]
      show TuA _ _ ((_ ++ []).map dB)
      rw [List.append_nil]
      exact hws.kt k4.kt0
  · obtain ⟨ws, hD, hws, k⟩ := hP
    rw [lx, List.take_length] at hws
    exact hd ws H2 hD hws k
end
theorem fm_filter {α : Type} {p : α → Bool} {f : α → Option α} (h1 : ∀ x, p x = true → f x = some x) (h2 : ∀ x, p x = false → f x = none) : ∀ l : List α, l.filterMap f = l.filter p
  | [] => rfl
  | x :: l => by
    rw [List.filterMap_cons, List.filter_cons, fm_filter h1 h2 l]
    cases e : p x with
    | true => rw [h1 x e, if_pos rfl]
    | false => rw [h2 x e, if_neg (by decide)]
/-! ### the losses of the great net; the losses by a walk -/
def gr4 (c d : Nat) (z : C4) : C4 := (z.1 * c + d, z.2.1, z.2.2.1, z.2.2.2)
section
variable {N : Net} {ks : Kds} {c d : Nat}
theorem gr4_inj (hc : 1 ≤ c) {u v : C4} (h : gr4 c d u = gr4 c d v) : u = v := by
  obtain ⟨u1, u2, u3, u4⟩ := u
  obtain ⟨v1, v2, v3, v4⟩ := v
  have h1 := congrArg (·.1) h
  have h2 := congrArg (·.2) h
  simp only [gr4] at h1 h2
  rw [Int.eq_of_mul_eq_mul_right (show (c : Int) ≠ 0 by omega) (show u1 * (c : Int) = v1 * c by omega)]
  cases h2
  rfl
theorem great_lost (o : NetOk N) (hk : KdsOk N ks) (hc : 1 ≤ c) (t' x f g : Nat) : LostAt (tmN N c) (shK d (tmK ks c)) t' x f g ↔ ∃ t, t' = t * c + d ∧ LostAt N ks t x f g := by
  have o' := tmN_ok (N := N) o hc
  have hk' : KdsOk (tmN N c) (tmK ks c) := tmK_ok hk
  have A : Late (tmN N c) [] (tmK ks c) 0 d 0 := ⟨fun p _ => Nat.zero_le _, fun p h => (by cases h), fun h => absurd rfl h, fun h => absurd rfl h⟩
  have ha := la_all o' (E := []) hk' A t' x f g
  have ep : ∀ u, putN 0 d u = u + d := fun u => if_pos (Nat.zero_le _)
  constructor
  · intro h
    obtain ⟨u, e, h⟩ := ha.mp h
    obtain ⟨v, e2, h⟩ := (tm_lost o hk hc u x f g).mp h
    exact ⟨v, by rw [e, ep, e2], h⟩
  · rintro ⟨t, e, h⟩
    exact ha.mpr ⟨t * c, by rw [ep, e], (tm_lost o hk hc _ x f g).mpr ⟨t, rfl, h⟩⟩
theorem great_srt (hc : 1 ≤ c) {R : List C4} (h : SrtC R) : SrtC (R.map (gr4 c d)) := by
  unfold SrtC
  rw [List.pairwise_map]
  refine List.Pairwise.imp (fun {u v} h => ?_) h
  obtain ⟨d1, d2, d3, d4⟩ := u
  obtain ⟨e1, e2, e3, e4⟩ := v
  have h : lexL (c4L (e1, e2, e3, e4)) (c4L (d1, d2, d3, d4)) = false := h
  show lexL (c4L (e1 * c + d, e2, e3, e4)) (c4L (d1 * c + d, d2, d3, d4)) = false
  unfold c4L at h ⊢
  simp only at h ⊢
  rw [lexL_cons] at h ⊢
  by_cases q : e1 = d1
  · rw [if_pos q] at h
    rw [if_pos (by rw [q])]
    exact h
  · rw [if_neg q] at h
    have q2 : ¬ e1 * (c : Int) + d = d1 * c + d := fun z => q (Int.eq_of_mul_eq_mul_right (show (c : Int) ≠ 0 by omega) (by omega))
    rw [if_neg q2]
    have := of_decide_eq_false h
    refine decide_eq_false fun z => this ?_
    exact Int.lt_of_mul_lt_mul_right (show e1 * (c : Int) < d1 * c by omega) (by omega)
theorem great_losses (o : NetOk N) (hk : KdsOk N ks) (hc : 1 ≤ c) {R : List C4} (hR : Losses N ks R) : Losses (tmN N c) (shK d (tmK ks c)) (R.map (gr4 c d)) := by
  refine ⟨great_srt hc hR.srt, ?_, fun z => ?_⟩
  · rw [List.Nodup, List.pairwise_map]
    exact hR.nd.imp fun h e => h (gr4_inj hc e)
  · rw [List.mem_map]
    constructor
    · rintro ⟨e, he, rfl⟩
      obtain ⟨t, e1, h⟩ := (hR.iff e).mp he
      refine ⟨t * c + d, ?_, (great_lost o hk hc _ _ _ _).mpr ⟨t, rfl, h⟩⟩
      show e.1 * (c : Int) + d = _
      rw [e1, Int.natCast_add, Int.natCast_mul]
    · rintro ⟨t', e, h⟩
      obtain ⟨t, rfl, h2⟩ := (great_lost o hk hc t' _ _ _).mp h
      obtain ⟨z1, z2, z3, z4⟩ := z
      simp only at e h2
      refine ⟨((t : Int), z2, z3, z4), (hR.iff _).mpr ⟨t, rfl, h2⟩, ?_⟩
      show ((t : Int) * c + d, z2, z3, z4) = _
      rw [e, Int.natCast_add, Int.natCast_mul]
def rowC : Em.Row → C4
  | .lost t x f g => ((t : Int), x, f, g)
  | _ => (0, 0, 0, 0)
theorem walk_losses (o : NetOk N) (hk : KdsOk N ks) {M : Nat} (hM : ∀ p ∈ ks, (p.1 : Int) + 2 * totN N < (M : Nat)) {R : List C4} (hs : SrtC R) (hp : R.Perm (((allW N ks M).filter isLost).map rowC)) : Losses N ks R := by
  refine ⟨hs, hp.nodup_iff.mpr ?_, fun z => ?_⟩
  · rw [List.Nodup, List.pairwise_map]
    refine (List.Pairwise.and_mem.mp (lost_pw o hk M)).imp fun {r r'} h e => ?_
    obtain ⟨h1, h2, hne⟩ := h
    obtain ⟨t, x, f, g, _, rfl, _⟩ := all_lost o hk h1
    obtain ⟨t', x', f', g', _, rfl, _⟩ := all_lost o hk h2
    exact hne (congrArg (·.2.2.1) e)
  · rw [hp.mem_iff, List.mem_map]
    constructor
    · rintro ⟨r, hr, rfl⟩
      obtain ⟨t, x, f, g, _, rfl, h⟩ := all_lost o hk hr
      exact ⟨t, rfl, h⟩
    · rintro ⟨t, e, h⟩
      have hlt : t < M := by
        have h1 : ∀ p ∈ ks, (p.1 : Int) ≤ (M : Int) - 1 - 2 * totN N := fun p hp => by have := hM p hp; omega
        have := lost_le o hk h h1
        omega
      refine ⟨.lost t z.2.1 z.2.2.1 z.2.2.2, List.mem_filter.mpr ⟨allW_mem.mpr ⟨t, hlt, h⟩, rfl⟩, ?_⟩
      obtain ⟨z1, z2, z3, z4⟩ := z
      simp only at e
      rw [e]
      rfl
theorem losses_len (o : NetOk N) (hk : KdsOk N ks) {R : List C4} (hR : Losses N ks R) : R.length ≤ ks.length := by
  have h := (fl_nd o hk hR).length_le_of_subset (l₂ := List.range ks.length) fun f hf => by
    obtain ⟨z, hz, rfl⟩ := List.mem_map.mp hf
    obtain ⟨t, _, h⟩ := (hR.iff z).mp hz
    exact List.mem_range.mpr (lost_num o hk h).1
  unfold flR at h
  rw [List.length_map, List.length_range] at h
  exact h
theorem shK_del {r : Nat} : shK d (tmK (delK ks r) c) = delK (shK d (tmK ks c)) r := by
  unfold shK tmK delK
  rw [List.map_append, List.map_append, List.map_take, List.map_drop, List.map_take, List.map_drop]
end
theorem cutLo {us : List V} {i : Nat} (h : i ≤ us.length) : cutV us none (some (i : Int)) = us.take i := by
  unfold cutV
  rw [show HT.sIx us.length us.length (some (i : Int)) = min i us.length from HT.sIx_nat _ _ i, HT.sIx_none, Nat.min_eq_left h, Nat.sub_zero, List.drop_zero]
theorem cutHi {us : List V} {i : Nat} (h : i ≤ us.length) : cutV us (some (i : Int)) none = us.drop i := by
  unfold cutV
  rw [show HT.sIx us.length 0 (some (i : Int)) = min i us.length from HT.sIx_nat _ _ i, HT.sIx_none, Nat.min_eq_left h, List.take_of_length_le (by rw [List.length_drop]; exact Nat.le_refl _)]
theorem TuA.takeF {H : Hp} : ∀ (n : Nat) {vs : List V} {ds : List PyData}, TuA H vs ds → TuA H (vs.take n) (ds.take n)
  | 0, _, _, _ => .nil
  | n + 1, _, _, .nil => .nil
  | n + 1, _, _, .cons h t => .cons h (TuA.takeF n t)
theorem TuA.dropF {H : Hp} : ∀ (n : Nat) {vs : List V} {ds : List PyData}, TuA H vs ds → TuA H (vs.drop n) (ds.drop n)
  | 0, _, _, h => h
  | n + 1, _, _, .nil => .nil
  | n + 1, _, _, .cons h t => TuA.dropF n t
end Em

namespace Qt
open PySem PySem.Spec PyProof.Rows L2

/-! ### a generator expression over a range -/
/-- a thing that a generator goes over, v, of the values xs -/
structure SrcV (pr : Program) (w : World) (h1 : Heap) (v : Value) (xs : List V) (o : Obj) (fp : List Addr) (Pf : Nat → Value → Prop) (St : Nat → Heap → Prop) : Prop where
  iter : ∀ (A : Around) (E Q : Value → Shared → Prop) (s : Shared), s.heap = h1 → Q (.ref h1.objs.size) { s with heap := h1.push o } → wpAny (model pr w) A (pyIter v) Q E s
  walks : ∀ (A : Around), A.handled = none → Walks pr w A h1.objs.size (h1.objs.size :: fp) [h1.objs.size] xs.length Pf St
  fplt : ∀ b ∈ fp, b < h1.objs.size ∧ ∃ ob, h1.get? b = some ob ∧ ob.cls ≠ .none
  st0 : ∀ g : Heap, (∀ b u, (b ∈ fp ∨ b = h1.objs.size) → (h1.push o).get? b = some u → g.get? b = some u) → St 0 g
  item : ∀ i u, Pf i u → ∃ xv, xs[i]? = some xv ∧ RelV xv u
theorem src_rng {pr : Program} {w : World} {h1 : Heap} {r : Addr} {lo hi : Int} {t u v : Tok} (hr : IsRange h1 r lo hi 1 t u v) (h1_ : -(2 ^ 62) ≤ lo) (h2 : lo < 2 ^ 62) (h3 : -(2 ^ 62) ≤ hi) (h4 : hi < 2 ^ 62) :
    ∃ o Pf St, SrcV pr w h1 (.ref r) ((List.range (hi - lo).toNat).map fun i : Nat => V.int (lo + (i : Nat))) o [] Pf St := by
  refine ⟨{ cls := .type "range_iterator", data := .fields #[rawInt lo, rawInt (Builtin.Range.rangeSize lo hi 1), rawInt 1] }, fun i v => i < (hi - lo).toNat ∧ ∃ tk, v = .int (lo + (i : Nat) * 1) tk, fun i h => IsRangeIter h h1.objs.size (lo + (i : Nat) * 1) ((((hi - lo).toNat : Nat) : Int) - (i : Nat)) 1, fun A E Q s es h => ?_, fun A hA => ?_, fun b hb => (by cases hb), fun g k => ?_, fun i u hu => ?_⟩
  · subst es
    exact wpAny_pyIter_range hr (small_one h1_ h2 h3 h4) h
  · rw [List.length_map, List.length_range]
    exact (Walks.range hA _ lo 1 (hi - lo).toNat).bound
  · have e1 : lo + ((0 : Nat) : Int) * 1 = lo := by simp
    have e2 : (((hi - lo).toNat : Nat) : Int) - ((0 : Nat) : Int) = Builtin.Range.rangeSize lo hi 1 := by rw [rangeSize_one]; split <;> omega
    show IsRangeIter _ _ (lo + ((0 : Nat) : Int) * 1) ((((hi - lo).toNat : Nat) : Int) - ((0 : Nat) : Int)) 1
    rw [e1, e2]
    exact k _ _ (.inr rfl) (Heap.get?_push_size _ rfl)
  · obtain ⟨hi_, tk, rfl⟩ := hu
    refine ⟨V.int (lo + (i : Nat)), ?_, ⟨tk, ?_⟩⟩
    · rw [List.getElem?_map, List.getElem?_range hi_]; rfl
    · rw [Int.mul_one]
/-- an expression that makes a thing to go over -/
def PSr (X : Cx) (e : Expr) (t : L2.St → Hp → (List V → Hp → Prop) → Prop) : Prop :=
  ∀ (pins : List (Addr × Obj)) (s : Shared) (σ : L2.St) (H : Hp) (Q : List V → Hp → Prop), Inv X pins σ H s → t σ H Q →
    wpAny (model X.prog X.w) X.A (eval e X.env) (fun x s' => ∃ xs o fp Pf St H', SrcV X.prog X.w s'.heap x xs o fp Pf St ∧ Inv X pins σ H' s' ∧ Q xs H') X.xe s
def tSrR (tr : L2.St → Hp → (Int → Int → Hp → Prop) → Prop) : L2.St → Hp → (List V → Hp → Prop) → Prop := fun σ H Q => tr σ H fun lo hi H1 => (-(2 ^ 62) ≤ lo ∧ lo < 2 ^ 62 ∧ -(2 ^ 62) ≤ hi ∧ hi < 2 ^ 62) ∧ Q ((List.range (hi - lo).toNat).map fun i : Nat => V.int (lo + (i : Nat))) H1
theorem psr_rng {X : Cx} {e : Expr} {tr : L2.St → Hp → (Int → Int → Hp → Prop) → Prop} (h : PRg X e tr) : PSr X e (tSrR tr) := fun pins s σ H Q I q => by
  refine thn (h pins s σ H _ I q) fun x s' hx => ?_
  obtain ⟨r, a, b, t, u, v, H', rfl, hr, I', ⟨b1, b2, b3, b4⟩, q'⟩ := hx
  obtain ⟨o, Pf, St, S⟩ := src_rng (pr := X.prog) (w := X.w) hr b1 b2 b3 b4
  exact ⟨_, o, [], Pf, St, H', S, I', q'⟩

section
variable {X : Cx} {pins : List (Addr × Obj)} {σ : L2.St} {H : Hp} {s : Shared}
theorem gen_madeS {c P : Addr} {elt iter : Expr} {x : Str} {px gpos : Pos} {scope : Scope} {te : L2.St → Hp → (List V → Hp → Prop) → Prop} {k : Nat} {Z : Value → Shared → Prop} {R : List V → List Bool → Hp → Prop}
    (rm : Room (k + 2) X.A) (TB : GxR.TabB X.base X.mg c P) (hcode : X.env.code = .ref c) (GS : GxR.GenS X.env scope x) (hi : PSr X iter te)
    (hs : ∀ v, genFold iter X.env v = pure v) (I : Inv X pins σ H s)
    (h : te σ H fun xs H1 => ∃ (bs : List Bool) (caps : Nm), GxR.TabG H1 P ∧ Caps X scope x σ caps ∧ Elt X (3 * k) scope x elt caps (wipe H1 P) xs bs ∧ R xs bs H1)
    (hZ : ∀ xs bs H1 g s5, R xs bs H1 → Made X pins σ H1 P xs bs g s5 → Z (.ref g) s5) :
    wpAny (model X.prog X.w) X.A (eval (.GeneratorExp elt [⟨.Name x px, iter, [], 0⟩] scope gpos) X.env) Z X.xe s := by
  have hdp := rm.dp
  refine wpAny_GeneratorExp_walksQD rm.hd GS.co (closure_ok GS.free) GS.cell GS.dot GS.loc GS.kind rm.depth ?_ hs
  refine thn (hi pins s σ H _ I h) fun xv s1 hx => ?_
  obtain ⟨xs, o, fpv, Pf, St, H1, S, I1, bs, caps, ⟨ps, hP, htr⟩, hcap, hel, hR⟩ := hx
  have hPs : s1.heap.get? P = some { cls := .none, data := .fields ps } := I1.hok P _ hP
  have hPlt : P < s1.heap.objs.size := Heap.lt_size hPs
  have adP : ∀ b ∈ fpv, b ≠ P := fun b hb z => by
    obtain ⟨_, ob, e, ne⟩ := S.fplt b hb
    rw [z, hPs] at e
    cases e
    exact ne rfl
  refine S.iter _ _ _ _ rfl ?_
  have push_ok : ∀ b u, s1.heap.get? b = some u → (s1.heap.push o).get? b = some u := fun b u e => Heap.get?_push_of_some _ e
  have hPo := push_ok P _ hPs
  have lim2 : (s1.heap.push o).NoLimit := I1.nolimit.push o
  have cd : PySem.W.CodeHd (s1.heap.push o) c P := TB.code.keeps fun b u e => push_ok b u (I1.bk b u e)
  have go : ∀ (code : Value) (h3 : Heap) (tk : Nat) (ps' : Array Value), Heap.ExtBut P (s1.heap.push o) h3 → (s1.heap.push o).objs.size ≤ h3.objs.size → h3.get? P = some { cls := .none, data := .fields ps' } → (∃ more, ps' = ps ++ more) → TriplesOk ps'.toList →
      wpAny (model X.prog X.w) X.A (builtinsFor X.env.globals X.env.builtins) (fun bi s₄ =>
        ∃ Ia fp wr n₀ Pf St₀ pz F, Value.ref s1.heap.objs.size = .ref Ia ∧ (∀ A' : Around, A'.handled = none → Walks X.prog X.w A' Ia fp wr n₀ Pf St₀) ∧ St₀ 0 s₄.heap ∧ (∀ b ∈ fp, b < s₄.heap.objs.size) ∧ s₄.heap.NoLimit ∧ cStatics ∉ wr ∧
          (∀ hr : Heap, (∀ b u, s₄.heap.get? b = some u → hr.get? b = some u) →
            QuietGenD X.prog X.w (genEnv scope (cloFrom X.env.cells scope.names []) s₄.heap.objs.size code bi X.env) x [] elt (List.range s₄.heap.objs.size) wr Pf pz F hr (X.A.depth + 1) (X.A.units + 8)) ∧
          (∀ a h₅ tk gs, gs.bare = true → s₄.heap.objs.size < a → h₅.objs.size = a + 1 → (∀ b u, s₄.heap.get? b = some u → h₅.get? b = some u) →
            WalksS X.prog X.w X.A.in4 a (a :: s₄.heap.objs.size :: List.range s₄.heap.objs.size) (s₄.heap.objs.size :: wr) (GenOnlyQ s₄.gens.size) (passing pz n₀ 0).length
              (fun j y => ∃ i, (passing pz n₀ 0)[j]? = some i ∧ F i y) (GenAt X.prog X.w X.A.in4 a s₄.gens.size s₄.heap.objs.size (List.range s₄.heap.objs.size) wr pz n₀ F) →
            GenAt X.prog X.w X.A.in4 a s₄.gens.size s₄.heap.objs.size (List.range s₄.heap.objs.size) wr pz n₀ F 0 { s₄ with gens := s₄.gens.push gs, toks := tk, heap := h₅ } →
            Z (.ref a) { s₄ with gens := s₄.gens.push gs, toks := tk, heap := h₅ })) X.xe { s1 with heap := h3, toks := tk } := by
    intro code h3 tk ps' hx hsz hP3 hmore ht3
    obtain ⟨bm, ob, e1, e2, e3, e4, e5, e6, e7, e8⟩ := TB.bm
    have szo : (s1.heap.push o).objs.size = s1.heap.objs.size + 1 := Heap.size_push ..
    have k3 : ∀ b u, b ≠ P → s1.heap.get? b = some u → h3.get? b = some u := fun b u hb e => hx b u hb (push_ok b u e)
    have hcP : cStatics ≠ P := by
      rintro rfl
      obtain ⟨_, hns, _⟩ := I1.nolimit
      obtain ⟨o', es, ep, ho, hd, _⟩ := hns
      rw [hPs] at ho
      cases ho
      cases hd
    have hcl : cStatics < s1.heap.objs.size := let ⟨_, hns, _⟩ := I1.nolimit; hns.lt
    refine wpAny_builtinsFor (m := X.mg) (by rw [I1.ok.glob]; exact ((I1.mod.glob.keeps I1.bk).push o).extBut hx TB.gP) e1 e2 (k3 _ _ e4 (I1.bk _ _ e5)) e6 e7 e8 ?_
    have hi3 : s1.heap.objs.size < h3.objs.size := by omega
    refine ⟨s1.heap.objs.size, s1.heap.objs.size :: fpv, [s1.heap.objs.size], xs.length, Pf, St, (fun _ => true), (fun i y => ∃ b, bs[i]? = some b ∧ y = .bool b), rfl,
      fun A' hA => S.walks A' hA, ?_, ?_, lim2.extBut hx hcP, ?_, ?_, ?_⟩
    · refine S.st0 h3 fun b u hb e => hx b u (fun z => ?_) e
      rcases hb with hb | hb
      · exact adP b hb z
      · exact Nat.ne_of_gt hPlt (hb.symm.trans z)
    · intro b hb
      rcases List.mem_cons.mp hb with hb | hb
      · rw [hb]; exact hi3
      · exact Nat.lt_trans (S.fplt b hb).1 hi3
    · intro z
      simp only [List.mem_cons, List.not_mem_nil, or_false] at z
      exact Nat.ne_of_lt hcl z
    · intro hr hhr
      obtain ⟨hd, g1, g2⟩ := restrict h3 fun b => decide (b ≠ s1.heap.objs.size)
      have old : ∀ b u, b ≠ P → s1.heap.get? b = some u → hd.get? b = some u := fun b u nb e => by
        rw [g1 b (decide_eq_true (Nat.ne_of_lt (Heap.lt_size e)))]
        exact k3 b u nb e
      have up3 : Up hd h3 := fun b u e => by
        by_cases hb : b = s1.heap.objs.size
        · rw [g2 b (by simp [hb])] at e
          cases e
        · rw [g1 b (decide_eq_true hb)] at e
          exact e
      have bP : ∀ b u, X.base.get? b = some u → b ≠ P := fun b u e z => by
        have q := (I1.bs b u e).2
        rw [z, hP] at q
        cases q
      have bup : ∀ b u, X.base.get? b = some u → hd.get? b = some u := fun b u e => old b u (bP b u e) (I1.bk b u e)
      have OK : (Qc.mk X.prog X.w X.K X.mg (wipe H1 P) hd).Ok := by
        obtain ⟨mb, q1, q2⟩ := I1.mod.blt
        refine ⟨I1.mod.kin.keeps bup, I1.mod.glob.keeps bup, ⟨mb, q1.keeps bup, q2⟩, I1.mod.nolimit.keeps bup, fun a u e => ?_⟩
        obtain ⟨na, e⟩ := wipe_of e
        have noP : ∀ b, H1 b = some (.own a) → b ≠ P := fun b q z => by
          rw [z, hP] at q
          cases q
        refine (I1.hok a u e).stay (fun b u' hb q => old b u' ?_ q) (fun b q => wipe_at (noP b q) q) (fun b ys q => wipe_at (fun z => ?_) q)
        · rcases hb with hb | hb
          · rw [hb]; exact na
          · exact noP b hb
        · rw [z, hP] at q
          cases q
      have seen : ∀ s₂ : Shared, (∀ b ∈ List.range h3.objs.size, b ∉ [s1.heap.objs.size] → ∀ u, hr.get? b = some u → s₂.heap.get? b = some u) → Up hd s₂.heap := fun s₂ hk b u e => by
        have h3e := up3 b u e
        refine hk b (List.mem_range.mpr (Heap.lt_size h3e)) (fun z => ?_) u (hhr b u h3e)
        have hb : b = s1.heap.objs.size := by simpa using z
        rw [g2 b (by simp [hb])] at e
        cases e
      refine ⟨fun A' E' i v s₂ m₂ hA _ _ hPv hn hm hk => ?_, fun A' E' i v s₂ m₂ hA hAd _ hPv hp hn hm hk => ?_⟩
      · simp only [List.forIn_nil]
        exact wpAny_pure ⟨rfl, GxR.keeps_refl _⟩
      · obtain ⟨xv, hxv, ru⟩ := S.item i v hPv
        have hix : i < xs.length := (List.getElem?_eq_some_iff.mp hxv).1
        have at2 : At ⟨X.prog, X.w, X.K, X.mg, wipe H1 P, hd⟩ (genEnv scope (cloFrom X.env.cells scope.names []) h3.objs.size code builtinsNs X.env) ((x, xv) :: caps) s₂.heap := by
          have upS := seen s₂ hk
          refine ⟨upS, GS.kind, I1.ok.glob, rfl, m₂, hn, fun y vy hy => ?_⟩
          by_cases ey : y = x
          · subst ey
            have e9 : xv = vy := by simpa [List.lookup] using hy
            exact ⟨v, e9 ▸ ru, .inl ⟨GS.loc, hm⟩⟩
          · have ey' : (y == x) = false := by simpa using ey
            have hy2 : caps.lookup y = some vy := by simpa [List.lookup, ey'] using hy
            obtain ⟨_, hmem, hfr, j, hj, hσ, hcl2⟩ := hcap y vy hy2
            obtain ⟨m1, hn1, hloc⟩ := I1.loc
            obtain ⟨u9, r9, l9⟩ := hloc j y vy hj hσ (.inr (.inl hcl2))
            refine ⟨u9, r9, .inr ⟨.inr hfr, ?_⟩⟩
            rcases l9 with ⟨l9, _⟩ | ⟨_, ca, hca, hic⟩
            · have l8 : X.env.scope.names.lookup y = some .local := l9
              rw [hcl2] at l8
              cases l8
            · refine ⟨ca, NdefX.clo_has GS.free hmem hca, ?_⟩
              obtain ⟨oc, ec, rc⟩ := hic
              have nP : ca ≠ P := fun z => by
                have q := I1.freeC y ca hca
                rw [z, hP] at q
                cases q
              exact ⟨oc, upS _ _ (old _ _ nP ec), rc⟩
        obtain ⟨b, hb⟩ : ∃ b, bs[i]? = some b := ⟨bs[i]'(by rw [hel.1]; exact hix), List.getElem?_eq_getElem _⟩
        refine hel.2 hd _ OK rfl i xv b hxv hb A' E' _ s₂ ⟨hA, by omega⟩ at2 fun u9 g9 tk9 r9 up9 => ?_
        exact ⟨⟨b, hb, r9⟩, g9, tk9, rfl, up9⟩
    · intro g h5 tk5 gs hgb hag hsz5 hk5 W5 hgat
      simp only [GxR.passing_true, List.length_range] at W5
      have hn5 : xs.length = bs.length := hel.1.symm
      rw [hn5] at W5 hgat
      refine hZ xs bs H1 g _ hR ⟨_, _, _, _, _, W5.in4_1, hgat, ?_, fun s' hm => ?_⟩
      · intro j y sj Qj Ej hy hQj
        obtain ⟨i, hij, b, hxv, rfl⟩ := hy
        obtain ⟨hj, ej⟩ := List.getElem?_eq_some_iff.mp hij
        rw [List.getElem_range] at ej
        subst ej
        have hQ2 : Qj (trB bs j) sj := hQj
        rw [trB_some hxv] at hQ2
        exact wpAny_truthy_bool hQ2
      · obtain ⟨more, em⟩ := hmore
        have nwr : ∀ b u, s1.heap.get? b = some u → b ∉ h3.objs.size :: [s1.heap.objs.size] := fun b u e hb => by
          have hl := Heap.lt_size e
          simp only [List.mem_cons, List.not_mem_nil, or_false] at hb
          rcases hb with hb | hb
          · rw [hb] at hl
            exact absurd (Nat.lt_trans hl hi3) (Nat.lt_irrefl _)
          · rw [hb] at hl
            exact Nat.lt_irrefl _ hl
        have J := GxR.inv_tab (more := more) (h' := s'.heap) (g' := s'.gens) (d' := s'.drawn) (t' := s'.toks) I1 hP (fun b u hb e => hm.heap b u (nwr b u e) (hk5 b u (k3 b u hb e)))
          (by rw [← em]; exact hm.heap P _ (nwr P _ hPs) (hk5 P _ hP3)) (AllBare.movedS (I1.bare.push hgb) hm)
        rw [GxR.sh_eta s1 s' hm.os] at J
        exact ⟨upd H1 P (.tbl (ps ++ more)), ⟨⟨ps ++ more, upd_same, by rw [← em]; exact ht3⟩, fun b hb => upd_ne hb⟩, J⟩
  refine ⟨lim2, ?_⟩
  cases hf : codeAmong gpos ps.toList with
  | none =>
    refine wpAny_genexprCodeX hcode (cd.code hPo htr) (cd.tab hPo) hf fun c' h' tk hx hge hlt hco' _ htab' _ => ?_
    obtain ⟨_, _, _, _, _, _, _, _, _, _, _, _, _, _, _, _, _, _, _, htr', _⟩ := hco'
    exact go _ h' tk _ hx (Nat.le_trans hge (Nat.le_of_lt hlt)) htab'.2 ⟨_, rfl⟩ htr'
  | some cv =>
    refine wpAny_genexprCode_hit hcode (cd.code hPo htr) hf ?_
    exact go cv (s1.heap.push o) s1.toks ps (Heap.ExtBut.refl _ _) (Nat.le_refl _) hPo ⟨#[], by simp⟩ htr


/-- all(.. for x in range(..)), any(.. for x in range(..)), the element a quiet truth -/
def tAllV (X : Cx) (P : Addr) (k : Nat) (scope : Scope) (x : Str) (elt : Expr) (te : L2.St → Hp → (List V → Hp → Prop) → Prop) : TE := fun σ H Q => te σ H fun xs H1 => ∃ (bs : List Bool) (caps : Nm),
  GxR.TabG H1 P ∧ Caps X scope x σ caps ∧ Elt X (3 * k) scope x elt caps (wipe H1 P) xs bs ∧ ∀ H2, GxR.Tabbed P H1 H2 → Q (.bl (bs.all id)) H2
theorem pe_allV {c P : Addr} {elt iter : Expr} {x : Str} {px p pos gpos : Pos} {scope : Scope} {te : L2.St → Hp → (List V → Hp → Prop) → Prop} {k : Nat}
    (rm : Room (k + 2) X.A) (hg : Gl X "all") (hm : X.mg "all" = none) (TB : GxR.TabB X.base X.mg c P) (hcode : X.env.code = .ref c) (GS : GxR.GenS X.env scope x) (hi : PSr X iter te)
    (hs : ∀ v, genFold iter X.env v = pure v) (hb : bootBuiltins "all" = some (.builtin "all") := by decide +kernel)
    (he : starEach [.GeneratorExp elt [⟨.Name x px, iter, [], 0⟩] scope gpos] X.env = (false, eval (.GeneratorExp elt [⟨.Name x px, iter, [], 0⟩] scope gpos) X.env) :: starEach [] X.env := by rfl) :
    PE X (.Call (.Name "all" p) [.GeneratorExp elt [⟨.Name x px, iter, [], 0⟩] scope gpos] [] pos) (tAllV X P k scope x elt te) := by
  refine ⟨fun pins s σ H Q I h => ?_⟩
  refine wpAny_Call_Name_kw (ld_blt I hg hm hb (PyProof.Rows.callWith_builtin1 ?_ he (by rfl)))
  rw [he]
  show wpAny _ X.A (spliced ((false, eval (.GeneratorExp elt [⟨.Name x px, iter, [], 0⟩] scope gpos) X.env) :: backTo pos (starEach [] X.env))) _ X.xe s
  refine Calls.spliced_cons (gen_madeS (R := fun xs bs H1 => ∀ H2, GxR.Tabbed P H1 H2 → Q (.bl (bs.all id)) H2) rm TB hcode GS hi hs I h fun xs bs H1 g s5 hR hG => Calls.spliced_nil ?_)
  obtain ⟨fp, wr, G, F, St, W, hst, htr, hI⟩ := hG
  refine call_all_walkS (W.self 0 _ _ _ hst ⟨g, fp, wr, G, _, F, St, _, rfl, W, hst, htr, fun s' hmv => ?_⟩)
  obtain ⟨H2, hT, J⟩ := hI s' hmv
  exact ⟨.bl _, H2, J, rfl, by rw [trB_all bs]; exact hR H2 hT⟩
def tAnyV (X : Cx) (P : Addr) (k : Nat) (scope : Scope) (x : Str) (elt : Expr) (te : L2.St → Hp → (List V → Hp → Prop) → Prop) : TE := fun σ H Q => te σ H fun xs H1 => ∃ (bs : List Bool) (caps : Nm),
  GxR.TabG H1 P ∧ Caps X scope x σ caps ∧ Elt X (3 * k) scope x elt caps (wipe H1 P) xs bs ∧ ∀ H2, GxR.Tabbed P H1 H2 → Q (.bl (bs.any id)) H2
theorem pe_anyV {c P : Addr} {elt iter : Expr} {x : Str} {px p pos gpos : Pos} {scope : Scope} {te : L2.St → Hp → (List V → Hp → Prop) → Prop} {k : Nat}
    (rm : Room (k + 2) X.A) (hg : Gl X "any") (hm : X.mg "any" = none) (TB : GxR.TabB X.base X.mg c P) (hcode : X.env.code = .ref c) (GS : GxR.GenS X.env scope x) (hi : PSr X iter te)
    (hs : ∀ v, genFold iter X.env v = pure v) (hb : bootBuiltins "any" = some (.builtin "any") := by decide +kernel)
    (he : starEach [.GeneratorExp elt [⟨.Name x px, iter, [], 0⟩] scope gpos] X.env = (false, eval (.GeneratorExp elt [⟨.Name x px, iter, [], 0⟩] scope gpos) X.env) :: starEach [] X.env := by rfl) :
    PE X (.Call (.Name "any" p) [.GeneratorExp elt [⟨.Name x px, iter, [], 0⟩] scope gpos] [] pos) (tAnyV X P k scope x elt te) := by
  refine ⟨fun pins s σ H Q I h => ?_⟩
  refine wpAny_Call_Name_kw (ld_blt I hg hm hb (PyProof.Rows.callWith_builtin1 ?_ he (by rfl)))
  rw [he]
  show wpAny _ X.A (spliced ((false, eval (.GeneratorExp elt [⟨.Name x px, iter, [], 0⟩] scope gpos) X.env) :: backTo pos (starEach [] X.env))) _ X.xe s
  refine Calls.spliced_cons (gen_madeS (R := fun xs bs H1 => ∀ H2, GxR.Tabbed P H1 H2 → Q (.bl (bs.any id)) H2) rm TB hcode GS hi hs I h fun xs bs H1 g s5 hR hG => Calls.spliced_nil ?_)
  obtain ⟨fp, wr, G, F, St, W, hst, htr, hI⟩ := hG
  refine call_any_walkS (W.self 0 _ _ _ hst ⟨g, fp, wr, G, _, F, St, _, rfl, W, hst, htr, fun s' hmv => ?_⟩)
  obtain ⟨H2, hT, J⟩ := hI s' hmv
  exact ⟨.bl _, H2, J, rfl, by rw [trB_any bs]; exact hR H2 hT⟩
end
/-! ### i - j, l[i] of a list, quiet -/
section
variable {c : Qc} {k : Nat} {env : Env} {N : Nm} {a b : Expr} {pos : Pos}
theorem q_sub {i j : Int} (ha : QE c k env N a (.int i)) (hb : QE c k env N b (.int j)) : QE c k env N (.BinOp a .Sub b pos) (.int (i - j)) := by
  intro A E Q s r i0 h
  refine wpAny_BinOp (ha A E _ s r i0 fun u g tk ru up => hb A E _ _ r (i0.more up) fun u2 g2 tk2 r2 up2 => ?_)
  obtain ⟨t1, rfl⟩ := ru
  obtain ⟨t2, rfl⟩ := r2
  exact sub_int (h _ g2 _ ⟨_, rfl⟩ (up.tr up2))
theorem q_add {i j : Int} (ha : QE c k env N a (.int i)) (hb : QE c k env N b (.int j)) : QE c k env N (.BinOp a .Add b pos) (.int (i + j)) := by
  intro A E Q s r i0 h
  refine wpAny_BinOp (ha A E _ s r i0 fun u g tk ru up => hb A E _ _ r (i0.more up) fun u2 g2 tk2 r2 up2 => ?_)
  obtain ⟨t1, rfl⟩ := ru
  obtain ⟨t2, rfl⟩ := r2
  exact add_int (h _ g2 _ ⟨_, rfl⟩ (up.tr up2))
/-- a list that is read -/
def LstQ (c : Qc) (a : Addr) (xs : List V) : Prop := ∃ its : List Value, Vals xs its ∧ c.hd.IsList a its.toArray ∧ xs.length ≤ sizeLine
theorem lstQ_of (O : c.Ok) {a : Addr} {xs : List V} (h : c.H a = some (.lst xs)) : LstQ c a xs := by
  obtain ⟨hz, its, n, rv, ht⟩ := O.hok _ _ h
  exact ⟨its, rv, ⟨_, ht, rfl, n, rfl⟩, hz⟩
theorem isList_up {h g : Heap} {a : Addr} {vs : Array Value} (k : Up h g) (t : h.IsList a vs) : g.IsList a vs := by
  obtain ⟨o, e, q⟩ := id t
  exact ⟨o, k _ _ e, q⟩
theorem q_ixL {p : Addr} {xs : List V} {j : Nat} {v : V} (ha : QE c k env N a (.ref p)) (hb : QE c k env N b (.int j)) (ht : LstQ c p xs) (hx : xs[j]? = some v)
    (hs : PlainIx b := by intro _ _; rfl) : QE c k env N (.Subscript a b pos) v := by
  intro A E Q s r i h
  refine Subscript_ (ha A E _ s r i fun u g tk ru up => hb A E _ _ r (i.more up) fun u2 g2 tk2 r2 up2 => ?_)
  cases ru
  obtain ⟨t, rfl⟩ := r2
  obtain ⟨its, rv, hT, hz⟩ := ht
  obtain ⟨w, hw, rw_⟩ := rv.get hx
  have hT2 := isList_up (i.up.tr (up.tr up2)) hT
  have hl := rv.length
  have hj := (List.getElem?_eq_some_iff.mp hx).1
  have hn := line63
  have fin : Q w { s with heap := g2, toks := tk2 } := h w g2 tk2 rw_ (up.tr up2)
  exact item_listR hT2 (by omega) (by omega) (by simpa using hw) fin (hs _ _)
end
end Qt

namespace Qt
open PySem PySem.Spec PyProof.Rows L2

theorem qo_ne {c : Qc} : QO c .NotEq fun i j => !(i == j) := fun A E Q i j t u s h => PyProof.Rows.ne_int h
/-! ### a generator expression whose target is more than a name -/
/-- still there of what was at first -/
def Still (fp wr : List Addr) (h0 h : Heap) : Prop := ∀ b ∈ fp, b ∉ wr → ∀ u, h0.get? b = some u → h.get? b = some u
theorem Still.up {fp wr : List Addr} {h0 h g : Heap} (a : Still fp wr h0 h) (k : ∀ b u, b ∈ fp → b ∉ wr → h.get? b = some u → g.get? b = some u) : Still fp wr h0 g :=
  fun b hb hw u e => k b u hb hw (a b hb hw u e)
/-- the target takes what comes, and the element is quiet -/
structure Tgt (pr : Program) (w : World) (tg elt : Expr) (ce : Env) (I : Addr) (fp wr : List Addr) (Pf : Nat → Value → Prop) (St : Nat → Heap → Prop) (F : Nat → Value → Prop) (h0 : Heap) (D U : Nat) : Prop where
  own : ∀ (A : Around) (E : Value → Shared → Prop) (i : Nat) (v : Value) (s : Shared) (Q : Unit → Shared → Prop), Pf i v → St (i + 1) s.heap → Q () s → wpAny (model pr w) A (letOwnedTupleGo tg (.ref I) v) Q E s
  put : ∀ (A : Around) (E : Value → Shared → Prop) (i : Nat) (v : Value) (s : Shared) (m : Str → Option Value) (Q : Unit → Shared → Prop), A.handled = none → Pf i v → s.heap.Ns ce.locals m → Still fp wr h0 s.heap →
    (∀ g tk m', g.Ns ce.locals m' → (∀ b u, b ≠ ce.locals → s.heap.get? b = some u → g.get? b = some u) →
      (∀ (A : Around) (E : Value → Shared → Prop) (z : Shared), A.handled = none → A.depth ≤ D → A.units ≤ U → z.heap.Ns ce.locals m' → Still fp wr h0 z.heap → wpAny (model pr w) A (eval elt ce) (fun y z' => F i y ∧ Keeps z z') E z) →
      Q () { s with heap := g, toks := tk }) → wpAny (model pr w) A (assign tg ce v) Q E s
section
variable {pr : Program} {w : World} {B : Around} {elt iter tg : Expr} {scope : Scope} {pos : Pos} {I : Addr} {fp wr : List Addr} {n : Nat} {Pf : Nat → Value → Prop} {St : Nat → Heap → Prop} {ce : Env} {F : Nat → Value → Prop} {h0 : Heap}
theorem tgt_loop (hB : B.handled = none) (Wk : ∀ A : Around, A.handled = none → Walks pr w A I fp wr n Pf St) (co : ce.scope.isCoroutine = false) (nf : ce.locals ∉ fp) (T : Tgt pr w tg elt ce I fp wr Pf St F h0 (B.depth + 1) (B.units + 3)) :
    ∀ (k i : Nat) (z s : Shared) (m : Str → Option Value), n - i = k → i ≤ n → St i s.heap → s.heap.Ns ce.locals m → GenSince ce.locals wr z s → Still fp wr h0 s.heap →
      Seg (model pr w) B (fun j y r y' => r = .ok .next ∧ (j = 0 ∧ GenSince ce.locals wr y y')) (genProto ce.locals fp wr (fun _ => true) n F) (passing (fun _ => true) n i).length z
        (.compLoop (.GeneratorExp elt [⟨tg, iter, [], 0⟩] scope pos) 0 (.ref I) .none ce) ((model pr w).den (.compLoop (.GeneratorExp elt [⟨tg, iter, [], 0⟩] scope pos) 0 (.ref I) .none ce)) [] s := by
  obtain ⟨C, eC⟩ : ∃ C : Code, C = .compLoop (.GeneratorExp elt [⟨tg, iter, [], 0⟩] scope pos) 0 (.ref I) .none ce := ⟨_, rfl⟩
  have o1 : (B.over C []).handled = none := by rw [eC]; exact hB
  have o2 : (B.over C []).depth ≤ B.depth + 1 := by rw [eC]; exact Nat.le_of_eq rfl
  have o3 : (B.over C []).units ≤ B.units + 3 := by rw [eC]; exact Nat.le_of_eq rfl
  subst eC
  have nw : ce.locals ∉ wr := fun q => nf ((Wk B hB).sub _ q)
  intro k
  induction k with
  | zero =>
    intro i z s m hk hle st ns sn kp
    obtain rfl : i = n := by omega
    show Seg _ B _ _ _ z _ ((compTurn (.GeneratorExp elt [⟨tg, iter, [], 0⟩] scope pos) 0 (.ref I) .none ce).onRaise (leaving ce)) [] s
    rw [compTurn_gen, Sem.onRaise_eq_wrap]
    refine seg_bind_wrap (wpAny_standAt (seg_bind_wrap ((Wk _ o1).done s _ _ st fun g tk kg => seg_end (.ok .next) ⟨rfl, ?_, ?_⟩)))
    · rw [passing_end]; rfl
    · exact sn.step fun b u _ hw e => kg b u hw e
  | succ k ih =>
    intro i z s m hk hle st ns sn kp
    have il : i < n := by omega
    show Seg _ B _ _ _ z _ ((compTurn (.GeneratorExp elt [⟨tg, iter, [], 0⟩] scope pos) 0 (.ref I) .none ce).onRaise (leaving ce)) [] s
    rw [compTurn_gen, Sem.onRaise_eq_wrap]
    refine seg_bind_wrap (wpAny_standAt (seg_bind_wrap ((Wk _ o1).item i s _ _ il st fun v g1 tk1 hv st1 k1 => ?_)))
    have kp1 : Still fp wr h0 g1 := kp.up fun b u _ hw e => k1 b u hw e
    refine seg_bind_wrap (T.own _ _ i v _ _ hv st1 (seg_bind_wrap (T.put _ _ i v _ _ _ o1 hv (ns.at' fun u e => k1 _ u nw e) kp1 fun g2 tk2 m2 ns2 k2 el => ?_)))
    have k02 : ∀ b u, b ≠ ce.locals → b ∉ wr → s.heap.get? b = some u → g2.get? b = some u := fun b u nb hw e => k2 b u nb (k1 b u hw e)
    have inf : ∀ {b}, b ∈ fp → b ≠ ce.locals := fun {b} hb q => nf (q ▸ hb)
    have st2 : St (i + 1) g2 := (Wk B hB).frame _ _ _ st1 fun b hb u e => k2 b u (inf hb) e
    have kp2 : Still fp wr h0 g2 := kp1.up fun b u hb _ e => k2 b u (inf hb) e
    rw [passing_true (pz := fun _ => true) il rfl, List.length_cons]
    refine seg_bind_wrap (wpAny_mono (Q := fun ok s3 => ok = true ∧ s3 = { heap := g2, gens := s.gens, drawn := s.drawn, toks := tk2, os := s.os }) (by simp only [List.forIn_nil]; exact wpAny_pure ⟨rfl, rfl⟩) (fun ok s3 h3 => ?_) fun _ _ e => e)
    obtain ⟨rfl, rfl⟩ := h3
    simp only [if_true]
    have out : ∀ y, yieldOut ce y = yieldValue y := fun y => by
      unfold yieldOut
      rw [co]
      rfl
    simp only [out]
    rw [Sem.bind_eq_wrap', Sem.bind_eq_wrap', Sem.wrap_wrap, Sem.wrap_wrap]
    refine seg_wrap (wpAny_mono (el _ _ _ o1 o2 o3 ns2 kp2) (fun y s3 hy => ?_) fun _ _ e => e)
    obtain ⟨fy, g3, tk3, rfl, k3⟩ := hy
    refine seg_at (seg_yield rfl rfl rfl ⟨⟨i, passing_here (pz := fun _ => true) il rfl, fy⟩, sn.step fun b u nb hw e => k3 b u (k02 b u nb hw e), fun s4 al => seg_again rfl ?_⟩)
    have al2 : ∀ b ∈ fp, ∀ u, g2.get? b = some u → s4.heap.get? b = some u := fun b hb u e => al b (List.mem_cons_of_mem _ hb) u (k3 b u e)
    exact ih (i + 1) s4 s4 _ (by omega) il ((Wk B hB).frame _ _ _ st2 al2) ((ns2.keeps k3).at' fun u e => al _ (List.mem_cons_self ..) u e) (GenSince.refl _ _ _) (kp2.up fun b u hb _ e => al2 b hb u e)
theorem tgt_start (hB : B.handled = none) (Wk : ∀ A : Around, A.handled = none → Walks pr w A I fp wr n Pf St) (co : ce.scope.isCoroutine = false) (nf : ce.locals ∉ fp) (T : Tgt pr w tg elt ce I fp wr Pf St F h0 (B.depth + 1) (B.units + 3))
    (z s : Shared) (m : Str → Option Value) (st : St 0 s.heap) (ns : s.heap.Ns ce.locals m) (sn : GenSince ce.locals wr z s) (kp : Still fp wr h0 s.heap) :
    Seg (model pr w) B (fun j y r y' => r = .ok .next ∧ (j = 0 ∧ GenSince ce.locals wr y y')) (genProto ce.locals fp wr (fun _ => true) n F) (passing (fun _ => true) n 0).length z
      (.compStart (.GeneratorExp elt [⟨tg, iter, [], 0⟩] scope pos) 0 (.ref I) .none ce) ((model pr w).den (.compStart (.GeneratorExp elt [⟨tg, iter, [], 0⟩] scope pos) 0 (.ref I) .none ce)) [] s := by
  have L := tgt_loop (iter := iter) (scope := scope) (pos := pos) hB Wk co nf T n 0 z s m (Nat.sub_zero _) (Nat.zero_le _) st ns sn kp
  have o1 : (B.over (.compStart (.GeneratorExp elt [⟨tg, iter, [], 0⟩] scope pos) 0 (.ref I) .none ce) []).handled = none := hB
  show Seg _ B _ _ _ z _ ((compStart (.GeneratorExp elt [⟨tg, iter, [], 0⟩] scope pos) 0 (.ref I) .none ce).onRaise (leaving ce)) [] s
  unfold compStart
  rw [Sem.onRaise_eq_wrap]
  show Seg _ B _ _ _ z _ ((ask >>= _).wrap _ _ _ _) [] s
  refine seg_bind_wrap (wpAny_askSetting ?_)
  split
  · exact seg_again rfl L
  · first
      | exact seg_bind_wrap (wpAny_rule (seg_bind_wrap (wpAny_standAt (seg_bind_wrap ((Wk _ o1).self 0 s _ _ st (seg_again rfl L))))))
      | (refine seg_bind_wrap (wpAny_rule ?_); show Seg _ B _ _ _ z _ ((standAt iter.pos >>= _).wrap _ _ _ _) [] s; exact seg_bind_wrap (wpAny_standAt (seg_bind_wrap ((Wk _ o1).self 0 s _ _ st (seg_again rfl L)))))
end
section
variable {pr : Program} {w : World} {A : Around} {E : Value → Shared → Prop} {s : Shared} {elt iter tg : Expr} {scope : Scope} {pos : Pos}
/-- what is handed on: the generator made, and how it is gone through -/
def Gone (pr : Program) (w : World) (A : Around) (Q : Value → Shared → Prop) (s4 : Shared) (wr : List Addr) (n : Nat) (F : Nat → Value → Prop) : Prop :=
  ∀ (a : Addr) (h5 : Heap) (tk : Nat) (gs : GenState), gs.bare = true → s4.heap.objs.size < a → h5.objs.size = a + 1 → (∀ b u, s4.heap.get? b = some u → h5.get? b = some u) →
    WalksS pr w A.in4 a (a :: s4.heap.objs.size :: List.range s4.heap.objs.size) (s4.heap.objs.size :: wr) (GenOnlyQ s4.gens.size) (passing (fun _ => true) n 0).length (fun j y => ∃ i, (passing (fun _ => true) n 0)[j]? = some i ∧ F i y)
      (GenAt pr w A.in4 a s4.gens.size s4.heap.objs.size (List.range s4.heap.objs.size) wr (fun _ => true) n F) →
    GenAt pr w A.in4 a s4.gens.size s4.heap.objs.size (List.range s4.heap.objs.size) wr (fun _ => true) n F 0 { s4 with gens := s4.gens.push gs, toks := tk, heap := h5 } →
    Q (.ref a) { s4 with gens := s4.gens.push gs, toks := tk, heap := h5 }
theorem ge_tgt {env : Env} {cl : List (Str × Addr)} {Q : Value → Shared → Prop} (hA : A.handled = none) (co : scope.isCoroutine = false) (hcl : closureFor scope env = pure cl) (nc : ∀ y ∈ scope.names, y.2 ≠ .cell) (dot : scope.names.lookup (".0" : Str) = some NameKind.local) (kd : scope.kind = .function) (dp : A.depth < recursionLimit)
    (h : wpAny (model pr w) A (eval iter env) (fun xv s1 => wpAny (model pr w) A (pyIter xv) (fun it s2 => s2.heap.NoLimit ∧ wpAny (model pr w) A (genexprCode env pos (env.qual ++ "<genexpr>") scope) (fun code s3 => wpAny (model pr w) A (builtinsFor env.globals env.builtins) (fun bi s4 =>
      ∃ (I : Addr) (fp wr : List Addr) (n : Nat) (Pf : Nat → Value → Prop) (St : Nat → Heap → Prop) (F : Nat → Value → Prop), it = .ref I ∧ (∀ C : Around, C.handled = none → Walks pr w C I fp wr n Pf St) ∧ St 0 s4.heap ∧ (∀ b ∈ fp, b < s4.heap.objs.size) ∧ s4.heap.NoLimit ∧ cStatics ∉ wr ∧
        (∀ hr : Heap, (∀ b u, s4.heap.get? b = some u → hr.get? b = some u) → Tgt pr w tg elt (genEnv scope cl s4.heap.objs.size code bi env) I (List.range s4.heap.objs.size) wr Pf St F hr (A.depth + 1) (A.units + 8)) ∧ Gone pr w A Q s4 wr n F) E s3) E s2) E s1) E s)
    (hf : ∀ v, genFold iter env v = pure v) : wpAny (model pr w) A (eval (.GeneratorExp elt [⟨tg, iter, [], 0⟩] scope pos) env) Q E s := by
  refine wpAny_GeneratorExp_make co hcl nc dot kd dp (thn h fun xv s1 h1 => thn h1 fun it s2 h2 => ⟨h2.1, thn h2.2 fun code s3 h3 => thn h3 fun bi s4 h4 => ?_⟩) hf
  obtain ⟨I, fp, wr, n, Pf, St, F, rfl, Wk, st, fl, lim, cw, T, go⟩ := h4
  obtain ⟨nS, hnS, _⟩ := id lim
  have cS : cStatics < s4.heap.objs.size := hnS.lt
  intro g ns sb
  have sz : g.objs.size = s4.heap.objs.size + 1 := by rw [sb.1, Heap.size_push]
  have up1 : ∀ b u, s4.heap.get? b = some u → g.get? b = some u := fun b u e => sb.extBut b u (Nat.ne_of_lt (Heap.lt_size e)) (Heap.get?_push_of_some _ e)
  have up2 : ∀ (ob : Obj) b u, s4.heap.get? b = some u → (g.push ob).get? b = some u := fun ob b u e => Heap.get?_push_of_some _ (up1 b u e)
  have wfp : ∀ b ∈ wr, b ∈ List.range s4.heap.objs.size := fun b hb => List.mem_range.mpr (fl b ((Wk A hA).sub b hb))
  have ne : g.objs.size ≠ s4.heap.objs.size := by omega
  have nin : g.objs.size ∉ List.range s4.heap.objs.size := fun q => by have := List.mem_range.mp q; omega
  refine go _ _ _ _ rfl (by omega) (by rw [Heap.size_push]) (fun b u e => up2 _ b u e) (WalksS.genexpQ (A := A.in4) hA _ _ _ _ wr _ n F ne nin wfp dp (List.mem_range.mpr cS) (Nat.ne_of_lt cS) cw) ?_
  have TT := T _ (fun b u e => up2 { cls := .type "generator", data := .fields #[.int s4.gens.size 0, .str "<genexpr>" (s4.toks + 1), .str (env.qual ++ "<genexpr>") (s4.toks + 1 + 1)] } b u e)
  have Wk2 : ∀ C : Around, C.handled = none → Walks pr w C I (List.range s4.heap.objs.size) wr n Pf St := fun C hC => (Wk C hC).mono_fp fun b hb => List.mem_range.mpr (fl b hb)
  refine ⟨⟨_, _, _, Heap.get?_push_size _ rfl, rfl, rfl, rfl⟩, lim.keeps (fun b u e => up2 _ b u e), _, Array.getElem?_push_size .., fun y al => ⟨rfl, ?_⟩⟩
  refine tgt_start (B := A.in4.in1) (m := fun y => if y = ".0" then some (.ref I) else none) hA Wk2 co (fun q => Nat.lt_irrefl _ (List.mem_range.mp q)) TT y y ?_ ((ns.push _).at' fun u e => al _ (List.mem_cons_self ..) u e) (GenSince.refl _ _ _) fun b hb _ u e => al b (List.mem_cons_of_mem _ hb) u e
  exact (Wk2 A hA).frame _ _ _ st fun b hb u e => al b (List.mem_cons_of_mem _ hb) u (up2 _ b u e)
end
/-- an expression that makes a thing to go over, that keeps no tuple of its own -/
def PSo (X : Cx) (e : Expr) (t : L2.St → Hp → (List V → Hp → Prop) → Prop) : Prop :=
  ∀ (pins : List (Addr × Obj)) (s : Shared) (σ : L2.St) (H : Hp) (Q : List V → Hp → Prop), Inv X pins σ H s → t σ H Q →
    wpAny (model X.prog X.w) X.A (eval e X.env) (fun x s' => ∃ xs o fp Pf St H', SrcV X.prog X.w s'.heap x xs o fp Pf St ∧ (∀ (A : Around) (E : Value → Shared → Prop) (elts : List Expr) (k : Nat) (pos : Pos) (i : Nat) (T : Addr) (z : Shared) (R : Unit → Shared → Prop), St (i + 1) z.heap → R () z →
      wpAny (model X.prog X.w) A (letOwnedTupleGo (.Tuple elts k pos) (.ref s'.heap.objs.size) (.ref T)) R E z) ∧ Inv X pins σ H' s' ∧ Q xs H') X.xe s
def tSoL (K : PySem.W.Frag) (te : TE) : L2.St → Hp → (List V → Hp → Prop) → Prop := fun σ H Q => te σ H fun v H1 => ∃ (ad : Addr) (es : List V), v = .ref ad ∧ SqL K H1 ad es ∧ Q es H1
theorem pso_list {X : Cx} {e : Expr} {te : TE} (h : PE X e te) : PSo X e (tSoL X.K te) := fun pins s σ H Q I q => by
  refine thn (h.run pins s σ H _ I q) fun x s' hx => ?_
  obtain ⟨v, H', I', r, ad, es, rfl, hs, q'⟩ := hx
  obtain rfl : x = Value.ref ad := r
  obtain ⟨its, rv, hl, _⟩ := I'.list hs
  have S := src_list (pr := X.prog) (w := X.w) hl.isList
  have ls : its.toArray.size = es.length := by rw [List.size_toArray]; exact rv.length.symm
  refine ⟨es, _, [ad], (fun i v => its.toArray[i]? = some v), (fun i g => g.IsListIter s'.heap.objs.size ad i ∧ g.IsList ad its.toArray), H', ⟨fun A E Q z ez q2 => S.iter A E Q z ez q2, fun A hA => ?_, fun b hb => ?_, fun g k => ?_, fun i u hu => ?_⟩, fun A E elts k pos i T z R hst hR => wpAny_letOwnedTupleGo_listiter hst.1 hR, I', q'⟩
  · have W := S.walks A s'.heap.objs.size hA (Nat.ne_of_lt S.lt)
    rw [ls] at W
    exact W
  · rw [List.mem_singleton.mp hb]
    obtain ⟨ob, e1, e2, _⟩ := hl.isList
    exact ⟨S.lt, ob, e1, by rw [e2]; exact fun z => by cases z⟩
  · exact S.st0 g fun b u hb e => k b u (by
      rcases hb with hb | hb
      · exact .inl (by rw [hb]; exact List.mem_singleton.mpr rfl)
      · exact .inr hb) e
  · have hi : i < es.length := by
      rw [← ls]
      exact (Array.getElem?_eq_some_iff.mp hu).1
    obtain ⟨w0, hw, rw0⟩ := rv.get (List.getElem?_eq_getElem hi)
    have hu2 : its[i]? = some u := by simpa using hu
    rw [hw] at hu2
    cases hu2
    exact ⟨_, List.getElem?_eq_getElem hi, rw0⟩
theorem four_vals {a b c d : V} {its : List Value} (h : Vals [a, b, c, d] its) : ∃ w0 w1 w2 w3, its.toArray = #[w0, w1, w2, w3] ∧ RelV b w1 := by
  cases h with
  | cons h0 h =>
    cases h with
    | cons h1 h =>
      cases h with
      | cons h2 h =>
        cases h with
        | cons h3 h =>
          cases h
          exact ⟨_, _, _, _, rfl, h1⟩
/-- tuples of four, the second of each -/
def Four (H : Hp) (es xs : List V) : Prop := es.length = xs.length ∧ ∀ (i : Nat) (e : V), es[i]? = some e → ∃ (t : Addr) (a xv b c : V), e = .ref t ∧ xs[i]? = some xv ∧ H t = some (.tup [a, xv, b, c])
section
variable {pr : Program} {w : World} {A : Around} {E : Value → Shared → Prop} {s : Shared}
theorem put_four {ce : Env} {x0 x1 x2 x3 : Str} {p0 p1 p2 p3 pt : Pos} {kt : Nat} {T : Addr} {v0 v1 v2 v3 : Value} {m : Str → Option Value} {Q : Unit → Shared → Prop} (hA : A.handled = none) (hT : s.heap.IsTuple T #[v0, v1, v2, v3]) (ns : s.heap.Ns ce.locals m)
    (k0 : ce.kindOf x0 = some .local) (k1 : ce.kindOf x1 = some .local) (k2 : ce.kindOf x2 = some .local) (k3 : ce.kindOf x3 = some .local) (n2 : x2 ≠ x1) (n3 : x3 ≠ x1) (hp : (ce.scope.kind == .class || (ce.scope.kind == .module && ce.locals != ce.globals)) = false)
    (h : ∀ g tk m', g.Ns ce.locals m' → m' x1 = some v1 → (∀ b u, b ≠ ce.locals → s.heap.get? b = some u → g.get? b = some u) → Q () { s with heap := g, toks := tk }) :
    wpAny (model pr w) A (assign (.Tuple [.Name x0 p0, .Name x1 p1, .Name x2 p2, .Name x3 p3] kt pt) ce (.ref T)) Q E s := by
  refine wpAny_assign_Tuple hA hT rfl rfl fun h1 q1 => ?_
  replace q1 : Heap.ExtBut s.heap.objs.size s.heap h1 := q1
  have u1 : ∀ b u, s.heap.get? b = some u → h1.get? b = some u := fun b u e => q1 b u (Nat.ne_of_lt (Heap.lt_size e)) e
  show wpAny _ _ (do holding [v1, v2, v3] (assign (.Name x0 p0) ce v0); do holding [v2, v3] (assign (.Name x1 p1) ce v1); do holding [v3] (assign (.Name x2 p2) ce v2); do holding [] (assign (.Name x3 p3) ce v3); pure ()) _ _ _
  refine wpAny_bind (wpAny_holding (wpAny_assign_Name (wpAny_storeName_local k0 (ns.at' fun u e => u1 _ u e) (fun g0 m0 s0 => wpAny_bind (wpAny_holding (wpAny_assign_Name (wpAny_storeName_local k1 m0 (fun g1 m1 s1 => ?_) hp)))) hp)))
  refine wpAny_bind (wpAny_holding (wpAny_assign_Name (wpAny_storeName_local k2 m1 (fun g2 m2 s2 => wpAny_bind (wpAny_holding (wpAny_assign_Name (wpAny_storeName_local k3 m2 (fun g3 m3 s3 => wpAny_pure ?_) hp)))) hp)))
  replace s0 : Heap.SameBut ce.locals h1 g0 := s0
  replace s1 : Heap.SameBut ce.locals g0 g1 := s1
  replace s2 : Heap.SameBut ce.locals g1 g2 := s2
  replace s3 : Heap.SameBut ce.locals g2 g3 := s3
  refine h g3 _ _ m3 (by simp [n2, n3, n2.symm, n3.symm]) fun b u nb e => s3.extBut b u nb (s2.extBut b u nb (s1.extBut b u nb (s0.extBut b u nb (u1 b u e))))
end
section
variable {X : Cx} {pins : List (Addr × Obj)} {σ : L2.St} {H : Hp} {s : Shared}
theorem gen_madeT {c P : Addr} {elt iter : Expr} {x x0 x2 x3 : Str} {px p0 p2 p3 pt gpos : Pos} {kt : Nat} {scope : Scope} {te : L2.St → Hp → (List V → Hp → Prop) → Prop} {k : Nat} {Z : Value → Shared → Prop} {R : List V → List Bool → Hp → Prop}
    (rm : Room (k + 2) X.A) (TB : GxR.TabB X.base X.mg c P) (hcode : X.env.code = .ref c) (GS : GxR.GenS X.env scope x) (l0 : scope.names.lookup x0 = some .local) (l2 : scope.names.lookup x2 = some .local) (l3 : scope.names.lookup x3 = some .local) (n2 : x2 ≠ x) (n3 : x3 ≠ x) (hi : PSo X iter te)
    (hs : ∀ v, genFold iter X.env v = pure v) (I : Inv X pins σ H s)
    (h : te σ H fun es H1 => ∃ (xs : List V) (bs : List Bool) (caps : Nm), GxR.TabG H1 P ∧ Caps X scope x σ caps ∧ Four H1 es xs ∧ Elt X (3 * k) scope x elt caps (wipe H1 P) xs bs ∧ R xs bs H1)
    (hZ : ∀ xs bs H1 g s5, R xs bs H1 → Made X pins σ H1 P xs bs g s5 → Z (.ref g) s5) :
    wpAny (model X.prog X.w) X.A (eval (.GeneratorExp elt [⟨.Tuple [.Name x0 p0, .Name x px, .Name x2 p2, .Name x3 p3] kt pt, iter, [], 0⟩] scope gpos) X.env) Z X.xe s := by
  have hdp := rm.dp
  refine ge_tgt rm.hd GS.co (closure_ok GS.free) GS.cell GS.dot GS.kind rm.depth ?_ hs
  refine thn (hi pins s σ H _ I h) fun xv s1 hx => ?_
  obtain ⟨es, o, fpv, Pf, St, H1, S, so, I1, xs, bs, caps, ⟨ps, hP, htr⟩, hcap, hfour, hel, hR⟩ := hx
  have hPs : s1.heap.get? P = some { cls := .none, data := .fields ps } := I1.hok P _ hP
  have hPlt : P < s1.heap.objs.size := Heap.lt_size hPs
  have adP : ∀ b ∈ fpv, b ≠ P := fun b hb z => by
    obtain ⟨_, ob, e, ne⟩ := S.fplt b hb
    rw [z, hPs] at e
    cases e
    exact ne rfl
  refine S.iter _ _ _ _ rfl ?_
  have push_ok : ∀ b u, s1.heap.get? b = some u → (s1.heap.push o).get? b = some u := fun b u e => Heap.get?_push_of_some _ e
  have hPo := push_ok P _ hPs
  have lim2 : (s1.heap.push o).NoLimit := I1.nolimit.push o
  have cd : PySem.W.CodeHd (s1.heap.push o) c P := TB.code.keeps fun b u e => push_ok b u (I1.bk b u e)
  have go : ∀ (code : Value) (h3 : Heap) (tk : Nat) (ps' : Array Value), Heap.ExtBut P (s1.heap.push o) h3 → (s1.heap.push o).objs.size ≤ h3.objs.size → h3.get? P = some { cls := .none, data := .fields ps' } → (∃ more, ps' = ps ++ more) → TriplesOk ps'.toList →
      wpAny (model X.prog X.w) X.A (builtinsFor X.env.globals X.env.builtins) (fun bi s₄ =>
        ∃ (Ia : Addr) (fp wr : List Addr) (n : Nat) (Pf : Nat → Value → Prop) (St : Nat → Heap → Prop) (F : Nat → Value → Prop), Value.ref s1.heap.objs.size = .ref Ia ∧ (∀ C : Around, C.handled = none → Walks X.prog X.w C Ia fp wr n Pf St) ∧ St 0 s₄.heap ∧ (∀ b ∈ fp, b < s₄.heap.objs.size) ∧ s₄.heap.NoLimit ∧ cStatics ∉ wr ∧
          (∀ hr : Heap, (∀ b u, s₄.heap.get? b = some u → hr.get? b = some u) → Tgt X.prog X.w (.Tuple [.Name x0 p0, .Name x px, .Name x2 p2, .Name x3 p3] kt pt) elt (genEnv scope (cloFrom X.env.cells scope.names []) s₄.heap.objs.size code bi X.env) Ia (List.range s₄.heap.objs.size) wr Pf St F hr (X.A.depth + 1) (X.A.units + 8)) ∧ Gone X.prog X.w X.A Z s₄ wr n F) X.xe { s1 with heap := h3, toks := tk } := by
    intro code h3 tk ps' hx hsz hP3 hmore ht3
    obtain ⟨bm, ob, e1, e2, e3, e4, e5, e6, e7, e8⟩ := TB.bm
    have szo : (s1.heap.push o).objs.size = s1.heap.objs.size + 1 := Heap.size_push ..
    have k3 : ∀ b u, b ≠ P → s1.heap.get? b = some u → h3.get? b = some u := fun b u hb e => hx b u hb (push_ok b u e)
    have hcP : cStatics ≠ P := by
      rintro rfl
      obtain ⟨_, hns, _⟩ := I1.nolimit
      obtain ⟨o', es, ep, ho, hd, _⟩ := hns
      rw [hPs] at ho
      cases ho
      cases hd
    have hcl : cStatics < s1.heap.objs.size := let ⟨_, hns, _⟩ := I1.nolimit; hns.lt
    refine wpAny_builtinsFor (m := X.mg) (by rw [I1.ok.glob]; exact ((I1.mod.glob.keeps I1.bk).push o).extBut hx TB.gP) e1 e2 (k3 _ _ e4 (I1.bk _ _ e5)) e6 e7 e8 ?_
    have hi3 : s1.heap.objs.size < h3.objs.size := by omega
    refine ⟨s1.heap.objs.size, s1.heap.objs.size :: fpv, [s1.heap.objs.size], es.length, Pf, St, (fun i y => ∃ b, bs[i]? = some b ∧ y = .bool b), rfl, fun C hC => S.walks C hC, ?_, ?_, lim2.extBut hx hcP, ?_, ?_, ?_⟩
    · refine S.st0 h3 fun b u hb e => hx b u (fun z => ?_) e
      rcases hb with hb | hb
      · exact adP b hb z
      · exact Nat.ne_of_gt hPlt (hb.symm.trans z)
    · intro b hb
      rcases List.mem_cons.mp hb with hb | hb
      · rw [hb]; exact hi3
      · exact Nat.lt_trans (S.fplt b hb).1 hi3
    · intro z
      simp only [List.mem_cons, List.not_mem_nil, or_false] at z
      exact Nat.ne_of_lt hcl z
    · intro hr hhr
      obtain ⟨hd, g1, g2⟩ := restrict h3 fun b => decide (b ≠ s1.heap.objs.size)
      have old : ∀ b u, b ≠ P → s1.heap.get? b = some u → hd.get? b = some u := fun b u nb e => by
        rw [g1 b (decide_eq_true (Nat.ne_of_lt (Heap.lt_size e)))]
        exact k3 b u nb e
      have up3 : Up hd h3 := fun b u e => by
        by_cases hb : b = s1.heap.objs.size
        · rw [g2 b (by simp [hb])] at e
          cases e
        · rw [g1 b (decide_eq_true hb)] at e
          exact e
      have bP : ∀ b u, X.base.get? b = some u → b ≠ P := fun b u e z => by
        have q := (I1.bs b u e).2
        rw [z, hP] at q
        cases q
      have bup : ∀ b u, X.base.get? b = some u → hd.get? b = some u := fun b u e => old b u (bP b u e) (I1.bk b u e)
      have OK : (Qc.mk X.prog X.w X.K X.mg (wipe H1 P) hd).Ok := by
        obtain ⟨mb, q1, q2⟩ := I1.mod.blt
        refine ⟨I1.mod.kin.keeps bup, I1.mod.glob.keeps bup, ⟨mb, q1.keeps bup, q2⟩, I1.mod.nolimit.keeps bup, fun a u e => ?_⟩
        obtain ⟨na, e⟩ := wipe_of e
        have noP : ∀ b, H1 b = some (.own a) → b ≠ P := fun b q z => by
          rw [z, hP] at q
          cases q
        refine (I1.hok a u e).stay (fun b u' hb q => old b u' ?_ q) (fun b q => wipe_at (noP b q) q) (fun b ys q => wipe_at (fun z => ?_) q)
        · rcases hb with hb | hb
          · rw [hb]; exact na
          · exact noP b hb
        · rw [z, hP] at q
          cases q
      have seen2 : ∀ z : Heap, Still (List.range h3.objs.size) [s1.heap.objs.size] hr z → Up hd z := fun z hk b u e => by
        have h3e := up3 b u e
        refine hk b (List.mem_range.mpr (Heap.lt_size h3e)) (fun q => ?_) u (hhr b u h3e)
        have hb : b = s1.heap.objs.size := by simpa using q
        rw [g2 b (by simp [hb])] at e
        cases e
      refine ⟨fun C E' i v z Q' hPv hst q => ?_, fun C E' i v z m₂ Q' hC hPv hn hk q => ?_⟩
      · obtain ⟨ev, hev, ru⟩ := S.item i v hPv
        obtain ⟨t, a0, xv, a2, a3, rfl, hxv, ht⟩ := hfour.2 i ev hev
        have ru : v = .ref t := ru
        subst ru
        exact so C E' _ _ _ i t z Q' hst q
      · obtain ⟨ev, hev, ru⟩ := S.item i v hPv
        obtain ⟨t, a0, xv, a2, a3, rfl, hxv, ht⟩ := hfour.2 i ev hev
        have ru : v = .ref t := ru
        subst ru
        have hix : i < xs.length := (List.getElem?_eq_some_iff.mp hxv).1
        have upS := seen2 _ hk
        have nt : t ≠ P := fun q => by
          rw [q, hP] at ht
          cases ht
        obtain ⟨_, its2, r2, ob2, hob2, hcl2', nn2, hdt2⟩ := I1.hok _ _ ht
        obtain ⟨w0, w1, w2, w3, eit, rw1⟩ := four_vals r2
        have hT : z.heap.IsTuple t #[w0, w1, w2, w3] := ⟨ob2, upS _ _ (old _ _ nt hob2), hcl2', nn2, by rw [hdt2, eit]⟩
        refine put_four hC hT hn l0 GS.loc l2 l3 n2 n3 (by simp [genEnv, GS.kind]) fun g tk m' ns' hm' kg => q g tk m' ns' kg fun C2 E2 y hC2 hd2 _ hny hky => ?_
        have upY := seen2 _ hky
        have at2 : At ⟨X.prog, X.w, X.K, X.mg, wipe H1 P, hd⟩ (genEnv scope (cloFrom X.env.cells scope.names []) h3.objs.size code builtinsNs X.env) ((x, xv) :: caps) y.heap := by
          refine ⟨upY, GS.kind, I1.ok.glob, rfl, m', hny, fun yy vy hy => ?_⟩
          by_cases ey : yy = x
          · subst ey
            have e9 : xv = vy := by simpa [List.lookup] using hy
            exact ⟨w1, e9 ▸ rw1, .inl ⟨GS.loc, hm'⟩⟩
          · have ey' : (yy == x) = false := by simpa using ey
            have hy2 : caps.lookup yy = some vy := by simpa [List.lookup, ey'] using hy
            obtain ⟨_, hmem, hfr, j, hj, hσ, hcl2⟩ := hcap yy vy hy2
            obtain ⟨m1, hn1, hloc⟩ := I1.loc
            obtain ⟨u9, r9, l9⟩ := hloc j yy vy hj hσ (.inr (.inl hcl2))
            refine ⟨u9, r9, .inr ⟨.inr hfr, ?_⟩⟩
            rcases l9 with ⟨l9, _⟩ | ⟨_, ca, hca, hic⟩
            · have l8 : X.env.scope.names.lookup yy = some .local := l9
              rw [hcl2] at l8
              cases l8
            · refine ⟨ca, NdefX.clo_has GS.free hmem hca, ?_⟩
              obtain ⟨oc, ec, rc⟩ := hic
              have nP : ca ≠ P := fun z => by
                have q := I1.freeC yy ca hca
                rw [z, hP] at q
                cases q
              exact ⟨oc, upY _ _ (old _ _ nP ec), rc⟩
        obtain ⟨b, hb⟩ : ∃ b, bs[i]? = some b := ⟨bs[i]'(by rw [hel.1]; exact hix), List.getElem?_eq_getElem _⟩
        refine hel.2 hd _ OK rfl i xv b hxv hb C2 E2 _ y ⟨hC2, by omega⟩ at2 fun u9 g9 tk9 r9 up9 => ?_
        exact ⟨⟨b, hb, r9⟩, g9, tk9, rfl, up9⟩
    · intro g h5 tk5 gs hgb hag hsz5 hk5 W5 hgat
      simp only [GxR.passing_true, List.length_range] at W5
      have hn5 : es.length = bs.length := hfour.1.trans hel.1.symm
      rw [hn5] at W5 hgat
      refine hZ xs bs H1 g _ hR ⟨_, _, _, _, _, W5.in4_1, hgat, ?_, fun s' hm => ?_⟩
      · intro j y sj Qj Ej hy hQj
        obtain ⟨i, hij, b, hxv, rfl⟩ := hy
        obtain ⟨hj, ej⟩ := List.getElem?_eq_some_iff.mp hij
        rw [List.getElem_range] at ej
        subst ej
        have hQ2 : Qj (trB bs j) sj := hQj
        rw [trB_some hxv] at hQ2
        exact wpAny_truthy_bool hQ2
      · obtain ⟨more, em⟩ := hmore
        have nwr : ∀ b u, s1.heap.get? b = some u → b ∉ h3.objs.size :: [s1.heap.objs.size] := fun b u e hb => by
          have hl := Heap.lt_size e
          simp only [List.mem_cons, List.not_mem_nil, or_false] at hb
          rcases hb with hb | hb
          · rw [hb] at hl
            exact absurd (Nat.lt_trans hl hi3) (Nat.lt_irrefl _)
          · rw [hb] at hl
            exact Nat.lt_irrefl _ hl
        have J := GxR.inv_tab (more := more) (h' := s'.heap) (g' := s'.gens) (d' := s'.drawn) (t' := s'.toks) I1 hP (fun b u hb e => hm.heap b u (nwr b u e) (hk5 b u (k3 b u hb e)))
          (by rw [← em]; exact hm.heap P _ (nwr P _ hPs) (hk5 P _ hP3)) (AllBare.movedS (I1.bare.push hgb) hm)
        rw [GxR.sh_eta s1 s' hm.os] at J
        exact ⟨upd H1 P (.tbl (ps ++ more)), ⟨⟨ps ++ more, upd_same, by rw [← em]; exact ht3⟩, fun b hb => upd_ne hb⟩, J⟩
  refine ⟨lim2, ?_⟩
  cases hf : codeAmong gpos ps.toList with
  | none =>
    refine wpAny_genexprCodeX hcode (cd.code hPo htr) (cd.tab hPo) hf fun c' h' tk hx hge hlt hco' _ htab' _ => ?_
    obtain ⟨_, _, _, _, _, _, _, _, _, _, _, _, _, _, _, _, _, _, _, htr', _⟩ := hco'
    exact go _ h' tk _ hx (Nat.le_trans hge (Nat.le_of_lt hlt)) htab'.2 ⟨_, rfl⟩ htr'
  | some cv =>
    refine wpAny_genexprCode_hit hcode (cd.code hPo htr) hf ?_
    exact go cv (s1.heap.push o) s1.toks ps (Heap.ExtBut.refl _ _) (Nat.le_refl _) hPo ⟨#[], by simp⟩ htr


/-- all(.. for _, x, _, _ in ..), the element a quiet truth -/
def tAllT (X : Cx) (P : Addr) (k : Nat) (scope : Scope) (x : Str) (elt : Expr) (te : L2.St → Hp → (List V → Hp → Prop) → Prop) : TE := fun σ H Q => te σ H fun es H1 => ∃ (xs : List V) (bs : List Bool) (caps : Nm),
  GxR.TabG H1 P ∧ Caps X scope x σ caps ∧ Four H1 es xs ∧ Elt X (3 * k) scope x elt caps (wipe H1 P) xs bs ∧ ∀ H2, GxR.Tabbed P H1 H2 → Q (.bl (bs.all id)) H2
theorem pe_allT {c P : Addr} {elt iter : Expr} {x x0 x2 x3 : Str} {px p0 p2 p3 pt p pos gpos : Pos} {kt : Nat} {scope : Scope} {te : L2.St → Hp → (List V → Hp → Prop) → Prop} {k : Nat}
    (rm : Room (k + 2) X.A) (hg : Gl X "all") (hm : X.mg "all" = none) (TB : GxR.TabB X.base X.mg c P) (hcode : X.env.code = .ref c) (GS : GxR.GenS X.env scope x) (l0 : scope.names.lookup x0 = some .local) (l2 : scope.names.lookup x2 = some .local) (l3 : scope.names.lookup x3 = some .local) (n2 : x2 ≠ x) (n3 : x3 ≠ x) (hi : PSo X iter te)
    (hs : ∀ v, genFold iter X.env v = pure v) (hb : bootBuiltins "all" = some (.builtin "all") := by decide +kernel)
    (he : starEach [.GeneratorExp elt [⟨.Tuple [.Name x0 p0, .Name x px, .Name x2 p2, .Name x3 p3] kt pt, iter, [], 0⟩] scope gpos] X.env = (false, eval (.GeneratorExp elt [⟨.Tuple [.Name x0 p0, .Name x px, .Name x2 p2, .Name x3 p3] kt pt, iter, [], 0⟩] scope gpos) X.env) :: starEach [] X.env := by rfl) :
    PE X (.Call (.Name "all" p) [.GeneratorExp elt [⟨.Tuple [.Name x0 p0, .Name x px, .Name x2 p2, .Name x3 p3] kt pt, iter, [], 0⟩] scope gpos] [] pos) (tAllT X P k scope x elt te) := by
  refine ⟨fun pins s σ H Q I h => ?_⟩
  refine wpAny_Call_Name_kw (ld_blt I hg hm hb (PyProof.Rows.callWith_builtin1 ?_ he (by rfl)))
  rw [he]
  show wpAny _ X.A (spliced ((false, eval (.GeneratorExp elt [⟨.Tuple [.Name x0 p0, .Name x px, .Name x2 p2, .Name x3 p3] kt pt, iter, [], 0⟩] scope gpos) X.env) :: backTo pos (starEach [] X.env))) _ X.xe s
  refine Calls.spliced_cons (gen_madeT (R := fun xs bs H1 => ∀ H2, GxR.Tabbed P H1 H2 → Q (.bl (bs.all id)) H2) rm TB hcode GS l0 l2 l3 n2 n3 hi hs I h fun xs bs H1 g s5 hR hG => Calls.spliced_nil ?_)
  obtain ⟨fp, wr, G, F, St, W, hst, htr, hI⟩ := hG
  refine call_all_walkS (W.self 0 _ _ _ hst ⟨g, fp, wr, G, _, F, St, _, rfl, W, hst, htr, fun s' hmv => ?_⟩)
  obtain ⟨H2, hT, J⟩ := hI s' hmv
  exact ⟨.bl _, H2, J, rfl, by rw [trB_all bs]; exact hR H2 hT⟩
end
end Qt

namespace K57
open PySem PySem.Spec PyProof.Rows L2 Qt Em
/-! ### the text by places -/
def topS (i : Nat) : Stmt := PySem.Challenge.pw_emberlane_k57_where_none_is_lost.main.body.getD i (.Pass ⟨0, 0, 0, 0⟩)
abbrev s_is_whole : Stmt := topS 8
abbrev s_is_whole_N : List Str := ["thing"]
theorem sc_is_whole : FnScope s_is_whole_N ["thing"] (defScope s_is_whole) := ⟨rfl, rfl, rfl, by decide +kernel, rfl, by decide +kernel, by decide +kernel⟩
abbrev s_is_pair : Stmt := topS 9
abbrev s_is_pair_N : List Str := ["thing"]
theorem sc_is_pair : FnScope s_is_pair_N ["thing"] (defScope s_is_pair) := ⟨rfl, rfl, rfl, by decide +kernel, rfl, by decide +kernel, by decide +kernel⟩
abbrev s_is_number_of_many : Stmt := topS 10
abbrev s_is_number_of_many_N : List Str := ["thing", "many"]
theorem sc_is_number_of_many : FnScope s_is_number_of_many_N ["thing", "many"] (defScope s_is_number_of_many) := ⟨rfl, rfl, rfl, by decide +kernel, rfl, by decide +kernel, by decide +kernel⟩
abbrev s_is_lamp_of_many : Stmt := topS 11
abbrev s_is_lamp_of_many_N : List Str := ["thing", "many", "length", "onward"]
theorem sc_is_lamp_of_many : FnScope s_is_lamp_of_many_N ["thing", "many"] (defScope s_is_lamp_of_many) := ⟨rfl, rfl, rfl, by decide +kernel, rfl, by decide +kernel, by decide +kernel⟩
abbrev s_is_net : Stmt := topS 12
abbrev s_is_net_N : List Str := ["thing", "many"]
theorem sc_is_net : FnScope s_is_net_N ["thing"] (defScope s_is_net) := ⟨rfl, rfl, rfl, by decide +kernel, rfl, by decide +kernel, by decide +kernel⟩
abbrev s_need_net : Stmt := topS 13
abbrev s_need_net_N : List Str := ["net"]
theorem sc_need_net : FnScope s_need_net_N ["net"] (defScope s_need_net) := ⟨rfl, rfl, rfl, by decide +kernel, rfl, by decide +kernel, by decide +kernel⟩
abbrev s_need_lamp : Stmt := topS 14
abbrev s_need_lamp_N : List Str := ["net", "lamp"]
theorem sc_need_lamp : FnScope s_need_lamp_N ["net", "lamp"] (defScope s_need_lamp) := ⟨rfl, rfl, rfl, by decide +kernel, rfl, by decide +kernel, by decide +kernel⟩
abbrev s_is_kindling_of_many : Stmt := topS 15
abbrev s_is_kindling_of_many_N : List Str := ["thing", "many", "beat", "lamp"]
theorem sc_is_kindling_of_many : FnScope s_is_kindling_of_many_N ["thing", "many"] (defScope s_is_kindling_of_many) := ⟨rfl, rfl, rfl, by decide +kernel, rfl, by decide +kernel, by decide +kernel⟩
abbrev s_are_kindlings : Stmt := topS 16
abbrev s_are_kindlings_N : List Str := ["net", "thing", "many"]
theorem sc_are_kindlings : FnScope s_are_kindlings_N ["net", "thing"] (defScope s_are_kindlings) := ⟨rfl, rfl, rfl, by decide +kernel, rfl, by decide +kernel, by decide +kernel⟩
abbrev s_way_of : Stmt := topS 17
abbrev s_way_of_N : List Str := ["net", "lamp", "gone", "at", "first"]
theorem sc_way_of : FnScope s_way_of_N ["net", "lamp"] (defScope s_way_of) := ⟨rfl, rfl, rfl, by decide +kernel, rfl, by decide +kernel, by decide +kernel⟩
abbrev s_need_kindlings : Stmt := topS 19
abbrev s_need_kindlings_N : List Str := ["net", "kindlings"]
theorem sc_need_kindlings : FnScope s_need_kindlings_N ["net", "kindlings"] (defScope s_need_kindlings) := ⟨rfl, rfl, rfl, by decide +kernel, rfl, by decide +kernel, by decide +kernel⟩
abbrev s_lights_of : Stmt := topS 21
abbrev s_lights_of_N : List Str := ["net", "kindling", "beat", "lamp", "ahead", "ring", "lap", "lights", "at"]
theorem sc_lights_of : FnScope s_lights_of_N ["net", "kindling"] (defScope s_lights_of) := ⟨rfl, rfl, rfl, by decide +kernel, rfl, by decide +kernel, by decide +kernel⟩
abbrev s_clash_on_lamp : Stmt := topS 23
abbrev s_clash_on_lamp_N : List Str := ["length", "lap", "early", "late", "first", "one", "beat", "other", "gap"]
theorem sc_clash_on_lamp : FnScope s_clash_on_lamp_N ["length", "lap", "early", "late"] (defScope s_clash_on_lamp) := ⟨rfl, rfl, rfl, by decide +kernel, rfl, by decide +kernel, by decide +kernel⟩
abbrev s_first_clash : Stmt := topS 24
abbrev s_first_clash_N : List Str := ["net", "lights", "one", "other", "clashes", "lamp", "first", "lap", "early", "late", "clash", "beat", "lost", "robber"]
theorem sc_first_clash : FnScope s_first_clash_N ["net", "lights", "one", "other"] (defScope s_first_clash) := ⟨rfl, rfl, rfl, by decide +kernel, rfl, by decide +kernel, by decide +kernel⟩
abbrev s_first_clashes : Stmt := topS 25
abbrev s_first_clashes_N : List Str := ["net", "lights", "found", "other", "one", "clash"]
theorem sc_first_clashes : FnScope s_first_clashes_N ["net", "lights"] (defScope s_first_clashes) := ⟨rfl, rfl, rfl, by decide +kernel, rfl, by decide +kernel, by decide +kernel⟩
abbrev s_losses_by_lights : Stmt := topS 26
abbrev s_losses_by_lights_N : List Str := ["net", "lights", "lost", "rows", "beat", "lamp", "flame", "other"]
theorem sc_losses_by_lights : FnScope s_losses_by_lights_N ["net", "lights"] (defScope s_losses_by_lights) := ⟨rfl, rfl, rfl, by decide +kernel, rfl, by decide +kernel, by decide +kernel⟩
abbrev s_lights_of_all : Stmt := topS 27
abbrev s_lights_of_all_N : List Str := ["net", "kindlings", "kindling"]
theorem sc_lights_of_all : FnScope s_lights_of_all_N ["net", "kindlings"] (defScope s_lights_of_all) := ⟨rfl, rfl, rfl, by decide +kernel, rfl, by decide +kernel, by decide +kernel⟩
abbrev s_losses : Stmt := topS 28
abbrev s_losses_N : List Str := ["net", "kindlings"]
theorem sc_losses : FnScope s_losses_N ["net", "kindlings"] (defScope s_losses) := ⟨rfl, rfl, rfl, by decide +kernel, rfl, by decide +kernel, by decide +kernel⟩
abbrev s_none_lost_at : Stmt := topS 30
abbrev s_none_lost_at_N : List Str := ["net", "kindlings", "lamp"]
theorem sc_none_lost_at : FnScope s_none_lost_at_N ["net", "kindlings", "lamp"] (defScope s_none_lost_at) := ⟨rfl, rfl, rfl, by decide +kernel, rfl, by decide +kernel, by decide +kernel⟩
abbrev s_law_jar : Stmt := topS 32
abbrev s_law_jar_N : List Str := ["script", "k", "cell"]
theorem sc_law_jar : FnScope s_law_jar_N ["script", "k"] (defScope s_law_jar) := ⟨rfl, rfl, rfl, by decide +kernel, rfl, by decide +kernel, by decide +kernel⟩
abbrev s_law_dip : Stmt := topS 33
abbrev s_law_dip_N : List Str := ["jar", "below", "found", "mixed"]
theorem sc_law_dip : FnScope s_law_dip_N ["jar", "below"] (defScope s_law_dip) := ⟨rfl, rfl, rfl, by decide +kernel, rfl, by decide +kernel, by decide +kernel⟩
abbrev s_law_lengths : Stmt := topS 34
abbrev s_law_lengths_N : List Str := ["jar", "size", "style", "base", "long", "k"]
theorem sc_law_lengths : FnScope s_law_lengths_N ["jar", "size"] (defScope s_law_lengths) := ⟨rfl, rfl, rfl, by decide +kernel, rfl, by decide +kernel, by decide +kernel⟩
abbrev s_law_land : Stmt := topS 35
abbrev s_law_land_N : List Str := ["jar", "least", "most", "size", "tour", "back", "found", "k", "burns", "follower"]
theorem sc_law_land : FnScope s_law_land_N ["jar", "least", "most"] (defScope s_law_land) := ⟨rfl, rfl, rfl, by decide +kernel, rfl, by decide +kernel, by decide +kernel⟩
abbrev s_law_sparks : Stmt := topS 36
abbrev s_law_sparks_N : List Str := ["jar", "land", "most", "late", "k"]
theorem sc_law_sparks : FnScope s_law_sparks_N ["jar", "land", "most"] (defScope s_law_sparks) := ⟨rfl, rfl, rfl, by decide +kernel, rfl, by decide +kernel, by decide +kernel⟩
abbrev s_law_arrivals : Stmt := topS 37
abbrev s_law_arrivals_N : List Str := ["land", "sparks", "burning", "beat", "come", "ended", "spot", "ember", "k"]
theorem sc_law_arrivals : FnScope s_law_arrivals_N ["land", "sparks", "burning", "beat"] (defScope s_law_arrivals) := ⟨rfl, rfl, rfl, by decide +kernel, rfl, by decide +kernel, by decide +kernel⟩
abbrev s_law_walk : Stmt := topS 38
abbrev s_law_walk_N : List Str := ["land", "sparks", "last", "spark", "burning", "lost", "lit", "ended", "beat", "burns", "follower", "come", "over", "spot", "some", "ember"]
theorem sc_law_walk : FnScope s_law_walk_N ["land", "sparks"] (defScope s_law_walk) := ⟨rfl, rfl, rfl, by decide +kernel, rfl, by decide +kernel, by decide +kernel⟩
abbrev s_law_times : Stmt := topS 39
abbrev s_law_times_N : List Str := ["jar", "times"]
theorem sc_law_times : FnScope s_law_times_N ["jar"] (defScope s_law_times) := ⟨rfl, rfl, rfl, by decide +kernel, rfl, by decide +kernel, by decide +kernel⟩
abbrev s_law_great : Stmt := topS 40
abbrev s_law_great_N : List Str := ["land", "sparks", "times", "later", "wide", "burns", "follower", "beat", "spot"]
theorem sc_law_great : FnScope s_law_great_N ["land", "sparks", "times", "later"] (defScope s_law_great) := ⟨rfl, rfl, rfl, by decide +kernel, rfl, by decide +kernel, by decide +kernel⟩
abbrev s_law : Stmt := topS 41
abbrev s_law_N : List Str := ["script", "k", "jar", "land", "sparks", "places", "beat", "spot", "ember", "other", "times", "later", "wide", "wide_sparks", "kept", "due", "told", "one"]
theorem sc_law : FnScope s_law_N ["script"] (defScope s_law) := ⟨rfl, rfl, rfl, by decide +kernel, rfl, by decide +kernel, by decide +kernel⟩

structure Ad where
  a_is_whole : Addr
  f_is_whole : FuncData
  a_is_pair : Addr
  f_is_pair : FuncData
  a_is_number_of_many : Addr
  f_is_number_of_many : FuncData
  a_is_lamp_of_many : Addr
  f_is_lamp_of_many : FuncData
  a_is_net : Addr
  f_is_net : FuncData
  a_need_net : Addr
  f_need_net : FuncData
  a_need_lamp : Addr
  f_need_lamp : FuncData
  a_is_kindling_of_many : Addr
  f_is_kindling_of_many : FuncData
  a_are_kindlings : Addr
  f_are_kindlings : FuncData
  a_way_of : Addr
  f_way_of : FuncData
  a_need_kindlings : Addr
  f_need_kindlings : FuncData
  a_lights_of : Addr
  f_lights_of : FuncData
  a_clash_on_lamp : Addr
  f_clash_on_lamp : FuncData
  a_first_clash : Addr
  f_first_clash : FuncData
  a_first_clashes : Addr
  f_first_clashes : FuncData
  a_losses_by_lights : Addr
  f_losses_by_lights : FuncData
  a_lights_of_all : Addr
  f_lights_of_all : FuncData
  a_losses : Addr
  f_losses : FuncData
  a_none_lost_at : Addr
  f_none_lost_at : FuncData
  a_law_jar : Addr
  f_law_jar : FuncData
  a_law_dip : Addr
  f_law_dip : FuncData
  a_law_lengths : Addr
  f_law_lengths : FuncData
  a_law_land : Addr
  f_law_land : FuncData
  a_law_sparks : Addr
  f_law_sparks : FuncData
  a_law_arrivals : Addr
  f_law_arrivals : FuncData
  a_law_walk : Addr
  f_law_walk : FuncData
  a_law_times : Addr
  f_law_times : FuncData
  a_law_great : Addr
  f_law_great : FuncData
  a_law : Addr
  f_law : FuncData
  c_EmberError : Addr
  c_NoNet : Addr
  c_NoKindlings : Addr
  c_NoLamp : Addr
  cd_none_lost_at : Addr
  tb_none_lost_at : Addr
  cd_is_net : Addr
  tb_is_net : Addr
  cd_lights_of : Addr
  tb_lights_of : Addr
  cd_are_kindlings : Addr
  tb_are_kindlings : Addr
structure Tx (K : PySem.W.Frag) (mg : Str → Option Value) (a : Ad) : Prop where
  is_whole : Df K mg "is_whole" s_is_whole ["thing"] a.a_is_whole a.f_is_whole
  is_pair : Df K mg "is_pair" s_is_pair ["thing"] a.a_is_pair a.f_is_pair
  is_number_of_many : Df K mg "is_number_of_many" s_is_number_of_many ["thing", "many"] a.a_is_number_of_many a.f_is_number_of_many
  is_lamp_of_many : Df K mg "is_lamp_of_many" s_is_lamp_of_many ["thing", "many"] a.a_is_lamp_of_many a.f_is_lamp_of_many
  is_net : Df K mg "is_net" s_is_net ["thing"] a.a_is_net a.f_is_net
  need_net : Df K mg "need_net" s_need_net ["net"] a.a_need_net a.f_need_net
  need_lamp : Df K mg "need_lamp" s_need_lamp ["net", "lamp"] a.a_need_lamp a.f_need_lamp
  is_kindling_of_many : Df K mg "is_kindling_of_many" s_is_kindling_of_many ["thing", "many"] a.a_is_kindling_of_many a.f_is_kindling_of_many
  are_kindlings : Df K mg "are_kindlings" s_are_kindlings ["net", "thing"] a.a_are_kindlings a.f_are_kindlings
  way_of : Df K mg "way_of" s_way_of ["net", "lamp"] a.a_way_of a.f_way_of
  need_kindlings : Df K mg "need_kindlings" s_need_kindlings ["net", "kindlings"] a.a_need_kindlings a.f_need_kindlings
  lights_of : Df K mg "lights_of" s_lights_of ["net", "kindling"] a.a_lights_of a.f_lights_of
  clash_on_lamp : Df K mg "clash_on_lamp" s_clash_on_lamp ["length", "lap", "early", "late"] a.a_clash_on_lamp a.f_clash_on_lamp
  first_clash : Df K mg "first_clash" s_first_clash ["net", "lights", "one", "other"] a.a_first_clash a.f_first_clash
  first_clashes : Df K mg "first_clashes" s_first_clashes ["net", "lights"] a.a_first_clashes a.f_first_clashes
  losses_by_lights : Df K mg "losses_by_lights" s_losses_by_lights ["net", "lights"] a.a_losses_by_lights a.f_losses_by_lights
  lights_of_all : Df K mg "lights_of_all" s_lights_of_all ["net", "kindlings"] a.a_lights_of_all a.f_lights_of_all
  losses : Df K mg "losses" s_losses ["net", "kindlings"] a.a_losses a.f_losses
  none_lost_at : Df K mg "none_lost_at" s_none_lost_at ["net", "kindlings", "lamp"] a.a_none_lost_at a.f_none_lost_at
  law_jar : Df K mg "_law_jar" s_law_jar ["script", "k"] a.a_law_jar a.f_law_jar
  law_dip : Df K mg "_law_dip" s_law_dip ["jar", "below"] a.a_law_dip a.f_law_dip
  law_lengths : Df K mg "_law_lengths" s_law_lengths ["jar", "size"] a.a_law_lengths a.f_law_lengths
  law_land : Df K mg "_law_land" s_law_land ["jar", "least", "most"] a.a_law_land a.f_law_land
  law_sparks : Df K mg "_law_sparks" s_law_sparks ["jar", "land", "most"] a.a_law_sparks a.f_law_sparks
  law_arrivals : Df K mg "_law_arrivals" s_law_arrivals ["land", "sparks", "burning", "beat"] a.a_law_arrivals a.f_law_arrivals
  law_walk : Df K mg "_law_walk" s_law_walk ["land", "sparks"] a.a_law_walk a.f_law_walk
  law_times : Df K mg "_law_times" s_law_times ["jar"] a.a_law_times a.f_law_times
  law_great : Df K mg "_law_great" s_law_great ["land", "sparks", "times", "later"] a.a_law_great a.f_law_great
  law : Df K mg "law" s_law ["script"] a.a_law a.f_law
  n_all : mg "all" = none
  n_bool : mg "bool" = none
  n_enumerate : mg "enumerate" = none
  n_int : mg "int" = none
  n_isinstance : mg "isinstance" = none
  n_len : mg "len" = none
  n_list : mg "list" = none
  n_max : mg "max" = none
  n_min : mg "min" = none
  n_range : mg "range" = none
  n_repr : mg "repr" = none
  n_sorted : mg "sorted" = none
  n_sum : mg "sum" = none
  n_tuple : mg "tuple" = none
  c_MOST_LAMPS : ∃ t, mg "MOST_LAMPS" = some (.int 12 t)
  c_MOST_KINDLINGS : ∃ t, mg "MOST_KINDLINGS" = some (.int 40 t)
  code_none_lost_at : CodeIs K a.a_none_lost_at a.cd_none_lost_at
  code_is_net : CodeIs K a.a_is_net a.cd_is_net
  code_lights_of : CodeIs K a.a_lights_of a.cd_lights_of
  code_are_kindlings : CodeIs K a.a_are_kindlings a.cd_are_kindlings
  g_EmberError : mg "EmberError" = some (.ref a.c_EmberError)
  g_NoNet : mg "NoNet" = some (.ref a.c_NoNet)
  g_NoKindlings : mg "NoKindlings" = some (.ref a.c_NoKindlings)
  g_NoLamp : mg "NoLamp" = some (.ref a.c_NoLamp)
def lv_is_whole : Nat := 1
def lv_is_pair : Nat := 1
def lv_is_number_of_many : Nat := 2
def lv_is_lamp_of_many : Nat := 3
def lv_is_net : Nat := 6
def lv_need_net : Nat := 7
def lv_need_lamp : Nat := 3
def lv_is_kindling_of_many : Nat := 3
def lv_are_kindlings : Nat := 10
def lv_way_of : Nat := 8
def lv_need_kindlings : Nat := 11
def lv_lights_of : Nat := 11
def lv_clash_on_lamp : Nat := 1
def lv_first_clash : Nat := 2
def lv_first_clashes : Nat := 3
def lv_losses_by_lights : Nat := 4
def lv_lights_of_all : Nat := 12
def lv_losses : Nat := 13
def lv_none_lost_at : Nat := 16
def lv_law_jar : Nat := 1
def lv_law_dip : Nat := 1
def lv_law_lengths : Nat := 2
def lv_law_land : Nat := 3
def lv_law_sparks : Nat := 2
def lv_law_arrivals : Nat := 1
def lv_law_walk : Nat := 2
def lv_law_times : Nat := 2
def lv_law_great : Nat := 1
def lv_law : Nat := 17
def kg_none_lost_at_lamp_kindlings_net {α : Type} : List α → List α → List α
  | [], [x0, x1, x2] => [x2, x1, x0]
  | _, _ => []
theorem kb_none_lost_at_lamp_kindlings_net {K : PySem.W.Frag} {mg : Str → Option Value} {a : Ad} (T : Tx K mg a) : KBinds K a.f_none_lost_at ["net", "kindlings", "lamp"] ["lamp", "kindlings", "net"] kg_none_lost_at_lamp_kindlings_net kg_none_lost_at_lamp_kindlings_net := by
  obtain ⟨oc, od, kV, doc, pm, an, cdv, ct, osl, e, lk, hcd⟩ := T.none_lost_at.F.ex
  refine ⟨fun s us ws _ hl => ?_, fun {vs us zs ws} rv rz => ?_⟩
  · rw [e]
    match us, ws, hl with
    | [], [x0, x1, x2], _ => exact BindsTo.of_eq rfl
  · cases rv with
    | cons _ _ => exact (show Vals [] [] from .nil)
    | nil =>
      cases rz with
      | nil => exact (show Vals [] [] from .nil)
      | cons r0 rz =>
        cases rz with
        | nil => exact (show Vals [] [] from .nil)
        | cons r1 rz =>
          cases rz with
          | nil => exact (show Vals [] [] from .nil)
          | cons r2 rz =>
            cases rz with
            | cons _ _ => exact (show Vals [] [] from .nil)
            | nil => exact .cons r2 (.cons r1 (.cons r0 (.nil)))
/-! ### is_whole, is_pair, is_number_of_many, is_lamp_of_many: quiet -/
section
variable {c : Qc} {a : Ad} {S : List Addr} {v u : V} {d e : PyData}
theorem qf_is_whole (O : c.Ok) (T : Tx c.K c.mg a) (h : Dx S c.H v d) : QF c 1 a.a_is_whole a.f_is_whole ["thing"] [v] (.bl (isW d)) := by
  refine q_fun O T.is_whole.F sc_is_whole (by decide +kernel) rfl fun L cdv => ?_
  have e1 : isW d = (kindB d "int" && !kindB d "bool") := by cases d <;> rfl
  rw [e1]
  exact qb_ret (q_and2 (qe_isi (C := "int") O h (q_name rfl) rfl T.n_isinstance rfl T.n_int (by decide +kernel) (by decide)) fun _ => q_not (qe_isi (C := "bool") O h (q_name rfl) rfl T.n_isinstance rfl T.n_bool (by decide +kernel) (by decide)))
def pairB : PyData → Bool
  | .tuple ds => (ds.length : Int) == 2
  | _ => false
theorem qf_is_pair (O : c.Ok) (T : Tx c.K c.mg a) (h : Dx S c.H v d) : QF c 1 a.a_is_pair a.f_is_pair ["thing"] [v] (.bl (pairB d)) := by
  refine q_fun O T.is_pair.F sc_is_pair (by decide +kernel) rfl fun L cdv => ?_
  have h1 : ∀ {k p1 p2 p3 pos}, QE c k (envOfC "is_pair" (defScope s_is_pair) L a.a_is_pair cdv) [("thing", v)] (.Call (.Name "isinstance" p1) [.Name "thing" p2, .Name (Str.ofString "tuple") p3] [] pos) (.bl (kindB d "tuple")) :=
    qe_isi (C := "tuple") O h (q_name rfl) rfl T.n_isinstance rfl T.n_tuple (by decide +kernel) (by decide)
  have e1 : pairB d = (kindB d "tuple" && pairB d) := by cases d <;> rfl
  rw [e1]
  refine qb_ret (q_and2 h1 fun z => ?_)
  cases h with
  | tup n h r =>
    have := r.len
    show QE _ _ _ _ _ (.bl ((_ : Int) == 2))
    rw [← this]
    exact q_cmp qo_eq (q_callB O (qc_lenT (tupQ_of O h)) rfl T.n_len (by decide +kernel) (qa_cons (q_name rfl) qa_nil)) q_int rfl
  | non => cases z
  | bl b => cases z
  | int i => cases z
  | str y => cases z
  | lst n h r => cases z
  | dic n h => cases z
theorem qf_is_number_of_many {m : Nat} (O : c.Ok) (T : Tx c.K c.mg a) (h : Dx S c.H v d) : QF c 2 a.a_is_number_of_many a.f_is_number_of_many ["thing", "many"] [v, .int m] (.bl (numB m d)) := by
  refine q_fun O T.is_number_of_many.F sc_is_number_of_many (by decide +kernel) rfl fun L cdv => ?_
  have e1 : numB m d = (isW d && numB m d) := by cases d <;> rfl
  rw [e1]
  refine qb_ret (q_and2 (q_call O (qf_is_whole O T h) T.is_whole.b rfl rfl T.is_whole.g T.is_whole.F.kp (qa_cons (q_name rfl) qa_nil)) fun z => ?_)
  cases h with
  | int i => exact q_chain qo_le qo_lt q_int (q_name rfl) (q_name rfl)
  | non => cases z
  | bl b => cases z
  | tup n h r => cases z
  | str y => cases z
  | lst n h r => cases z
  | dic n h => cases z
theorem lampB_pair {m : Nat} (h : pairB d = false) : lampB m d = false := by
  cases d with
  | tuple ds =>
    match ds, h with
    | [], _ => rfl
    | [_], _ => rfl
    | [_, _], h => cases h
    | _ :: _ :: _ :: _, _ => rfl
  | _ => rfl
theorem qf_is_lamp_of_many {m : Nat} (O : c.Ok) (T : Tx c.K c.mg a) (h : Dx S c.H v d) : QF c 3 a.a_is_lamp_of_many a.f_is_lamp_of_many ["thing", "many"] [v, .int m] (.bl (lampB m d)) := by
  refine q_fun O T.is_lamp_of_many.F sc_is_lamp_of_many (by decide +kernel) rfl fun L cdv => ?_
  have hp : ∀ {N : Nm} {p1 p2 pos}, N.lookup ("thing" : Str) = some v → QE c 2 (envOfC "is_lamp_of_many" (defScope s_is_lamp_of_many) L a.a_is_lamp_of_many cdv) N (.Call (.Name "is_pair" p1) [.Name "thing" p2] [] pos) (.bl (pairB d)) := fun hN =>
    q_call O (fun A R args us s r => qf_is_pair O T h A R args us s (r.mono (by decide))) T.is_pair.b rfl rfl T.is_pair.g T.is_pair.F.kp (qa_cons (q_name hN) qa_nil)
  cases z : pairB d with
  | false =>
    rw [lampB_pair z]
    refine qb_ifT (qt_not (t := false) (qt_val ?_)) (qb_ret q_bool)
    rw [← z]
    exact hp rfl
  | true =>
    refine qb_ifF (qt_not (t := true) (qt_val ?_)) ?_
    · rw [← z]
      exact hp rfl
    cases h with
    | @tup ad xs ds n h r =>
      have hl : (ds.length : Int) = 2 := by simpa [pairB] using z
      match ds, r with
      | [d1, d2], .cons (v := v1) r1 (.cons (v := v2) r2 .nil) =>
        refine qb_two (q_name rfl) (tupQ_of O h) rfl rfl (fun y hy => ?_) ?_
        · by_cases e1 : y = "thing"
          · rw [e1]; rfl
          · by_cases e2 : y = "many"
            · rw [e2]; rfl
            · have q1 : (y == ("thing" : Str)) = false := by simpa using e1
              have q2 : (y == ("many" : Str)) = false := by simpa using e2
              simp [List.zip, List.zipWith, List.lookup, q1, q2] at hy
        · have hw : ∀ {N : Nm} {p1 p2 pos}, N.lookup ("length" : Str) = some v1 → QE c 2 (envOfC "is_lamp_of_many" (defScope s_is_lamp_of_many) L a.a_is_lamp_of_many cdv) N (.Call (.Name "is_whole" p1) [.Name "length" p2] [] pos) (.bl (isW d1)) := fun hN =>
            q_call O (fun A R args us s r => qf_is_whole O T r1 A R args us s (r.mono (by decide))) T.is_whole.b rfl rfl T.is_whole.g T.is_whole.F.kp (qa_cons (q_name hN) qa_nil)
          cases y1 : isW d1 with
          | false =>
            have e3 : lampB m (.tuple [d1, d2]) = false := by
              have : lenB d1 = false := by cases d1 <;> first | rfl | cases y1
              show (lenB d1 && _) = false
              rw [this]; rfl
            rw [e3]
            refine qb_ifT (qt_orT (qt_not (t := false) (qt_val ?_))) (qb_ret q_bool)
            rw [← y1]
            exact hw rfl
          | true =>
            cases r1 with
            | int i =>
              have h0 : ∀ {p1 p2 p3 p4}, QT c 2 (envOfC "is_lamp_of_many" (defScope s_is_lamp_of_many) L a.a_is_lamp_of_many cdv) (("onward", v2) :: ("length", .int i) :: [("thing", .ref ad), ("many", .int m)])
                  (.UnaryOp .Not (.Call (.Name "is_whole" p1) [.Name "length" p2] [] p3) p4) false := by
                refine qt_not (t := true) (qt_val ?_)
                exact hw rfl
              have e4 : lampB m (.tuple [.int i, d2]) = (!decide (i < 1) && nxB m d2) := rfl
              cases y2 : decide (i < 1) with
              | true =>
                rw [e4, y2]
                exact qb_ifT (qt_or2 h0 (y2 ▸ qt_cmp qo_lt (q_name rfl) q_int rfl)) (qb_ret q_bool)
              | false =>
                rw [e4, y2]
                refine qb_ifF (qt_or2 h0 (y2 ▸ qt_cmp qo_lt (q_name rfl) q_int rfl)) ?_
                have e5 : (!false && nxB m d2) = (decide (v2 = .non) || numB m d2) := by
                  cases r2 <;> first | rfl | (simp [nxB])
                rw [e5]
                refine qb_ret (q_or2 (q_isN (q_name rfl)) fun _ => ?_)
                exact q_call O (fun A R args us s r => qf_is_number_of_many O T r2 A R args us s (r.mono (by decide))) T.is_number_of_many.b rfl rfl T.is_number_of_many.g T.is_number_of_many.F.kp (qa_cons (q_name rfl) (qa_cons (q_name rfl) qa_nil))
            | non => cases y1
            | bl b => cases y1
            | tup n h r => cases y1
            | str y => cases y1
            | lst n h r => cases y1
            | dic n h => cases y1
    | non => cases z
    | bl b => cases z
    | int i => cases z
    | str y => cases z
    | lst n h r => cases z
    | dic n h => cases z
end
/-! ### is_net -/
section
variable {P : Program} {w : World} {K : PySem.W.Frag} {mg : Str → Option Value} {base : Heap} {a : Ad}
/-- is_net(thing), thing any data -/
def spIsNet (TB : Addr) : Sp := fun vs H Q _ => ∃ (S : List Addr) (v : V) (d : PyData), vs = [v] ∧ Dx S H v d ∧ GxR.TabG H TB ∧ ∀ H', Kp [] H H' → Q (.bl (netB d)) H'
theorem ok_is_net (T : Tx K mg a) (TB : GxR.TabB base mg a.cd_is_net a.tb_is_net) : FnOk P w K mg base CX0 6 a.a_is_net a.f_is_net ["thing"] (spIsNet a.tb_is_net) := by
  refine okC T.is_net.F T.code_is_net sc_is_net (fun vs H Q E h => ?_) (fun A outer s H vs Q E hr h => ?_)
  · obtain ⟨S, v, d, rfl, _⟩ := h
    rfl
  obtain ⟨S, v, d, rfl, hd, ht, q⟩ := h
  refine ⟨_, (pss_cons (ps_if (pt_not (pt_val (pe_callB call_isi (by rfl) T.n_isinstance (by decide +kernel) (pa_cons (pv 0) (pa_cons (pe_bltn (v := .ty "tuple") (by rfl) T.n_tuple (by decide +kernel) rfl) pa_nil))))) (pss_one (ps_ret pe_bl)) pss_nil)
      (pss_cons (ps_set (i := 1) sc_is_net.nd rfl (by first | exact .inl rfl | exact .inr rfl) (pe_callB call_len_seq (by rfl) T.n_len (by decide +kernel) (pa_cons (pv 0) pa_nil)))
      (pss_cons (ps_if (PW.pt (pw_or (pt_cmpR op_lt (pv 1) pe_int (nomark _)) (pw_or1 (pt_cmpR op_gt (pv 1) (pe_glob (v := .int 12) rfl T.c_MOST_LAMPS.choose_spec ⟨_, rfl⟩) (nomark _))))) (pss_one (ps_ret pe_bl)) pss_nil)
      (pss_one (ps_ret (pe_allQ (k := 1) (hr.mono (by decide)) (by rfl) T.n_all TB rfl ⟨rfl, rfl, by decide +kernel, by decide +kernel, by decide +kernel, free_by (by decide +kernel)⟩ (pv 0) (fun _ => rfl))))))), ?_⟩
  have hk : PySem.W.kitOne K (.type (kname d)) (.type "tuple") = some (kindB d "tuple") := kit_data (by decide)
  refine ⟨v, rfl, v, .ty "tuple", _, _, _, rfl, .ty _, tyx_of hd, hk, _, rfl, ?_⟩
  cases z : kindB d "tuple" with
  | false =>
    refine iteT ?_
    have e : netB d = false := by cases d <;> first | rfl | cases z
    have := q H Kp.rfl'
    rw [e] at this
    exact this
  | true =>
    refine iteF ?_
    cases hd with
    | @tup ad xs ds n h r =>
      have hl : (xs.length : Int) = (ds.length : Int) := by rw [r.len]
      -- many = len(thing)
      refine ⟨.ref ad, rfl, ad, xs, rfl, .inr (SqT.of h), ?_⟩
      rw [hl]
      -- if many < 1 or many > MOST_LAMPS
      refine ⟨.int ds.length, rfl, _, _, rfl, rfl, _, rfl, ?_⟩
      have e0 : netB (.tuple ds) = (!decide ((ds.length : Int) < 1) && !decide ((12 : Int) < (ds.length : Int)) && (ds.map (lampB ds.length)).all id) := rfl
      cases z1 : decide ((ds.length : Int) < 1) with
      | true =>
        refine iteT (iteT ?_)
        have := q H Kp.rfl'
        rw [e0, z1] at this
        exact this
      | false =>
        refine iteF ⟨.int ds.length, rfl, _, _, rfl, rfl, _, rfl, ?_⟩
        cases z2 : decide ((12 : Int) < (ds.length : Int)) with
        | true =>
          refine iteT ?_
          have := q H Kp.rfl'
          rw [e0, z1, z2] at this
          exact this
        | false =>
          refine iteF ?_
          -- return all(..)
          refine ⟨.ref ad, rfl, ad, xs, ds.map (lampB ds.length), [("many", .int ds.length)], rfl, .inl (SqT.of h), ht, fun y vy hy => ?_, ⟨by rw [List.length_map, r.len], fun hd env OK hsc j xv b hx hb => ?_⟩, fun H2 hT => ?_⟩
          · by_cases ey : y = "many"
            · subst ey
              have e2 : V.int ds.length = vy := by simpa [List.lookup] using hy
              subst e2
              exact ⟨by decide, by decide +kernel, by decide +kernel, 1, rfl, rfl, (by decide +kernel : (defScope s_is_net).names.lookup _ = some .cell)⟩
            · have ey' : (y == ("many" : Str)) = false := by simpa using ey
              simp [List.lookup, ey'] at hy
          · obtain ⟨dj, hdj, hxv⟩ := r.get hx
            rw [List.getElem?_map, hdj] at hb
            cases hb
            have OT : Tx (Qc.mk P w K mg (wipe H a.tb_is_net) hd).K (Qc.mk P w K mg (wipe H a.tb_is_net) hd).mg a := T
            have hw : Dx S (wipe H a.tb_is_net) xv dj := hxv.wiped ht
            refine q_call OK (qf_is_lamp_of_many OK OT hw) T.is_lamp_of_many.b rfl ?_ T.is_lamp_of_many.g T.is_lamp_of_many.F.kp (qa_cons (q_name rfl) (qa_cons (q_name rfl) qa_nil))
            show env.scope.names.lookup _ = _
            rw [hsc]
            decide +kernel
          · have := q H2 (Kp.tabbed ht hT)
            rw [e0, z1, z2] at this
            exact this
    | non => cases z
    | bl b => cases z
    | int i => cases z
    | str y => cases z
    | lst n h r => cases z
    | dic n h => cases z
end

/-! ### need_net, need_lamp of what is right -/
section
variable {P : Program} {w : World} {K : PySem.W.Frag} {mg : Str → Option Value} {base : Heap} {a : Ad}
def spNeedNet (TB : Addr) : Sp := fun vs H Q _ => ∃ (S : List Addr) (v : V) (N : Net), vs = [v] ∧ Dx S H v (netD N) ∧ NetOk N ∧ GxR.TabG H TB ∧ ∀ H', Kp [] H H' → Q .non H'
theorem ok_need_net (T : Tx K mg a) (TB : GxR.TabB base mg a.cd_is_net a.tb_is_net) : FnOk P w K mg base CX0 7 a.a_need_net a.f_need_net ["net"] (spNeedNet a.tb_is_net) := by
  have G_is_net := ok_is_net (P := P) (w := w) (base := base) T TB
  refine T.need_net.F.ok sc_need_net (fun vs H Q E h => ?_) (fun cdv A outer s H vs Q E hr h => ?_)
  · obtain ⟨S, v, N, rfl, _⟩ := h
    rfl
  obtain ⟨S, v, N, rfl, hd, ok, ht, q⟩ := h
  refine ⟨_, (pss_one (ps_if (pt_not (pt_val (pe_call G_is_net (hr.mono (by decide)) (by rfl) T.is_net.g T.is_net.F.kp T.is_net.b .nil pass0 (pa_cons (pv 0) pa_nil)))) (pss_one ps_never) pss_nil)), ?_⟩
  refine ⟨v, rfl, S, v, netD N, rfl, hd, ht, fun H' k => ⟨true, by rw [netB_of ok], ?_⟩⟩
  exact iteF (q H' k)
def spNeedLamp : Sp := fun vs H Q _ => ∃ (S : List Addr) (v : V) (N : Net) (x : Nat), vs = [v, .int x] ∧ Dx S H v (netD N) ∧ x < N.length ∧ Q .non H
theorem ok_need_lamp (T : Tx K mg a) : FnOk P w K mg base CX0 3 a.a_need_lamp a.f_need_lamp ["net", "lamp"] spNeedLamp := by
  have G_is_number_of_many : FnOk P w K mg base CX0 2 a.a_is_number_of_many a.f_is_number_of_many ["thing", "many"] (fun vs H Q _ => ∃ (x m : Nat), vs = [.int x, .int m] ∧ x < m ∧ Q (.bl true) H) := by
    refine fn_ofQ (fun vs H Q E h => ?_) fun vs H Q E h => ?_
    · obtain ⟨x, m, rfl, _⟩ := h
      rfl
    · obtain ⟨x, m, rfl, hx, q⟩ := h
      refine ⟨.bl true, q, fun hd OK => ?_⟩
      have OT : Tx (Qc.mk P w K mg H hd).K (Qc.mk P w K mg H hd).mg a := T
      have := qf_is_number_of_many (S := []) (m := m) OK OT (.int (x : Int))
      have e : numB m (.int (x : Int)) = true := by
        show (decide ((0 : Int) ≤ (x : Int)) && decide ((x : Int) < (m : Int))) = true
        rw [decide_eq_true (by omega), decide_eq_true (by omega)]
        rfl
      rw [e] at this
      exact fun A R args us s r => this A R args us s (r.mono (by decide))
  refine T.need_lamp.F.ok sc_need_lamp (fun vs H Q E h => ?_) (fun cdv A outer s H vs Q E hr h => ?_)
  · obtain ⟨S, v, N, x, rfl, _⟩ := h
    rfl
  obtain ⟨S, v, N, x, rfl, hd, hx, q⟩ := h
  refine ⟨_, (pss_one (ps_if (pt_not (pt_val (pe_call G_is_number_of_many (hr.mono (by decide)) (by rfl) T.is_number_of_many.g T.is_number_of_many.F.kp T.is_number_of_many.b .nil pass0 (pa_cons (pv 1) (pa_cons (pe_callB call_len_seq (by rfl) T.n_len (by decide +kernel) (pa_cons (pv 0) pa_nil)) pa_nil))))) (pss_one ps_never) pss_nil)), ?_⟩
  cases hd with
  | @tup ad xs ds n h r =>
    have e := r.len
    rw [List.length_map] at e
    refine ⟨.int x, rfl, .ref ad, rfl, ad, xs, rfl, .inr (SqT.of h), x, N.length, by rw [e]; rfl, hx, true, rfl, ?_⟩
    exact iteF q
end

/-! ### way_of -/
section
variable {P : Program} {w : World} {K : PySem.W.Frag} {mg : Str → Option Value} {base : Heap} {a : Ad}
def spWayOf (TB : Addr) : Sp := fun vs H Q _ => ∃ (S : List Addr) (v : V) (N : Net) (x : Nat), vs = [v, .int x] ∧ Dx S H v (netD N) ∧ NetOk N ∧ x < N.length ∧ GxR.TabG H TB ∧ ∀ v' H', Kp [] H H' → Nw H H' v' (wayD N x) → Q v' H'
theorem ok_way_of (T : Tx K mg a) (TB : GxR.TabB base mg a.cd_is_net a.tb_is_net) : FnOk P w K mg base CX0 8 a.a_way_of a.f_way_of ["net", "lamp"] (spWayOf a.tb_is_net) := by
  have G_need_net := ok_need_net (P := P) (w := w) (base := base) T TB
  have G_need_lamp := ok_need_lamp (P := P) (w := w) (base := base) T
  refine T.way_of.F.ok sc_way_of (fun vs H Q E h => ?_) (fun cdv A outer s H vs Q E hr h => ?_)
  · obtain ⟨S, v, N, x, rfl, _⟩ := h
    rfl
  obtain ⟨S, v, N, x, rfl, hd, ok, hx, ht, q⟩ := h
  refine ⟨_, (pss_cons (ps_expr (pe_call G_need_net (hr.mono (by decide)) (by rfl) T.need_net.g T.need_net.F.kp T.need_net.b .nil pass0 (pa_cons (pv 0) pa_nil)))
      (pss_cons (ps_expr (pe_call G_need_lamp (hr.mono (by decide)) (by rfl) T.need_lamp.g T.need_lamp.F.kp T.need_lamp.b .nil pass0 (pa_cons (pv 0) (pa_cons (pv 1) pa_nil))))
      (pss_cons (ps_set (i := 2) sc_way_of.nd rfl (by first | exact .inl rfl | exact .inr rfl) (pe_lst pa_nil))
      (pss_cons (ps_set (i := 3) sc_way_of.nd rfl (by first | exact .inl rfl | exact .inr rfl) (pv 1))
      (pss_cons (ps_while PassesOwn.never (PW.pt (pw_and (pt_cmpR op_notN (pv 3) pe_non (nomark _)) (pw_and1 (pt_cmpR op_notIn_seq (pv 3) (pv 2) (by rfl))))) (pss_cons (ps_expr (pe_bm PySem.F.plainAttrs_list PySem.F.slot_list_append PySem.F.type_list_append mt_append (pv 2) (pa_cons (pv 3) pa_nil)))
      (pss_one (ps_set (i := 3) sc_way_of.nd rfl (by first | exact .inl rfl | exact .inr rfl) (pe_ix ix_tup (pe_ix ix_tup (pv 0) (pv 3) (fun _ _ => rfl)) pe_int (fun _ _ => rfl))))))
      (pss_cons (ps_if (pt_cmpR op_isN (pv 3) pe_non (nomark _)) (pss_one (ps_ret (pe_tup (pa_cons (pe_callTy call_tuple_of (by rfl) T.n_tuple (by decide +kernel) (pa_cons (pv 2) pa_nil)) (pa_cons (pe_tup pa_nil) pa_nil))))) pss_nil)
      (pss_cons (ps_set (i := 4) sc_way_of.nd rfl (by first | exact .inl rfl | exact .inr rfl) (pe_bm PySem.F.plainAttrs_list PySem.F.slot_list_index PySem.F.type_list_index mt_index (pv 2) (pa_cons (pv 3) pa_nil)))
      (pss_one (ps_ret (pe_tup (pa_cons (pe_callTy call_tuple_of (by rfl) T.n_tuple (by decide +kernel) (pa_cons (pe_slice sl_list (pv 2) po_none (po_some (pv 4))) pa_nil)) (pa_cons (pe_callTy call_tuple_of (by rfl) T.n_tuple (by decide +kernel) (pa_cons (pe_slice sl_list (pv 2) (po_some (pv 4)) po_none) pa_nil)) pa_nil)))))))))))), ?_⟩
  -- need_net(net), need_lamp(net, lamp)
  refine ⟨v, rfl, S, v, N, rfl, hd, ok, ht, fun Ha ka => ?_⟩
  have hda : Dx S Ha v (netD N) := hd.kp ka fun _ z => by cases z
  refine ⟨v, rfl, .int x, rfl, S, v, N, x, rfl, hda, hx, ?_⟩
  -- gone = [], at = lamp
  refine ⟨Nat.zero_le _, fun gp ng => ⟨.int x, rfl, ?_⟩⟩
  have hdl : ∀ l, Dx S (upd Ha gp (.lst l)) v (netD N) := fun l => hda.kp (Kp.new (S := []) ng) fun _ z => by cases z
  obtain ⟨I, hI⟩ : ∃ I : Nat → L2.St → Hp → Prop, I = fun m σ H3 => ∃ (g : List Nat) (at_ : V), σ = [some v, some (.int x), some (.ref gp), some at_, none] ∧ H3 = upd Ha gp (.lst (natV g)) ∧ ((g = [] ∧ at_ = .int x) ∨ ∃ i, Gone N x i g ∧ at_ = nxV (nxt N (lastOf g))) ∧ m + g.length = N.length + 1 := ⟨_, rfl⟩
  refine ⟨I, ⟨N.length + 1, by rw [hI]; exact ⟨[], _, rfl, rfl, .inl ⟨rfl, rfl⟩, rfl⟩⟩, fun m σ H3 hW => ?_⟩
  rw [hI] at hW
  obtain ⟨g, at_, rfl, rfl, hg, hm⟩ := hW
  have hdg := hdl (natV g)
  have hgp : (upd Ha gp (.lst (natV g))) gp = some (.lst (natV g)) := upd_same
  have kg : Kp [] H (upd Ha gp (.lst (natV g))) := ka.tr (Kp.new ng)
  have trg : ∀ b, H b ≠ none → (upd Ha gp (.lst (natV g))) b ≠ none := kg.tr_
  have hlen : g.length ≤ N.length := by
    rcases hg with ⟨e, _⟩ | ⟨i, gi, _⟩
    · rw [e]; exact Nat.zero_le _
    · exact gi.le
  have h12 := ok.hi
  have zl : (natV g).length < sizeLine := by rw [natV_len]; exact Nat.lt_of_le_of_lt (Nat.le_trans hlen h12) (by decide)
  have two : (∃ y : Nat, at_ = .int y ∧ y < N.length ∧ ((g = [] ∧ y = x) ∨ ∃ i, Gone N x i g ∧ nxt N (lastOf g) = some y)) ∨ (at_ = .non ∧ ∃ i, Gone N x i g ∧ nxt N (lastOf g) = none) := by
    rcases hg with ⟨e, e2⟩ | ⟨i, gi, e2⟩
    · exact .inl ⟨x, e2, hx, .inl ⟨e, rfl⟩⟩
    · cases z : nxt N (lastOf g) with
      | none => rw [z] at e2; exact .inr ⟨e2, i, gi, rfl⟩
      | some y => rw [z] at e2; exact .inl ⟨y, e2, nxt_lt ok z, .inr ⟨i, gi, rfl⟩⟩
  rcases two with ⟨y, rfl, hy, hst⟩ | ⟨rfl, i, gi, hnx⟩
  · -- a lamp is come to
    refine ⟨.int y, rfl, rfl, _, rfl, iteT ?_⟩
    refine ⟨.int y, rfl, .ref gp, rfl, gp, natV g, rfl, .inl (SqL.of hgp), rfl, natV_flat g, _, rfl, ?_⟩
    show if (!inV (.int (y : Int)) (natV g)) = true then _ else _
    rw [inV_natV]
    by_cases hn : y ∈ g
    · -- it was come by: the loop is over
      rw [decide_eq_true hn]
      refine iteF ?_
      rcases hst with ⟨e, _⟩ | ⟨i, gi, hnx⟩
      · rw [e] at hn; cases hn
      have hpa : path N x = g := gi.done (step_in hnx hn)
      have hcut : cutAt N (path N x) = g.idxOf y := by rw [hpa]; unfold cutAt; rw [hnx]
      have hix : g.idxOf y < g.length := List.idxOf_lt_length_iff.mpr hn
      have hge : g[g.idxOf y]? = some y := by rw [List.getElem?_eq_getElem hix, List.getElem_idxOf hix]
      -- if at is None
      refine ⟨.int y, rfl, rfl, _, rfl, iteF ?_⟩
      -- first = gone.index(at)
      refine ⟨.ref gp, rfl, .inl ⟨rfl, _, SqL.of hgp⟩, .int y, rfl, gp, natV g, .int y, g.idxOf y, .int y, rfl, rfl, SqL.of hgp, rfl, natV_flat g, natV_get hge, by show ((y : Int) == (y : Int)) = true; simp, fun j z hj hz => ?_, ?_⟩
      · obtain ⟨u, hu, rfl⟩ : ∃ u, g[j]? = some u ∧ z = .int (u : Int) := by
          unfold natV at hz
          rw [List.getElem?_map] at hz
          cases q1 : g[j]? with
          | none => rw [q1] at hz; cases hz
          | some u => rw [q1] at hz; exact ⟨u, rfl, (Option.some.inj hz).symm⟩
        show ((u : Int) == (y : Int)) = false
        have hne : u ≠ y := idx_ne hj hu
        simp only [beq_eq_false_iff_ne]
        omega
      -- return (tuple(gone[:first]), tuple(gone[first:]))
      refine ⟨.ref gp, rfl, .int (g.idxOf y : Nat), rfl, _, rfl, gp, natV g, rfl, SqL.of hgp, fun p1 n1 => ?_⟩
      obtain ⟨H1, e1⟩ : ∃ H1, H1 = upd (upd Ha gp (.lst (natV g))) p1 (.lst (cutV (natV g) none (some (g.idxOf y : Nat)))) := ⟨_, rfl⟩
      rw [← e1]
      have k1 : Kp [] (upd Ha gp (.lst (natV g))) H1 := e1 ▸ Kp.new n1
      refine ⟨p1, _, rfl, .inl ⟨SqL.of (by rw [e1]; exact upd_same), fun t1 nt1 => ?_⟩⟩
      rw [natV_cut0 (Nat.le_of_lt hix)]
      obtain ⟨H2, e2⟩ : ∃ H2, H2 = upd H1 t1 (.tup (natV (g.take (g.idxOf y)))) := ⟨_, rfl⟩
      rw [← e2]
      have k2 : Kp [] H1 H2 := e2 ▸ Kp.new nt1
      have w1 : Nw H H2 (.ref t1) (natsD (g.take (g.idxOf y))) := by
        rw [e2]
        exact Nw.tup (kg.tr k1).tr_ nt1 (nwA_natV _)
      have hgp2 : H2 gp = some (.lst (natV g)) := (k1.tr k2).lst (by simp) hgp
      refine ⟨.ref gp, rfl, .int (g.idxOf y : Nat), rfl, _, rfl, gp, natV g, rfl, SqL.of hgp2, fun p2 n2 => ?_⟩
      obtain ⟨H3, e3⟩ : ∃ H3, H3 = upd H2 p2 (.lst (cutV (natV g) (some (g.idxOf y : Nat)) none)) := ⟨_, rfl⟩
      rw [← e3]
      have k3 : Kp [] H2 H3 := e3 ▸ Kp.new n2
      refine ⟨p2, _, rfl, .inl ⟨SqL.of (by rw [e3]; exact upd_same), fun t2 nt2 => ?_⟩⟩
      rw [natV_cut1 (Nat.le_of_lt hix)]
      obtain ⟨H4, e4⟩ : ∃ H4, H4 = upd H3 t2 (.tup (natV (g.drop (g.idxOf y)))) := ⟨_, rfl⟩
      rw [← e4]
      have k4 : Kp [] H3 H4 := e4 ▸ Kp.new nt2
      have kh4 : Kp [] H H4 := kg.tr (k1.tr (k2.tr (k3.tr k4)))
      have w2 : Nw H H4 (.ref t2) (natsD (g.drop (g.idxOf y))) := by
        rw [e4]
        exact Nw.tup (kg.tr (k1.tr (k2.tr k3))).tr_ nt2 (nwA_natV _)
      refine ⟨by show 2 ≤ sizeLine; decide, fun t3 n3 => q _ _ (kh4.tr (Kp.new n3)) ?_⟩
      have e5 : wayD N x = .tuple [natsD (g.take (g.idxOf y)), natsD (g.drop (g.idxOf y))] := by
        unfold wayD wayA wayR
        rw [hcut, hpa]
      rw [e5]
      exact Nw.tup kh4.tr_ n3 (.cons (w1.kp (k3.tr k4)) (.cons w2 .nil))
    · rw [decide_eq_false hn]
      refine iteT ⟨fun σ' H' => ∃ m', m' < m ∧ I m' σ' H', fun _ _ h => h, ?_⟩
      obtain ⟨p, hp⟩ : ∃ p, N[y]? = some p := ⟨N[y], List.getElem?_eq_getElem hy⟩
      -- gone.append(at)
      refine ⟨.ref gp, rfl, .inl ⟨rfl, _, SqL.of hgp⟩, .int y, rfl, gp, natV g, .int y, rfl, rfl, hgp, zl, ?_⟩
      rw [upd_upd]
      -- at = net[at][1]
      obtain ⟨ad, xs, rfl, _, h1, hl1, hat⟩ := net_at (hdl (natV g ++ [.int (y : Int)]))
      obtain ⟨la, hxl, _, h2⟩ := hat y p hp
      refine ⟨.ref ad, rfl, .int y, rfl, ad, xs, y, .ref la, rfl, rfl, SqT.of h1, atI_nat hxl, la, _, 1, nxV p.2, rfl, rfl, SqT.of h2, atI_nat (j := 1) rfl, ?_⟩
      rw [hI]
      have hyg : Gone N x (g.length) (g ++ [y]) := by
        rcases hst with ⟨e, e2⟩ | ⟨i, gi, hnx⟩
        · subst e; subst e2; exact Gone.start hx
        · have := gi.more ok hnx hn
          rwa [← gi.len] at this
      have hgl := hyg.le
      rw [List.length_append] at hgl
      refine ⟨m - 1, by simp at hgl; omega, g ++ [y], nxV p.2, rfl, by rw [natV_app], .inr ⟨_, hyg, by rw [last_app, nxt_get hp]⟩, ?_⟩
      rw [List.length_append]
      simp at hgl ⊢
      omega
  · -- the way is over
    refine ⟨.non, rfl, rfl, _, rfl, iteF ?_⟩
    refine ⟨.non, rfl, rfl, _, rfl, iteT ?_⟩
    have hpa : path N x = g := gi.done (step_none hnx)
    have hcut : cutAt N (path N x) = g.length := by rw [hpa]; unfold cutAt; rw [hnx]
    refine ⟨.ref gp, rfl, gp, natV g, rfl, .inl ⟨SqL.of hgp, fun t1 nt1 => ?_⟩⟩
    obtain ⟨H2, e2⟩ : ∃ H2, H2 = upd (upd Ha gp (.lst (natV g))) t1 (.tup (natV g)) := ⟨_, rfl⟩
    rw [← e2]
    have k2 : Kp [] (upd Ha gp (.lst (natV g))) H2 := e2 ▸ Kp.new nt1
    have w1 : Nw H H2 (.ref t1) (natsD g) := by
      rw [e2]
      exact Nw.tup kg.tr_ nt1 (nwA_natV _)
    refine ⟨Nat.zero_le _, fun t2 nt2 => ?_⟩
    obtain ⟨H4, e4⟩ : ∃ H4, H4 = upd H2 t2 (.tup []) := ⟨_, rfl⟩
    rw [← e4]
    have k4 : Kp [] H2 H4 := e4 ▸ Kp.new nt2
    have kh4 : Kp [] H H4 := kg.tr (k2.tr k4)
    have w2 : Nw H H4 (.ref t2) (natsD []) := by
      rw [e4]
      exact Nw.tup (kg.tr k2).tr_ nt2 .nil
    refine ⟨by show 2 ≤ sizeLine; decide, fun t3 n3 => q _ _ (kh4.tr (Kp.new n3)) ?_⟩
    have e5 : wayD N x = .tuple [natsD g, natsD []] := by
      unfold wayD wayA wayR
      rw [hcut, hpa, List.take_length, List.drop_length]
    rw [e5]
    exact Nw.tup kh4.tr_ n3 (.cons (w1.kp k4) (.cons w2 .nil))
end

/-! ### is_kindling_of_many: quiet; are_kindlings -/
section
variable {c : Qc} {a : Ad} {S : List Addr} {v u : V} {d e : PyData}
theorem sparkB_pair {m : Nat} (h : pairB d = false) : sparkB m d = false := by
  cases d with
  | tuple ds =>
    match ds, h with
    | [], _ => rfl
    | [_], _ => rfl
    | [_, _], h => cases h
    | _ :: _ :: _ :: _, _ => rfl
  | _ => rfl
theorem qf_is_kindling_of_many {m : Nat} (O : c.Ok) (T : Tx c.K c.mg a) (h : Dx S c.H v d) : QF c 3 a.a_is_kindling_of_many a.f_is_kindling_of_many ["thing", "many"] [v, .int m] (.bl (sparkB m d)) := by
  refine q_fun O T.is_kindling_of_many.F sc_is_kindling_of_many (by decide +kernel) rfl fun L cdv => ?_
  have hp : ∀ {N : Nm} {p1 p2 pos}, N.lookup ("thing" : Str) = some v → QE c 2 (envOfC "is_kindling_of_many" (defScope s_is_kindling_of_many) L a.a_is_kindling_of_many cdv) N (.Call (.Name "is_pair" p1) [.Name "thing" p2] [] pos) (.bl (pairB d)) := fun hN =>
    q_call O (fun A R args us s r => qf_is_pair O T h A R args us s (r.mono (by decide))) T.is_pair.b rfl rfl T.is_pair.g T.is_pair.F.kp (qa_cons (q_name hN) qa_nil)
  cases z : pairB d with
  | false =>
    rw [sparkB_pair z]
    refine qb_ifT (qt_not (t := false) (qt_val ?_)) (qb_ret q_bool)
    rw [← z]
    exact hp rfl
  | true =>
    refine qb_ifF (qt_not (t := true) (qt_val ?_)) ?_
    · rw [← z]
      exact hp rfl
    cases h with
    | @tup ad xs ds n h r =>
      have hl : (ds.length : Int) = 2 := by simpa [pairB] using z
      match ds, r with
      | [d1, d2], .cons (v := v1) r1 (.cons (v := v2) r2 .nil) =>
        refine qb_two (q_name rfl) (tupQ_of O h) rfl rfl (fun y hy => ?_) ?_
        · by_cases e1 : y = "thing"
          · rw [e1]; rfl
          · by_cases e2 : y = "many"
            · rw [e2]; rfl
            · have q1 : (y == ("thing" : Str)) = false := by simpa using e1
              have q2 : (y == ("many" : Str)) = false := by simpa using e2
              simp [List.zip, List.zipWith, List.lookup, q1, q2] at hy
        · have hw : ∀ {N : Nm} {p1 p2 pos}, N.lookup ("beat" : Str) = some v1 → QE c 2 (envOfC "is_kindling_of_many" (defScope s_is_kindling_of_many) L a.a_is_kindling_of_many cdv) N (.Call (.Name "is_whole" p1) [.Name "beat" p2] [] pos) (.bl (isW d1)) := fun hN =>
            q_call O (fun A R args us s r => qf_is_whole O T r1 A R args us s (r.mono (by decide))) T.is_whole.b rfl rfl T.is_whole.g T.is_whole.F.kp (qa_cons (q_name hN) qa_nil)
          cases y1 : isW d1 with
          | false =>
            have e3 : sparkB m (.tuple [d1, d2]) = false := by
              have : beatB d1 = false := by cases d1 <;> first | rfl | cases y1
              show (beatB d1 && _) = false
              rw [this]; rfl
            rw [e3]
            refine qb_ifT (qt_orT (qt_not (t := false) (qt_val ?_))) (qb_ret q_bool)
            rw [← y1]
            exact hw rfl
          | true =>
            cases r1 with
            | int i =>
              have h0 : ∀ {p1 p2 p3 p4}, QT c 2 (envOfC "is_kindling_of_many" (defScope s_is_kindling_of_many) L a.a_is_kindling_of_many cdv) (("lamp", v2) :: ("beat", .int i) :: [("thing", .ref ad), ("many", .int m)])
                  (.UnaryOp .Not (.Call (.Name "is_whole" p1) [.Name "beat" p2] [] p3) p4) false := by
                refine qt_not (t := true) (qt_val ?_)
                exact hw rfl
              have e4 : sparkB m (.tuple [.int i, d2]) = (!decide (i < 0) && numB m d2) := rfl
              cases y2 : decide (i < 0) with
              | true =>
                rw [e4, y2]
                exact qb_ifT (qt_or2 h0 (y2 ▸ qt_cmp qo_lt (q_name rfl) q_int rfl)) (qb_ret q_bool)
              | false =>
                rw [e4, y2]
                refine qb_ifF (qt_or2 h0 (y2 ▸ qt_cmp qo_lt (q_name rfl) q_int rfl)) ?_
                have e5 : (!false && numB m d2) = numB m d2 := rfl
                rw [e5]
                exact qb_ret (q_call O (fun A R args us s r => qf_is_number_of_many O T r2 A R args us s (r.mono (by decide))) T.is_number_of_many.b rfl rfl T.is_number_of_many.g T.is_number_of_many.F.kp (qa_cons (q_name rfl) (qa_cons (q_name rfl) qa_nil)))
            | non => cases y1
            | bl b => cases y1
            | tup n h r => cases y1
            | str y => cases y1
            | lst n h r => cases y1
            | dic n h => cases y1
    | non => cases z
    | bl b => cases z
    | int i => cases z
    | str y => cases z
    | lst n h r => cases z
    | dic n h => cases z
end

/-! ### of a kindling that is the only one -/
section
variable {P : Program} {w : World} {K : PySem.W.Frag} {mg : Str → Option Value} {base : Heap} {a : Ad}
def sparkD (b : Int) (x : Nat) : PyData := .tuple [.int b, .int x]
theorem spark_at {H : Hp} {v : V} {b : Int} {x : Nat} (h : Tu H v (sparkD b x)) : ∃ q : Addr, v = .ref q ∧ H q = some (.tup [.int b, .int x]) := by
  cases h with
  | @tup q xs ds h t =>
    cases t with
    | cons t1 t =>
      cases t1
      cases t with
      | cons t2 t =>
        cases t
        cases t2
        exact ⟨q, rfl, h⟩
theorem spark_ok {m x : Nat} {b : Int} (h0 : 0 ≤ b) (hx : x < m) : sparkB m (sparkD b x) = true := by
  show (!decide (b < 0) && (decide ((0 : Int) ≤ (x : Int)) && decide ((x : Int) < (m : Int)))) = true
  rw [decide_eq_false (by omega), decide_eq_true (by omega), decide_eq_true (by omega)]
  rfl
/-- the lights told -/
def spLights (TB TB2 : Addr) : Sp := fun vs H Q _ => ∃ (v u : V) (N : Net) (b : Int) (x : Nat), vs = [v, u] ∧ Tu H v (netD N) ∧ NetOk N ∧ Tu H u (sparkD b x) ∧ x < N.length ∧ GxR.TabG H TB ∧ GxR.TabG H TB2 ∧
  ∀ d r H', H d = none → H' d = some (.dK r) → LtA H' r (lightsL N b x) → Kp [] H H' → Q (.ref d) H'
theorem ok_lights_of (T : Tx K mg a) (TB : GxR.TabB base mg a.cd_is_net a.tb_is_net) (TB2 : GxR.TabB base mg a.cd_lights_of a.tb_lights_of) : FnOk P w K mg base CX0 11 a.a_lights_of a.f_lights_of ["net", "kindling"] (spLights a.tb_is_net a.tb_lights_of) := by
  have G_way_of := ok_way_of (P := P) (w := w) (base := base) T TB
  refine okC T.lights_of.F T.code_lights_of sc_lights_of (fun vs H Q E h => ?_) (fun A outer s H vs Q E hr h => ?_)
  · obtain ⟨v, u, N, b, x, rfl, _⟩ := h
    rfl
  obtain ⟨v, u, N, b, x, rfl, hn, ok, hu0, hx, ht, ht2, q⟩ := h
  have hu := hu_of hr
  obtain ⟨kq, rfl, hkq⟩ := spark_at hu0
  refine ⟨_, (pss_cons (ps_asg (pv 1) (pg_tup (by rfl) (pgs_cons (pg_name (i := 2) sc_lights_of.nd rfl (by first | exact .inl rfl | exact .inr rfl)) (pgs_cons (pg_name (i := 3) sc_lights_of.nd rfl (by first | exact .inl rfl | exact .inr rfl)) pgs_nil))))
      (pss_cons (ps_asg (pe_call G_way_of (hr.mono (by decide)) (by rfl) T.way_of.g T.way_of.F.kp T.way_of.b .nil pass0 (pa_cons (pv 0) (pa_cons (pv 3) pa_nil))) (pg_tup (by rfl) (pgs_cons (pg_name (i := 4) sc_lights_of.nd rfl (by first | exact .inl rfl | exact .inr rfl)) (pgs_cons (pg_name (i := 5) sc_lights_of.nd rfl (by first | exact .inl rfl | exact .inr rfl)) pgs_nil))))
      (pss_cons (ps_set (i := 6) sc_lights_of.nd rfl (by first | exact .inl rfl | exact .inr rfl) (pe_sumQ (k := 1) (hr.mono (by decide)) (by rfl) T.n_sum TB2 rfl ⟨rfl, rfl, by decide +kernel, by decide +kernel, by decide +kernel, free_by (by decide +kernel)⟩ (pv 5) (fun _ => rfl)))
      (pss_cons (ps_set (i := 7) sc_lights_of.nd rfl (by first | exact .inl rfl | exact .inr rfl) pe_dnewK)
      (pss_cons (ps_for PassesOwn.never rfl (pi_tup (pv 4)) (pg_name (i := 8) sc_lights_of.nd rfl (by first | exact .inl rfl | exact .inr rfl)) (pss_cons (ps_dput hu (pv 7) (pv 8) (pe_tup (pa_cons (pv 2) (pa_cons pe_non pa_nil))) rfl)
      (pss_one (ps_aug (i := 2) sc_lights_of.nd rfl (by first | exact .inl rfl | exact .inr rfl) (pe_ix ix_tup (pe_ix ix_tup (pv 0) (pv 8) (fun _ _ => rfl)) pe_int (fun _ _ => rfl)) ip_add))))
      (pss_cons (ps_for PassesOwn.never rfl (pi_tup (pv 5)) (pg_name (i := 8) sc_lights_of.nd rfl (by first | exact .inl rfl | exact .inr rfl)) (pss_cons (ps_dput hu (pv 7) (pv 8) (pe_tup (pa_cons (pv 2) (pa_cons (pv 6) pa_nil))) rfl)
      (pss_one (ps_aug (i := 2) sc_lights_of.nd rfl (by first | exact .inl rfl | exact .inr rfl) (pe_ix ix_tup (pe_ix ix_tup (pv 0) (pv 8) (fun _ _ => rfl)) pe_int (fun _ _ => rfl)) ip_add))))
      (pss_one (ps_ret (pv 7))))))))), ?_⟩
  -- beat, lamp = kindling
  refine ⟨.ref kq, rfl, kq, _, rfl, SqT.of hkq, rfl, _, _, rfl, _, _, rfl, rfl, ?_⟩
  -- ahead, ring = way_of(net, lamp)
  refine ⟨v, rfl, .int x, rfl, [], v, N, x, rfl, hn.dx0, ok, hx, ht, fun v1 H1 k1 nw => ?_⟩
  obtain ⟨wa, pa, pr, rfl, _, hwa, hpa, hpr, _, _⟩ := way_at (nw [] fun s z => by cases z)
  refine ⟨wa, _, rfl, SqT.of hwa, rfl, _, _, rfl, _, _, rfl, rfl, ?_⟩
  have hn1 := hn.kt k1.kt0
  have ht1 := k1.tab _ ht
  have ht21 := k1.tab _ ht2
  obtain ⟨ad, xs, rfl, hx1, hl1, hat⟩ := tnet_at hn1
  -- lap = sum(..)
  refine ⟨.ref pr, rfl, pr, natV (wayR N x), ((wayR N x).map (burnOf N)).map V.int, [("net", .ref ad)], rfl, .inl (SqT.of hpr), ht21, fun y vy hy => ?_, ⟨by rw [List.length_map, List.length_map, natV_len], fun hd env OK hsc j xv bv hxj hbj => ?_⟩, (wayR N x).map (burnOf N), rfl, fun H2 hT => ?_⟩
  · by_cases ey : y = "net"
    · subst ey
      have e2 : V.ref ad = vy := by simpa [List.lookup] using hy
      subst e2
      exact ⟨by decide, by decide +kernel, by decide +kernel, 0, rfl, rfl, (by decide +kernel : (defScope s_lights_of).names.lookup _ = some .cell)⟩
    · have ey' : (y == ("net" : Str)) = false := by simpa using ey
      simp [List.lookup, ey'] at hy
  · obtain ⟨yy, hyy, rfl⟩ : ∃ f : Nat, (wayR N x)[j]? = some f ∧ xv = .int (f : Int) := by
      unfold natV at hxj
      rw [List.getElem?_map] at hxj
      cases q1 : (wayR N x)[j]? with
      | none => rw [q1] at hxj; cases hxj
      | some u => rw [q1] at hxj; exact ⟨u, rfl, (Option.some.inj hxj).symm⟩
    rw [List.getElem?_map, List.getElem?_map, hyy] at hbj
    obtain rfl : V.int (burnOf N yy) = bv := Option.some.inj hbj
    have hyl := way_sub ok hx yy (List.mem_of_getElem? hyy)
    obtain ⟨la, hxl, hla⟩ := hat yy _ (List.getElem?_eq_getElem hyl)
    have w1 : wipe H1 a.tb_lights_of ad = some (.tup xs) := wiped_tup ht21 hx1
    have w2 : wipe H1 a.tb_lights_of la = some (.tup [V.int (N[yy]'hyl).1, nxV (N[yy]'hyl).2]) := wiped_tup ht21 hla
    refine q_ixT (j := 0) (q_ixT (j := yy) (q_name rfl) (q_name rfl) (tupQ_of OK w1) hxl) q_int (tupQ_of OK w2) ?_
    rw [burnOf_get (List.getElem?_eq_getElem hyl)]
    rfl
  obtain ⟨lap, elap⟩ : ∃ lap, lap = lapOf N x := ⟨_, rfl⟩
  have es : ((wayR N x).map (burnOf N)).sum = lap := elap.symm
  rw [es]
  have k2 : Kp [] H1 H2 := Kp.tabbed ht21 hT
  have hx2 := k2.kt0 _ _ hx1
  have hpa2 := k2.kt0 _ _ hpa
  have hpr2 := k2.kt0 _ _ hpr
  have hat2 : ∀ (i : Nat) (p : Int × Option Nat), N[i]? = some p → ∃ l, xs[i]? = some (V.ref l) ∧ H2 l = some (.tup [V.int p.1, nxV p.2]) := fun i p hp => let ⟨l, h1, h2⟩ := hat i p hp; ⟨l, h1, k2.kt0 _ _ h2⟩
  clear hat hx1 hpa hpr hn1
  have hpl := path_been ok hx
  have hcat := way_cat N x
  have hnd : (wayA N x ++ wayR N x).Nodup := by rw [hcat]; exact hpl.nd
  have hltA : ∀ y ∈ wayA N x ++ wayR N x, y < N.length := fun y hy => hpl.lt y (by rw [← hcat]; exact hy)
  have hle : (wayA N x).length + (wayR N x).length ≤ 12 := by
    have h1 := hpl.le
    have h2 := ok.hi
    rw [← hcat, List.length_append] at h1
    omega
  -- lights = {}
  refine fun d nd => ?_
  have k3 : Kp [] H2 (upd H2 d (.dK [])) := Kp.new nd
  -- one row of the lights
  have step : ∀ (A R : List Nat) (lp : Option Int) (lv : V) (b0 : Int) (y : Nat) (H3 : Hp) (r : List (Key × V)) (L0 : List Lgt) (QQ : Int → Hp → Prop), H3 d = some (.dK r) → LtA H3 r (L0 ++ lts N lp b0 A) → (y ∉ (L0 ++ lts N lp b0 A).map (·.1)) → L0.length + A.length < 12 → Kp [] H2 H3 → Tu H3 lv (match lp with | none => .none | some l => .int l) → y < N.length →
      (∀ r' H4, H4 d = some (.dK r') → LtA H4 r' (L0 ++ lts N lp b0 (A ++ [y])) → Kp [] H2 H4 → QQ (b0 + sumB N (A ++ [y])) H4) →
      ∀ t, H3 t = none → ∃ (Hx : Hp), DPut (upd H3 t (.tup [.int (b0 + sumB N A), lv])) d (.int y) (.ref t) Hx ∧ ∃ (la : Addr), xs[y]? = some (V.ref la) ∧ Hx ad = some (.tup xs) ∧ (∃ ov, Hx la = some (.tup [V.int (burnOf N y), ov])) ∧ QQ (b0 + sumB N A + burnOf N y) Hx := by
    intro A R lp lv b0 y H3 r L0 QQ hd3 hl3 hny hlen k23 hlv hyl fin t nt
    have k34 : Kp [] H3 (upd H3 t (.tup [.int (b0 + sumB N A), lv])) := Kp.new nt
    have hd4 : upd H3 t (.tup [.int (b0 + sumB N A), lv]) d = some (.dK r) := by rw [upd_ne (ne_of_none hd3 nt)]; exact hd3
    have hl4 := hl3.kt k34.kt0
    have hrl : r.length < 12 := by
      rw [hl3.len, List.length_append, lts_len]; exact hlen
    have hv : valV r (Sum.inl (y : Int) : Key) = none := by
      rcases hl4.val (y := y) with ⟨_, e⟩ | ⟨w, v, e, _⟩
      · exact e
      · rw [look_none hny] at e; cases e
    have htv : Tu (upd H3 t (.tup [.int (b0 + sumB N A), lv])) (.ref t) (lgtD (b0 + sumB N A, lp)) := .tup upd_same (.cons (.int _) (.cons (hlv.kt k34.kt0) .nil))
    obtain ⟨H5, e5⟩ : ∃ H5, H5 = upd (upd H3 t (.tup [.int (b0 + sumB N A), lv])) d (.dK (r ++ [((Sum.inl (y : Int) : Key), .ref t)])) := ⟨_, rfl⟩
    have k45 : Kt (upd H3 t (.tup [.int (b0 + sumB N A), lv])) H5 := by
      rw [e5]; exact Kt.put hd4 fun _ z => by cases z
    have k25 : Kp [] H2 H5 := by
      refine Kp.drop nd ?_
      rw [e5]
      exact (k23.tr k34).of0.tr (Kp.put (by simp) hd4 fun _ z => by cases z)
    obtain ⟨la, hxl, hla⟩ := hat2 y _ (List.getElem?_eq_getElem hyl)
    refine ⟨H5, ?_, la, hxl, k25.kt0 _ _ hx2, ⟨nxV (N[y]'hyl).2, ?_⟩, ?_⟩
    · rw [e5, ← putK_new (V.ref t) hv]
      exact DPut.k (k := Sum.inl (y : Int)) hd4 (Nat.lt_of_lt_of_le hrl (by decide))
    · rw [burnOf_get (List.getElem?_eq_getElem hyl)]
      exact k25.kt0 _ _ hla
    · have e6 : b0 + sumB N A + burnOf N y = b0 + sumB N (A ++ [y]) := by rw [sumB_app, sumB_one]; omega
      rw [e6]
      refine fin _ H5 (by rw [e5]; exact upd_same) ?_ k25
      rw [lts_snoc, ← List.append_assoc]
      exact (hl4.kt k45).snoc (htv.kt k45)
  -- for at in ahead
  refine ⟨.ref pa, rfl, pa, rfl, ⟨_, SqT.of (k3.kt0 _ _ hpa2)⟩, for_tup (xs := natV (wayA N x)) (fun i σ H' => ∃ (o8 : Option V) (r : List (Key × V)), σ = [some (.ref ad), some (.ref kq), some (.int (b + sumB N ((wayA N x).take i))), some (.int x), some (.ref pa), some (.ref pr), some (.int lap), some (.ref d), o8] ∧
      H' d = some (.dK r) ∧ LtA H' r ([] ++ lts N none b ((wayA N x).take i)) ∧ Kp [] H2 H') ⟨none, [], by rw [List.take_zero, sumB_nil, Int.add_zero]; rfl, upd_same, .nil, k3⟩ (fun i σ H' _ hP => ?_) (fun i z σ H3 hz hP => ?_) (fun σ H3 hP => ?_)⟩
  · obtain ⟨_, _, _, _, _, k⟩ := hP
    exact SqT.of (k.kt0 _ _ hpa2)
  · obtain ⟨o8, r, rfl, hd3, hl3, k23⟩ := hP
    obtain ⟨y, hy, rfl⟩ : ∃ f : Nat, (wayA N x)[i]? = some f ∧ z = .int (f : Int) := by
      unfold natV at hz
      rw [List.getElem?_map] at hz
      cases q1 : (wayA N x)[i]? with
      | none => rw [q1] at hz; cases hz
      | some u => rw [q1] at hz; exact ⟨u, rfl, (Option.some.inj hz).symm⟩
    have hi := (List.getElem?_eq_some_iff.mp hy).1
    have etk : (wayA N x).take (i + 1) = (wayA N x).take i ++ [y] := by rw [List.take_add_one, hy]; rfl
    refine ⟨.int _, rfl, by show 2 ≤ sizeLine; decide, fun t nt => ?_⟩
    obtain ⟨H5, hput, la, hxl, hx5, ⟨ov, hla⟩, hfin⟩ := step ((wayA N x).take i) [] none .non b y H3 r [] (fun n H' => ∃ (r : List (Key × V)), n = b + sumB N ((wayA N x).take (i + 1)) ∧ H' d = some (.dK r) ∧ LtA H' r ([] ++ lts N none b ((wayA N x).take (i + 1))) ∧ Kp [] H2 H') hd3 hl3 (by
      rw [List.nil_append, lts_fst]
      intro hm
      have := (List.nodup_append.mp hnd).1
      exact nd_take this hy hm) (by rw [List.length_take]; simp; omega) k23 .non (hltA y (List.mem_append_left _ (List.mem_of_getElem? hy))) (fun r' H4 a1 a2 a3 => ⟨r', by rw [etk], a1, by rw [etk]; exact a2, a3⟩) t nt
    refine ⟨.ref d, rfl, .int y, rfl, d, H5, rfl, hput, ?_⟩
    refine ⟨_, rfl, .ref ad, rfl, .int y, rfl, ad, xs, y, .ref la, rfl, rfl, SqT.of hx5, atI_nat hxl, la, _, 0, .int (burnOf N y), rfl, rfl, SqT.of hla, atI_nat (j := 0) rfl, _, _, rfl, rfl, ?_⟩
    obtain ⟨r', en, a1, a2, a3⟩ := hfin
    refine ⟨some (.int y), r', ?_, a1, a2, a3⟩
    rw [← en]
    rfl
  obtain ⟨o8, r, rfl, hd3, hl3, k23⟩ := hP
  rw [natV_len, List.take_length] at hl3 ⊢
  -- for at in ring
  refine ⟨.ref pr, rfl, pr, rfl, ⟨_, SqT.of (k23.kt0 _ _ hpr2)⟩, for_tup (xs := natV (wayR N x)) (fun i σ H' => ∃ (o8 : Option V) (r : List (Key × V)), σ = [some (.ref ad), some (.ref kq), some (.int (b + sumB N (wayA N x) + sumB N ((wayR N x).take i))), some (.int x), some (.ref pa), some (.ref pr), some (.int lap), some (.ref d), o8] ∧
      H' d = some (.dK r) ∧ LtA H' r (lts N none b (wayA N x) ++ lts N (some lap) (b + sumB N (wayA N x)) ((wayR N x).take i)) ∧ Kp [] H2 H') ⟨o8, r, by rw [List.take_zero, sumB_nil, Int.add_zero], hd3, by rw [List.take_zero, lts, List.append_nil]; exact hl3, k23⟩ (fun i σ H' _ hP => ?_) (fun i z σ H3 hz hP => ?_) (fun σ H3 hP => ?_)⟩
  · obtain ⟨_, _, _, _, _, k⟩ := hP
    exact SqT.of (k.kt0 _ _ hpr2)
  · obtain ⟨o8, r, rfl, hd3, hl3, k23⟩ := hP
    obtain ⟨y, hy, rfl⟩ : ∃ f : Nat, (wayR N x)[i]? = some f ∧ z = .int (f : Int) := by
      unfold natV at hz
      rw [List.getElem?_map] at hz
      cases q1 : (wayR N x)[i]? with
      | none => rw [q1] at hz; cases hz
      | some u => rw [q1] at hz; exact ⟨u, rfl, (Option.some.inj hz).symm⟩
    have hi := (List.getElem?_eq_some_iff.mp hy).1
    have etk : (wayR N x).take (i + 1) = (wayR N x).take i ++ [y] := by rw [List.take_add_one, hy]; rfl
    refine ⟨.int _, rfl, .int lap, rfl, by show 2 ≤ sizeLine; decide, fun t nt => ?_⟩
    obtain ⟨H5, hput, la, hxl, hx5, ⟨ov, hla⟩, hfin⟩ := step ((wayR N x).take i) [] (some lap) (.int lap) (b + sumB N (wayA N x)) y H3 r (lts N none b (wayA N x)) (fun n H' => ∃ (r : List (Key × V)), n = b + sumB N (wayA N x) + sumB N ((wayR N x).take (i + 1)) ∧ H' d = some (.dK r) ∧ LtA H' r (lts N none b (wayA N x) ++ lts N (some lap) (b + sumB N (wayA N x)) ((wayR N x).take (i + 1))) ∧ Kp [] H2 H') hd3 hl3 (by
      rw [List.map_append, lts_fst, lts_fst]
      intro hm
      obtain ⟨_, n2, n3⟩ := List.nodup_append.mp hnd
      rcases List.mem_append.mp hm with hm | hm
      · exact n3 y hm y (List.mem_of_getElem? hy) rfl
      · exact nd_take n2 hy hm) (by rw [lts_len, List.length_take]; omega) k23 (.int _) (hltA y (List.mem_append_right _ (List.mem_of_getElem? hy))) (fun r' H4 a1 a2 a3 => ⟨r', by rw [etk], a1, by rw [etk]; exact a2, a3⟩) t nt
    refine ⟨.ref d, rfl, .int y, rfl, d, H5, rfl, hput, ?_⟩
    refine ⟨_, rfl, .ref ad, rfl, .int y, rfl, ad, xs, y, .ref la, rfl, rfl, SqT.of hx5, atI_nat hxl, la, _, 0, .int (burnOf N y), rfl, rfl, SqT.of hla, atI_nat (j := 0) rfl, _, _, rfl, rfl, ?_⟩
    obtain ⟨r', en, a1, a2, a3⟩ := hfin
    refine ⟨some (.int y), r', ?_, a1, a2, a3⟩
    rw [← en]
    rfl
  · obtain ⟨o8, r, rfl, hd3, hl3, k23⟩ := hP
    rw [natV_len, List.take_length, elap] at hl3
    have k02 : Kp [] H H3 := k1.tr (k2.tr k23)
    refine ⟨.ref d, rfl, q d r H3 ?_ hd3 hl3 k02⟩
    cases z : H d with
    | none => rfl
    | some o => exact absurd nd ((k1.tr k2).tr_ d (by rw [z]; exact fun y => by cases y))
end
section
def placeD : Option (Nat × Int) → PyData
  | none => .none
  | some z => .tuple [.int z.1, .int z.2]
def lgtOD : Option (Int × Option Int) → PyData
  | none => .none
  | some w => lgtD w
theorem lights_ok {N : Net} (o : NetOk N) {x : Nat} (hx : x < N.length) (b : Int) : ∀ z ∈ lightsL N b x, z.1 < N.length ∧ ∀ l, z.2.2 = some l → 0 < l := by
  intro z hz
  obtain ⟨j, hj, e⟩ := List.getElem_of_mem hz
  have hl : (lightsL N b x).length = (path N x).length := by rw [← lights_fst N b x, List.length_map]
  have hyj : (path N x)[j]? = some ((path N x)[j]'(by omega)) := List.getElem?_eq_getElem _
  have hz2 := lights_get o hx b hyj
  rw [List.getElem?_eq_getElem hj, e] at hz2
  have hz3 := Option.some.inj hz2
  rw [hz3]
  refine ⟨(path_been o hx).lt _ (List.getElem_mem _), fun l el => ?_⟩
  have el2 : (if j < cutN N x then none else some (lapOf N x)) = some l := el
  by_cases hjc : j < cutN N x
  · rw [if_pos hjc] at el2; cases el2
  · rw [if_neg hjc] at el2
    obtain rfl := Option.some.inj el2
    have lp := lap_frst o hx b
    have g := frst_gap o hx b hyj (show j < (path N x).length by omega)
    have hm := sum_mono o (path_been o hx).lt (show cutN N x ≤ j by omega)
    have bp := burn_pos o ((path_been o hx).lt _ (List.getElem_mem (l := path N x) (n := j) (by omega)))
    unfold frst at lp g
    omega
end

section
variable {P : Program} {w : World} {K : PySem.W.Frag} {mg : Str → Option Value} {base : Heap} {a : Ad}
def spAreK (TB TB2 : Addr) : Sp := fun vs H Q _ => ∃ (S : List Addr) (v u : V) (N : Net) (d : PyData), vs = [v, u] ∧ Dx S H v (netD N) ∧ NetOk N ∧ Dx S H u d ∧ GxR.TabG H TB ∧ GxR.TabG H TB2 ∧ ∀ H', Kp [] H H' → Q (.bl (sparksB N.length d)) H'
theorem ok_are_kindlings (T : Tx K mg a) (TB : GxR.TabB base mg a.cd_is_net a.tb_is_net) (TB2 : GxR.TabB base mg a.cd_are_kindlings a.tb_are_kindlings) : FnOk P w K mg base CX0 10 a.a_are_kindlings a.f_are_kindlings ["net", "thing"] (spAreK a.tb_is_net a.tb_are_kindlings) := by
  have G_need_net := ok_need_net (P := P) (w := w) (base := base) T TB
  refine okC T.are_kindlings.F T.code_are_kindlings sc_are_kindlings (fun vs H Q E h => ?_) (fun A outer s H vs Q E hr h => ?_)
  · obtain ⟨S, v, u, N, d, rfl, _⟩ := h
    rfl
  obtain ⟨S, v, u, N, d, rfl, hn, ok, hd, ht, ht2, q⟩ := h
  refine ⟨_, (pss_cons (ps_expr (pe_call G_need_net (hr.mono (by decide)) (by rfl) T.need_net.g T.need_net.F.kp T.need_net.b .nil pass0 (pa_cons (pv 0) pa_nil)))
      (pss_cons (ps_if (PW.pt (pw_or (pt_not (pt_val (pe_callB call_isi (by rfl) T.n_isinstance (by decide +kernel) (pa_cons (pv 1) (pa_cons (pe_bltn (v := .ty "list") (by rfl) T.n_list (by decide +kernel) rfl) pa_nil))))) (pw_or1 (pt_cmpR op_gt (pe_callB call_len_seq (by rfl) T.n_len (by decide +kernel) (pa_cons (pv 1) pa_nil)) (pe_glob (v := .int 40) rfl T.c_MOST_KINDLINGS.choose_spec ⟨_, rfl⟩) (nomark _))))) (pss_one (ps_ret pe_bl)) pss_nil)
      (pss_cons (ps_set (i := 2) sc_are_kindlings.nd rfl (by first | exact .inl rfl | exact .inr rfl) (pe_callB call_len_seq (by rfl) T.n_len (by decide +kernel) (pa_cons (pv 0) pa_nil)))
      (pss_one (ps_ret (pe_allQ (k := 1) (hr.mono (by decide)) (by rfl) T.n_all TB2 rfl ⟨rfl, rfl, by decide +kernel, by decide +kernel, by decide +kernel, free_by (by decide +kernel)⟩ (pv 1) (fun _ => rfl))))))), ?_⟩
  refine ⟨v, rfl, S, v, N, rfl, hn, ok, ht, fun Ha ka => ?_⟩
  have noS : ∀ {x : Addr}, x ∈ ([] : List Addr) → x ∈ S := fun z => by cases z
  have hna := hn.kp ka fun _ => noS
  have hda := hd.kp ka fun _ => noS
  have ht2a := ka.tab _ ht2
  obtain ⟨ad, xs0, rfl, _, hx0, hl0, _⟩ := net_at hna
  have hk : PySem.W.kitOne K (.type (kname d)) (.type "list") = some (kindB d "list") := kit_data (by decide)
  refine ⟨u, rfl, u, .ty "list", _, _, _, rfl, .ty _, tyx_of hda, hk, _, rfl, ?_⟩
  cases z : kindB d "list" with
  | false =>
    have e : sparksB N.length d = false := by cases d <;> first | rfl | cases z
    have := q Ha ka
    rw [e] at this
    exact iteT (iteT this)
  | true =>
    refine iteF ?_
    cases hda with
    | @lst la xs ds n h r =>
      have hl : (xs.length : Int) = (ds.length : Int) := by rw [r.len]
      have e0 : sparksB N.length (.list ds) = (!decide ((40 : Int) < (ds.length : Int)) && (ds.map (sparkB N.length)).all id) := rfl
      refine ⟨.ref la, rfl, la, xs, rfl, .inl (SqL.of h), ?_⟩
      rw [hl]
      refine ⟨_, _, rfl, rfl, _, rfl, ?_⟩
      cases z2 : decide ((40 : Int) < (ds.length : Int)) with
      | true =>
        have := q Ha ka
        rw [e0, z2] at this
        exact iteT this
      | false =>
        refine iteF ⟨.ref ad, rfl, ad, xs0, rfl, .inr (SqT.of hx0), ?_⟩
        rw [show (xs0.length : Int) = (N.length : Int) by rw [hl0]]
        refine ⟨.ref la, rfl, la, xs, ds.map (sparkB N.length), [("many", .int N.length)], rfl, .inr (SqL.of h), ht2a, fun y vy hy => ?_, ⟨by rw [List.length_map, r.len], fun hd env OK hsc j xv b hx hb => ?_⟩, fun H2 hT => ?_⟩
        · by_cases ey : y = "many"
          · subst ey
            have e2 : V.int N.length = vy := by simpa [List.lookup] using hy
            subst e2
            exact ⟨by decide, by decide +kernel, by decide +kernel, 2, rfl, rfl, (by decide +kernel : (defScope s_are_kindlings).names.lookup _ = some .cell)⟩
          · have ey' : (y == ("many" : Str)) = false := by simpa using ey
            simp [List.lookup, ey'] at hy
        · obtain ⟨dj, hdj, hxv⟩ := r.get hx
          rw [List.getElem?_map, hdj] at hb
          cases hb
          have OT : Tx (Qc.mk P w K mg (wipe Ha a.tb_are_kindlings) hd).K (Qc.mk P w K mg (wipe Ha a.tb_are_kindlings) hd).mg a := T
          have hw : Dx S (wipe Ha a.tb_are_kindlings) xv dj := hxv.wiped ht2a
          refine q_call OK (qf_is_kindling_of_many OK OT hw) T.is_kindling_of_many.b rfl ?_ T.is_kindling_of_many.g T.is_kindling_of_many.F.kp (qa_cons (q_name rfl) (qa_cons (q_name rfl) qa_nil))
          show env.scope.names.lookup _ = _
          rw [hsc]
          decide +kernel
        · have := q H2 (ka.tr (Kp.tabbed ht2a hT))
          rw [e0, z2] at this
          exact this
    | non => cases z
    | bl b => cases z
    | int i => cases z
    | str y => cases z
    | tup n h r => cases z
    | dic n h => cases z
end

/-! ### the clashes, the losses -/
section
variable {P : Program} {w : World} {K : PySem.W.Frag} {mg : Str → Option Value} {base : Heap} {a : Ad}
theorem kds_right {N : Net} {ks : Kds} (hk : KdsOk N ks) (h40 : ks.length ≤ 40) : sparksB N.length (.list (ks.map kdD)) = true := by
  show (!decide ((40 : Int) < ((ks.map kdD).length : Int)) && ((ks.map kdD).map (sparkB N.length)).all id) = true
  rw [List.length_map, decide_eq_false (by omega), List.map_map]
  simp only [Bool.not_false, Bool.true_and, List.all_eq_true]
  intro b hb
  obtain ⟨p, hp, rfl⟩ := List.mem_map.mp hb
  exact spark_ok (b := (p.1 : Int)) (by omega) (hk p hp)
/-- kindlings in a list -/
def spNeedKs (TB TB3 : Addr) : Sp := fun vs H Q _ => ∃ (v : V) (N : Net) (kl : Addr) (us : List V) (ks : Kds), vs = [v, .ref kl] ∧ Tu H v (netD N) ∧ NetOk N ∧ H kl = some (.lst us) ∧ TuA H us (ks.map kdD) ∧ KdsOk N ks ∧ ks.length ≤ 40 ∧ GxR.TabG H TB ∧ GxR.TabG H TB3 ∧ ∀ H', Kp [] H H' → Q .non H'
theorem ok_need_kindlings (T : Tx K mg a) (TB : GxR.TabB base mg a.cd_is_net a.tb_is_net) (TB3 : GxR.TabB base mg a.cd_are_kindlings a.tb_are_kindlings) : FnOk P w K mg base CX0 11 a.a_need_kindlings a.f_need_kindlings ["net", "kindlings"] (spNeedKs a.tb_is_net a.tb_are_kindlings) := by
  have G_are_kindlings := ok_are_kindlings (P := P) (w := w) (base := base) T TB TB3
  refine T.need_kindlings.F.ok sc_need_kindlings (fun vs H Q E h => ?_) (fun cdv A outer s H vs Q E hr h => ?_)
  · obtain ⟨v, N, kl, us, ks, rfl, _⟩ := h
    rfl
  obtain ⟨v, N, kl, us, ks, rfl, hn, ok, hkl, hus, hk, h40, ht, ht3, q⟩ := h
  refine ⟨_, (pss_one (ps_if (pt_not (pt_val (pe_call G_are_kindlings (hr.mono (by decide)) (by rfl) T.are_kindlings.g T.are_kindlings.F.kp T.are_kindlings.b .nil pass0 (pa_cons (pv 0) (pa_cons (pv 1) pa_nil))))) (pss_one ps_never) pss_nil)), ?_⟩
  refine ⟨v, rfl, .ref kl, rfl, [], v, .ref kl, N, _, rfl, hn.dx0, ok, .lst (by simp) hkl hus.dx0, ht, ht3, fun H' k => ⟨true, by rw [kds_right hk h40], ?_⟩⟩
  exact iteF (q H' k)
def spLightsAll (TB TB2 : Addr) : Sp := fun vs H Q _ => ∃ (v : V) (N : Net) (kl : Addr) (us : List V) (ks : Kds), vs = [v, .ref kl] ∧ Tu H v (netD N) ∧ NetOk N ∧ H kl = some (.lst us) ∧ TuA H us (ks.map kdD) ∧ KdsOk N ks ∧ ks.length ≤ 40 ∧ GxR.TabG H TB ∧ GxR.TabG H TB2 ∧
  ∀ c ds H', LtsNew H c ds (lightsK N ks) H' → Q (.ref c) H'
theorem ok_lights_of_all (T : Tx K mg a) (TB : GxR.TabB base mg a.cd_is_net a.tb_is_net) (TB2 : GxR.TabB base mg a.cd_lights_of a.tb_lights_of) : FnOk P w K mg base CX0 12 a.a_lights_of_all a.f_lights_of_all ["net", "kindlings"] (spLightsAll a.tb_is_net a.tb_lights_of) := by
  have G_lights_of := ok_lights_of (P := P) (w := w) (base := base) T TB TB2
  refine T.lights_of_all.F.ok sc_lights_of_all (fun vs H Q E h => ?_) (fun cdv A outer s H vs Q E hr h => ?_)
  · obtain ⟨v, N, kl, us, ks, rfl, _⟩ := h
    rfl
  obtain ⟨v, N, kl, us, ks, rfl, hn, ok, hkl, hus, hk, h40, ht, ht2, q⟩ := h
  refine ⟨_, (pss_one (ps_ret (pe_lc (own := [("kindling", 2)]) (g := gName 2) (by rfl) sc_lights_of_all.nd (pi_list (pv 1)) (blkOk_by (own := [("kindling", 2)]) (N := s_lights_of_all_N) (sc := defScope s_lights_of_all) (by decide +kernel)) (fun _ _ _ _ _ => (pg_name (i := 2) sc_lights_of_all.nd rfl (by first | exact .inl rfl | exact .inr rfl))) (fun _ _ _ _ _ => pts_nil) (fun _ _ _ _ _ => (pe_call G_lights_of (hr.mono (by decide)) (by rfl) T.lights_of.g T.lights_of.F.kp T.lights_of.b .nil pass0 (pa_cons (pv 0) (pa_cons (pv 2) pa_nil))))))), ?_⟩
  have hul : us.length = ks.length := by rw [hus.len, List.length_map]
  refine ⟨.ref kl, rfl, kl, rfl, ⟨_, SqL.of hkl⟩, fun D nD => lc_list (xs := us) (fun i H' => ∃ ds, LtsNew H D ds (lightsK N (ks.take i)) H') ⟨[], by rw [List.take_zero]; exact LtsNew.start nD⟩ (fun i H' _ hP => ?_) (fun i x H' hx hP => ?_) (fun H' hP => ?_)⟩
  · obtain ⟨ds, h⟩ := hP
    exact SqL.of (h.kp.lst (by simp) hkl)
  · obtain ⟨ds, h⟩ := hP
    obtain ⟨d, hd1, hd2⟩ := hus.get hx
    obtain ⟨p, hp, rfl⟩ : ∃ p, ks[i]? = some p ∧ d = kdD p := by
      rw [List.getElem?_map] at hd1
      cases q1 : ks[i]? with
      | none => rw [q1] at hd1; cases hd1
      | some u => rw [q1] at hd1; exact ⟨u, rfl, (Option.some.inj hd1).symm⟩
    refine ⟨rfl, v, rfl, x, rfl, v, x, N, p.1, p.2, rfl, hn.kt h.kp.kt0, ok, hd2.kt h.kp.kt0, hk p (List.mem_of_getElem? hp), h.kp.tab _ ht, h.kp.tab _ ht2, fun d r H4 nd hd hl k4 => ?_⟩
    obtain ⟨s1, s2⟩ := h.step nd k4 hd hl
    refine ⟨_, s1, ?_, ds ++ [d], ?_⟩
    · rw [List.length_map, h.lts.len]
      unfold lightsK
      rw [List.length_map, List.length_take]
      exact Nat.lt_of_le_of_lt (show _ ≤ 40 by omega) (by decide)
    · have e : lightsK N (ks.take (i + 1)) = lightsK N (ks.take i) ++ [lightsL N p.1 p.2] := by
        unfold lightsK
        rw [List.take_add_one, hp, List.map_append]
        rfl
      rw [e]
      exact s2
  · obtain ⟨ds, h⟩ := hP
    rw [hul, List.take_length] at h
    exact q D ds H' h
def lapV : Option Int → V
  | none => .non
  | some l => .int l
def clD : Option (Int × Nat × Nat) → PyData
  | none => .none
  | some c => tupI [c.1, c.2.1, c.2.2]
def spClash : Sp := fun vs H Q _ => ∃ (len : Int) (lap : Option Int) (ve vl : V) (e l : Int × Nat), vs = [.int len, lapV lap, ve, vl] ∧ Tu H ve (tupI [e.1, e.2]) ∧ Tu H vl (tupI [l.1, l.2]) ∧ (∀ L, lap = some L → 0 < L) ∧
  ∀ v' H', Tu H' v' (clD (clashL len lap e l)) → Kp [] H H' → Q v' H'
theorem ok_clash_on_lamp (T : Tx K mg a) : FnOk P w K mg base CX0 1 a.a_clash_on_lamp a.f_clash_on_lamp ["length", "lap", "early", "late"] spClash := by
  refine T.clash_on_lamp.F.ok sc_clash_on_lamp (fun vs H Q E h => ?_) (fun cdv A outer s H vs Q E hr h => ?_)
  · obtain ⟨len, lap, ve, vl, e, l, rfl, _⟩ := h
    rfl
  obtain ⟨len, lap, ve, vl, ⟨fe, ue⟩, ⟨fl, ul⟩, rfl, he, hl, hpos, q⟩ := h
  obtain ⟨te, rfl, hte⟩ := tupI_at he
  obtain ⟨tl, rfl, htl⟩ := tupI_at hl
  refine ⟨_, (pss_cons (ps_asg (pv 2) (pg_tup (by rfl) (pgs_cons (pg_name (i := 4) sc_clash_on_lamp.nd rfl (by first | exact .inl rfl | exact .inr rfl)) (pgs_cons (pg_name (i := 5) sc_clash_on_lamp.nd rfl (by first | exact .inl rfl | exact .inr rfl)) pgs_nil))))
      (pss_cons (ps_asg (pv 3) (pg_tup (by rfl) (pgs_cons (pg_name (i := 6) sc_clash_on_lamp.nd rfl (by first | exact .inl rfl | exact .inr rfl)) (pgs_cons (pg_name (i := 7) sc_clash_on_lamp.nd rfl (by first | exact .inl rfl | exact .inr rfl)) pgs_nil))))
      (pss_cons (ps_set (i := 8) sc_clash_on_lamp.nd rfl (by first | exact .inl rfl | exact .inr rfl) (pe_op op_sub (pv 6) (pv 4)))
      (pss_cons (ps_if (pt_cmpR op_notN (pv 1) pe_non (nomark _)) (pss_one (ps_set (i := 8) sc_clash_on_lamp.nd rfl (by first | exact .inl rfl | exact .inr rfl) (pe_op op_mod (pv 8) (pv 1)))) pss_nil)
      (pss_cons (ps_if (pt_cmpR op_eq (pv 8) pe_int (nomark _)) (pss_one (ps_ret (pe_tup (pa_cons (pv 6) (pa_cons (pe_callB (call_max2 rfl) (by rfl) T.n_max (by decide +kernel) (pa_cons (pv 5) (pa_cons (pv 7) pa_nil))) (pa_cons (pe_callB (call_min2 rfl) (by rfl) T.n_min (by decide +kernel) (pa_cons (pv 5) (pa_cons (pv 7) pa_nil))) pa_nil)))))) pss_nil)
      (pss_cons (ps_if (pt_cmpR op_lt (pv 8) (pv 0) (nomark _)) (pss_one (ps_ret (pe_tup (pa_cons (pv 6) (pa_cons (pv 7) (pa_cons (pv 5) pa_nil)))))) pss_nil)
      (pss_cons (ps_if (PW.pt (pw_and (pt_cmpR op_notN (pv 1) pe_non (nomark _)) (pw_and1 (pt_cmpR op_lt (pe_op op_sub (pv 1) (pv 8)) (pv 0) (nomark _))))) (pss_one (ps_ret (pe_tup (pa_cons (pe_op op_sub (pe_op op_add (pv 6) (pv 1)) (pv 8)) (pa_cons (pv 5) (pa_cons (pv 7) pa_nil)))))) pss_nil)
      (pss_one (ps_ret pe_non))))))))), ?_⟩
  refine ⟨.ref te, rfl, te, _, rfl, SqT.of hte, rfl, _, _, rfl, _, _, rfl, rfl, ?_⟩
  refine ⟨.ref tl, rfl, tl, _, rfl, SqT.of htl, rfl, _, _, rfl, _, _, rfl, rfl, ?_⟩
  refine ⟨.int fl, rfl, .int fe, rfl, _, _, rfl, rfl, ?_⟩
  -- a told clash
  have tell : ∀ (b : Int) (u v : Nat) (t : Addr), H t = none → clashL len lap (fe, ue) (fl, ul) = some (b, u, v) → Q (.ref t) (upd H t (.tup [.int b, .int u, .int v])) := fun b u v t nt ec =>
    q _ _ (by rw [ec]; exact tupI_of (ns := [b, u, v]) upd_same) (Kp.new nt)
  have tell2 : ∀ t : Addr, H t = none → clashL len lap (fe, ue) (fl, ul) = some (fl, max ue ul, min ue ul) → Q (.ref t) (upd H t (.tup [.int fl, .int (if (ul : Int) > (ue : Int) then (ul : Int) else (ue : Int)), .int (if (ul : Int) < (ue : Int) then (ul : Int) else (ue : Int))])) := fun t nt ec => by
    have e1 : (if (ul : Int) > (ue : Int) then (ul : Int) else (ue : Int)) = ((max ue ul : Nat) : Int) := by split <;> omega
    have e2 : (if (ul : Int) < (ue : Int) then (ul : Int) else (ue : Int)) = ((min ue ul : Nat) : Int) := by split <;> omega
    rw [e1, e2]
    exact tell _ _ _ t nt ec
  cases lap with
  | none =>
    have e0 : clashL len none (fe, ue) (fl, ul) = if fl - fe = 0 then some (fl, max ue ul, min ue ul) else if fl - fe < len then some (fl, ul, ue) else none := rfl
    refine ⟨.non, rfl, rfl, _, rfl, iteF ?_⟩
    refine ⟨.int (fl - fe), rfl, rfl, _, rfl, ?_⟩
    by_cases g0 : fl - fe = 0
    · rw [decide_eq_true (by rw [g0])]
      rw [if_pos g0] at e0
      refine iteT ⟨.int fl, rfl, .int ue, rfl, .int ul, rfl, _, _, rfl, .int ue, rfl, .int ul, rfl, _, _, rfl, by show 3 ≤ sizeLine; decide, fun t nt => ?_⟩
      exact tell2 t nt e0
    · rw [decide_eq_false (fun z => g0 (V.int.inj z))]
      rw [if_neg g0] at e0
      refine iteF ⟨.int (fl - fe), rfl, .int len, rfl, _, _, rfl, rfl, _, rfl, ?_⟩
      by_cases g1 : fl - fe < len
      · rw [decide_eq_true g1]
        rw [if_pos g1] at e0
        exact iteT ⟨.int fl, rfl, .int ul, rfl, .int ue, rfl, by show 3 ≤ sizeLine; decide, fun t nt => tell _ _ _ t nt e0⟩
      · rw [decide_eq_false g1]
        rw [if_neg g1] at e0
        refine iteF ⟨.non, rfl, rfl, _, rfl, iteF (iteF ?_)⟩
        exact q _ _ (by rw [e0]; exact .non) .rfl'
  | some L =>
    have hL := hpos L rfl
    have e0 : clashL len (some L) (fe, ue) (fl, ul) = if (fl - fe) % L = 0 then some (fl, max ue ul, min ue ul) else if (fl - fe) % L < len then some (fl, ul, ue) else if L - (fl - fe) % L < len then some (fl + L - (fl - fe) % L, ue, ul) else none := rfl
    refine ⟨.int L, rfl, rfl, _, rfl, iteT ⟨.int (fl - fe), rfl, .int L, rfl, _, _, rfl, rfl, hL, ?_⟩⟩
    refine ⟨.int ((fl - fe) % L), rfl, rfl, _, rfl, ?_⟩
    by_cases g0 : (fl - fe) % L = 0
    · rw [decide_eq_true (by rw [g0])]
      rw [if_pos g0] at e0
      refine iteT ⟨.int fl, rfl, .int ue, rfl, .int ul, rfl, _, _, rfl, .int ue, rfl, .int ul, rfl, _, _, rfl, by show 3 ≤ sizeLine; decide, fun t nt => ?_⟩
      exact tell2 t nt e0
    · rw [decide_eq_false (fun z => g0 (V.int.inj z))]
      rw [if_neg g0] at e0
      refine iteF ⟨.int ((fl - fe) % L), rfl, .int len, rfl, _, _, rfl, rfl, _, rfl, ?_⟩
      by_cases g1 : (fl - fe) % L < len
      · rw [decide_eq_true g1]
        rw [if_pos g1] at e0
        exact iteT ⟨.int fl, rfl, .int ul, rfl, .int ue, rfl, by show 3 ≤ sizeLine; decide, fun t nt => tell _ _ _ t nt e0⟩
      · rw [decide_eq_false g1]
        rw [if_neg g1] at e0
        refine iteF ⟨.int L, rfl, rfl, _, rfl, iteT ⟨.int L, rfl, .int ((fl - fe) % L), rfl, _, _, rfl, rfl, .int len, rfl, _, _, rfl, rfl, _, rfl, ?_⟩⟩
        by_cases g2 : L - (fl - fe) % L < len
        · rw [decide_eq_true g2]
          rw [if_pos g2] at e0
          exact iteT ⟨.int fl, rfl, .int L, rfl, _, _, rfl, rfl, .int ((fl - fe) % L), rfl, _, _, rfl, rfl, .int ue, rfl, .int ul, rfl, by show 3 ≤ sizeLine; decide, fun t nt => tell _ _ _ t nt e0⟩
        · rw [decide_eq_false g2]
          rw [if_neg g2] at e0
          refine iteF ?_
          exact q _ _ (by rw [e0]; exact .non) .rfl'
def spFirst : Sp := fun vs H Q _ => ∃ (v : V) (N : Net) (c : Addr) (ds : List Addr) (ks : Kds) (one other : Nat), vs = [v, .ref c, .int one, .int other] ∧ Tu H v (netD N) ∧ NetOk N ∧ KdsOk N ks ∧ Lts H c ds (lightsK N ks) ∧ one < ks.length ∧ other < ks.length ∧ one ≠ other ∧
  ∀ r v' H', FstC N ks one other r → Tu H' v' (ocD r) → Kp [] H H' → Q v' H'
theorem ok_first_clash (T : Tx K mg a) : FnOk P w K mg base CX0 2 a.a_first_clash a.f_first_clash ["net", "lights", "one", "other"] spFirst := by
  have G_clash_on_lamp := ok_clash_on_lamp (P := P) (w := w) (base := base) T
  refine T.first_clash.F.ok sc_first_clash (fun vs H Q E h => ?_) (fun cdv A outer s H vs Q E hr h => ?_)
  · obtain ⟨v, N, c, ds, ks, one, other, rfl, _⟩ := h
    rfl
  obtain ⟨v, N, c, ds, ks, one, other, rfl, hn, ok, hk, hl, h1, h2, hne, q⟩ := h
  have hu := hu_of hr
  obtain ⟨p, hp⟩ : ∃ p, ks[one]? = some p := ⟨_, List.getElem?_eq_getElem h1⟩
  obtain ⟨p', hp'⟩ : ∃ p, ks[other]? = some p := ⟨_, List.getElem?_eq_getElem h2⟩
  have hx := hk p (List.mem_of_getElem? hp)
  have hx' := hk p' (List.mem_of_getElem? hp')
  refine ⟨_, (pss_cons (ps_set (i := 4) sc_first_clash.nd rfl (by first | exact .inl rfl | exact .inr rfl) (pe_lst pa_nil))
      (pss_cons (ps_lock (ps_for PassesOwn.never rfl (pi_items (pe_ix ix_list (pv 1) (pv 2) (fun _ _ => rfl))) (pg_tup (by rfl) (pgs_cons (pg_name (i := 5) sc_first_clash.nd rfl (by first | exact .inl rfl | exact .inr rfl)) (pgs_cons (pg_tup (by rfl) (pgs_cons (pg_name (i := 6) sc_first_clash.nd rfl (by first | exact .inl rfl | exact .inr rfl)) (pgs_cons (pg_name (i := 7) sc_first_clash.nd rfl (by first | exact .inl rfl | exact .inr rfl)) pgs_nil))) pgs_nil))) (pss_cons (ps_if (pt_cmp (pc_dnotin hu (pv 5) (pe_ix ix_list (pv 1) (pv 3) (fun _ _ => rfl)))) (pss_one ps_continue) pss_nil)
      (pss_cons (ps_asg (pe_callB cr_sortedN (by rfl) T.n_sorted (by decide +kernel) (pa_cons (pe_lst (pa_cons (pe_tup (pa_cons (pv 6) (pa_cons (pv 2) pa_nil))) (pa_cons (pe_tup (pa_cons (pe_ix ix_tup (pe_dget hu (pe_ix ix_list (pv 1) (pv 3) (fun _ _ => rfl)) (pv 5) (fun _ _ => rfl)) pe_int (fun _ _ => rfl)) (pa_cons (pv 3) pa_nil))) pa_nil))) pa_nil)) (pg_lst (by rfl) (pgs_cons (pg_name (i := 8) sc_first_clash.nd rfl (by first | exact .inl rfl | exact .inr rfl)) (pgs_cons (pg_name (i := 9) sc_first_clash.nd rfl (by first | exact .inl rfl | exact .inr rfl)) pgs_nil))))
      (pss_cons (ps_set (i := 10) sc_first_clash.nd rfl (by first | exact .inl rfl | exact .inr rfl) (pe_call G_clash_on_lamp (hr.mono (by decide)) (by rfl) T.clash_on_lamp.g T.clash_on_lamp.F.kp T.clash_on_lamp.b .nil pass0 (pa_cons (pe_ix ix_tup (pe_ix ix_tup (pv 0) (pv 5) (fun _ _ => rfl)) pe_int (fun _ _ => rfl)) (pa_cons (pv 7) (pa_cons (pv 8) (pa_cons (pv 9) pa_nil))))))
      (pss_one (ps_if (pt_cmpR op_notN (pv 10) pe_non (nomark _)) (pss_cons (ps_asg (pv 10) (pg_tup (by rfl) (pgs_cons (pg_name (i := 11) sc_first_clash.nd rfl (by first | exact .inl rfl | exact .inr rfl)) (pgs_cons (pg_name (i := 12) sc_first_clash.nd rfl (by first | exact .inl rfl | exact .inr rfl)) (pgs_cons (pg_name (i := 13) sc_first_clash.nd rfl (by first | exact .inl rfl | exact .inr rfl)) pgs_nil)))))
      (pss_one (ps_expr (pe_bm PySem.F.plainAttrs_list PySem.F.slot_list_append PySem.F.type_list_append mt_append (pv 4) (pa_cons (pe_tup (pa_cons (pv 11) (pa_cons (pv 5) (pa_cons (pv 12) (pa_cons (pv 13) pa_nil))))) pa_nil))))) pss_nil)))))))
      (pss_one (ps_ret (pe_callBK (cr_minD rfl (hu1_of hr)) (by rfl) T.n_min (by decide +kernel) (pa_cons (pv 4) pa_nil) (pk_cons pe_non pk_nil)))))), ?_⟩
  -- clashes = []
  refine ⟨Nat.zero_le _, fun cp nc => ?_⟩
  obtain ⟨H1, e1⟩ : ∃ H1, H1 = upd H cp (.lst []) := ⟨_, rfl⟩
  rw [← e1]
  have k1 : Kp [] H H1 := e1 ▸ Kp.new nc
  have hcp : H1 cp = some (.lst []) := by rw [e1]; exact upd_same
  have hl1 := hl.kp0 k1
  obtain ⟨d1, r1, hd1, hv1, hD1, hL1⟩ := hl1.get hp
  obtain ⟨d2, r2, hd2, hv2, hD2, hL2⟩ := hl1.get hp'
  have ne12 : d2 ≠ d1 := fun e => by
    rw [e] at hd2
    obtain ⟨a1, b1⟩ := List.getElem?_eq_some_iff.mp hd1
    obtain ⟨a2, b2⟩ := List.getElem?_eq_some_iff.mp hd2
    exact hne ((List.getElem_inj (h₀ := a1) (h₁ := a2) hl1.nd).mp (b1.trans b2.symm))
  have ncd : cp ≠ d1 := fun e => by rw [e, hD1] at hcp; cases hcp
  obtain ⟨L1, eL1⟩ : ∃ L, L = lightsL N p.1 p.2 := ⟨_, rfl⟩
  obtain ⟨L2, eL2⟩ : ∃ L, L = lightsL N p'.1 p'.2 := ⟨_, rfl⟩
  have hndL : (L1.map (·.1)).Nodup := by rw [eL1]; exact lights_nd ok hx p.1
  have hok1 := lights_ok ok hx (p.1 : Int)
  rw [← eL1] at hL1 hok1
  rw [← eL2] at hL2
  obtain ⟨pm1, pm2⟩ := pair_mem ok hk hp hp' hne
  have pmn := fun c hc => pair_min ok hk hp hp' hne (c := c) hc
  rw [← eL1, ← eL2] at pm1 pm2 pmn
  obtain ⟨ad, xs, rfl, hx0, hln, hat⟩ := tnet_at (hn.kt k1.kt0)
  have hc1 := hl1.top
  -- for lamp, (first, lap) in lights[one].items()
  refine ⟨d1, .dK r1, hD1, trivial, fun od => ?_⟩
  obtain ⟨Hf, ef⟩ : ∃ Hf, Hf = upd H1 d1 (.frz od (.dK r1)) := ⟨_, rfl⟩
  rw [← ef]
  have kf : Kp [d1] H1 Hf := ef ▸ Kp.put (by simp) hD1 fun ps z => by cases z
  have tf : Kt H1 Hf := kf.kt fun s z ys e => by
    rw [List.mem_singleton.mp z, hD1] at e
    cases e
  have hfd : Hf d1 = some (.frz od (.dK r1)) := by rw [ef]; exact upd_same
  have hfd2 : Hf d2 = some (.dK r2) := by rw [ef, upd_ne ne12]; exact hD2
  have hfc : Hf c = some (.lst (ds.map V.ref)) := kf.lst (by simpa using fun e => by rw [e, hD1] at hc1; cases hc1) hc1
  have hfcp : Hf cp = some (.lst []) := kf.lst (by simpa using ncd) hcp
  have ne2c : d2 ≠ cp := fun e => by rw [e, hcp] at hD2; cases hD2
  have necc : c ≠ cp := fun e => by
    have := hl.top
    rw [e, nc] at this
    cases this
  -- back to the open dict
  have back : ∀ H', Kp [cp] Hf H' → H' d1 = some (.frz od (.dK r1)) ∧ Kp [] H (upd H' d1 (.dK r1)) ∧ Kt H' (upd H' d1 (.dK r1)) := fun H' k => by
    have e : H' d1 = some (.frz od (.dK r1)) := k.at_ d1 _ (by simpa using Ne.symm ncd) hfd fun ps z => by cases z
    refine ⟨e, ?_, Kt.put e fun _ z => by cases z⟩
    have kk : Kp [d1, cp] H1 (upd H' d1 (.dK r1)) := (kf.wk (by simp)).tr ((k.wk (by simp)).tr (Kp.put (by simp) e fun ps z => by cases z))
    have kk2 : Kp [cp] H1 (upd H' d1 (.dK r1)) := Kp.same kk hD1 upd_same
    exact Kp.drop nc (k1.of0.tr kk2)
  refine ⟨.ref c, rfl, .int one, rfl, c, _, one, .ref d1, rfl, rfl, SqL.of hfc, atI_nat hv1, d1, od, r1, rfl, hfd, ?_⟩
  refine for_it walk_items (fun i σ H' => ∃ (o5 o6 o7 o8 o9 o10 o11 o12 o13 : Option V) (ws : List V), σ = [some (.ref ad), some (.ref c), some (.int one), some (.int other), some (.ref cp), o5, o6, o7, o8, o9, o10, o11, o12, o13] ∧ H' cp = some (.lst ws) ∧ TuA H' ws (((L1.take i).filterMap (pairC N L2 one other)).map c4D) ∧ Kp [cp] Hf H') ⟨none, none, none, none, none, none, none, none, none, [], rfl, hfcp, .nil, .rfl'⟩ (fun i σ H' _ hP => ?_) (fun i z σ H6 H7 hi hP hY => ?_) (fun σ H' hP => ?_)
  · obtain ⟨_, _, _, _, _, _, _, _, _, _, _, _, _, k⟩ := hP
    exact (back H' k).1
  · obtain ⟨o5, o6, o7, o8, o9, o10, o11, o12, o13, ws, rfl, hw6, hws, k6⟩ := hP
    obtain ⟨Tq, y1, y2, rfl, nT, rfl, g1, g2⟩ := hY
    have hiL : i < L1.length := by rw [← hL1.len]; exact hi
    obtain ⟨lg, hlg⟩ : ∃ lg, L1[i]? = some lg := ⟨L1[i], List.getElem?_eq_getElem hiL⟩
    obtain ⟨vz, hr1, hvz⟩ := hL1.get hlg
    replace g1 : r1[i]?.map (fun kv => kV kv.1) = some y1 := g1
    replace g2 : r1[i]?.map Prod.snd = some y2 := g2
    rw [hr1] at g1 g2
    obtain rfl : V.int (lg.1 : Int) = y1 := Option.some.inj g1
    obtain rfl : vz = y2 := Option.some.inj g2
    obtain ⟨y, fb, lp⟩ := lg
    have htk : L1.take (i + 1) = L1.take i ++ [(y, fb, lp)] := by rw [List.take_add_one, hlg]; rfl
    obtain ⟨hyl, hpos⟩ := hok1 _ (List.mem_of_getElem? hlg)
    obtain ⟨H7, e7⟩ : ∃ H7, H7 = upd H6 Tq (.tup [.int (y : Int), vz]) := ⟨_, rfl⟩
    rw [← e7]
    have k67 : Kp [] H6 H7 := e7 ▸ Kp.new nT
    have kf7 : Kp [cp] Hf H7 := k6.tr k67.of0
    have t67 := k67.kt0
    have cpn : ∀ s ∈ [cp], ∀ ys, Hf s ≠ some (.tup ys) := fun s z ys e => by
      rw [List.mem_singleton.mp z, hfcp] at e
      cases e
    have tf7 : Kt Hf H7 := kf7.kt cpn
    have hT7 : H7 Tq = some (.tup [.int (y : Int), vz]) := by rw [e7]; exact upd_same
    obtain ⟨ta, rfl, hta⟩ := lgt_at (hvz.kt (tf.tr tf7))
    have hx7 := (tf.tr tf7) _ _ hx0
    obtain ⟨la, hxl, hla⟩ := hat y _ (List.getElem?_eq_getElem hyl)
    have hla7 : H7 la = some (.tup [V.int (burnOf N y), nxV (N[y]'hyl).2]) := by
      rw [burnOf_get (List.getElem?_eq_getElem hyl)]
      exact (tf.tr tf7) _ _ hla
    have hd27 : H7 d2 = some (.dK r2) := kf7.at_ d2 _ (by simpa using ne2c) hfd2 fun _ z => by cases z
    have hc7 : H7 c = some (.lst (ds.map V.ref)) := kf7.lst (by simpa using necc) hfc
    have hw7 := k67.lst (by simp) hw6
    have hws7 := hws.kt t67
    -- lamp, (first, lap)
    refine ⟨Tq, _, rfl, SqT.of hT7, rfl, _, _, rfl, _, _, rfl, ta, _, rfl, SqT.of hta, rfl, _, _, rfl, _, _, rfl, rfl, rfl, ?_⟩
    -- if lamp not in lights[other]: continue
    refine ⟨.int (y : Int), rfl, .ref c, rfl, .int other, rfl, c, _, other, .ref d2, rfl, rfl, SqL.of hc7, atI_nat hv2, d2, _, rfl, DGet.k (k := Sum.inl (y : Int)) hd27, _, rfl, ?_⟩
    have hL27 := hL2.kt (tf.tr tf7)
    rcases hL27.val (y := y) with ⟨e1', e2'⟩ | ⟨w, vw, e1', e2', e3'⟩
    · rw [e2']
      refine iteT ⟨_, _, _, _, _, _, _, _, _, ws, rfl, hw7, ?_, kf7⟩
      rw [htk, List.filterMap_append]
      have : pairC N L2 one other (y, fb, lp) = none := by
        show (lookL y L2).bind _ = none
        rw [e1']
        rfl
      rw [show [(y, fb, lp)].filterMap (pairC N L2 one other) = [] by rw [List.filterMap_cons, this]; rfl, List.append_nil]
      exact hws7
    rw [e2']
    refine iteF ?_
    obtain ⟨w1, w2⟩ := w
    obtain ⟨tb, rfl, htb⟩ := lgt_at e3'
    have dg : DGet H7 d2 (.int (y : Int)) (some (.ref tb)) := by
      have := DGet.k (k := (Sum.inl (y : Int) : Key)) hd27
      rw [e2'] at this
      exact this
    -- early, late = sorted(..)
    refine ⟨.int fb, rfl, .int one, rfl, by show 2 ≤ sizeLine; decide, fun t1 nt1 => ?_⟩
    obtain ⟨Ha, ea⟩ : ∃ Ha, Ha = upd H7 t1 (.tup [.int fb, .int (one : Nat)]) := ⟨_, rfl⟩
    rw [← ea]
    have k7a : Kp [] H7 Ha := ea ▸ Kp.new nt1
    have dga : DGet Ha d2 (.int (y : Int)) (some (.ref tb)) := by
      have := DGet.k (k := (Sum.inl (y : Int) : Key)) (k7a.at_ d2 _ (by simp) hd27 fun _ z => by cases z)
      rw [e2'] at this
      exact this
    refine ⟨.ref c, rfl, .int other, rfl, c, _, other, .ref d2, rfl, rfl, SqL.of (k7a.lst (by simp) hc7), atI_nat hv2, .int (y : Int), rfl, d2, .ref tb, rfl, dga, tb, _, 0, .int w1, rfl, rfl, SqT.of (k7a.kt0 _ _ htb), atI_nat (j := 0) rfl, .int other, rfl, by show 2 ≤ sizeLine; decide, fun t2 nt2 => ?_⟩
    obtain ⟨Hb, eb⟩ : ∃ Hb, Hb = upd Ha t2 (.tup [.int w1, .int (other : Nat)]) := ⟨_, rfl⟩
    rw [← eb]
    have kab : Kp [] Ha Hb := eb ▸ Kp.new nt2
    refine ⟨by show 2 ≤ sizeLine; decide, fun l nl => ?_⟩
    obtain ⟨Hc, ec⟩ : ∃ Hc, Hc = upd Hb l (.lst [.ref t1, .ref t2]) := ⟨_, rfl⟩
    rw [← ec]
    have kbc : Kp [] Hb Hc := ec ▸ Kp.new nl
    have ht1c : Hc t1 = some (.tup [.int fb, .int (one : Nat)]) := (kab.tr kbc).kt0 _ _ (by rw [ea]; exact upd_same)
    have ht2c : Hc t2 = some (.tup [.int w1, .int (other : Nat)]) := kbc.kt0 _ _ (by rw [eb]; exact upd_same)
    have key1 : keyH Hc (.ref t1) = [fb, (one : Int)] := keyH_at (ns := [fb, (one : Int)]) ht1c
    have key2 : keyH Hc (.ref t2) = [w1, (other : Int)] := keyH_at (ns := [w1, (other : Int)]) ht2c
    refine ⟨l, [.ref t1, .ref t2], keyH Hc, rfl, SqL.of (by rw [ec]; exact upd_same), fun x hx => ?_, fun ys sp hs hb nsp => ?_⟩
    · rcases List.mem_cons.mp hx with rfl | hx
      · exact ⟨by rw [key1]; simp, t1, rfl, by rw [key1]; exact ht1c⟩
      · rw [List.mem_singleton.mp hx]
        exact ⟨by rw [key2]; simp, t2, rfl, by rw [key2]; exact ht2c⟩
    obtain ⟨te, tl, rfl, hte, htl⟩ := srt2_ys (a := (fb, one)) (b := (w1, other)) hne ht1c ht2c hs hb.perm
    obtain ⟨Hd, ed⟩ : ∃ Hd, Hd = upd Hc sp (.lst [.ref te, .ref tl]) := ⟨_, rfl⟩
    rw [← ed]
    have kcd : Kp [] Hc Hd := ed ▸ Kp.new nsp
    have k7d : Kp [] H7 Hd := k7a.tr (kab.tr (kbc.tr kcd))
    refine ⟨sp, _, rfl, SqL.of (by rw [ed]; exact upd_same), rfl, _, _, rfl, _, _, rfl, rfl, ?_⟩
    -- clash = clash_on_lamp(..)
    refine ⟨.ref ad, rfl, .int y, rfl, ad, xs, y, .ref la, rfl, rfl, SqT.of (k7d.kt0 _ _ hx7), atI_nat hxl, la, _, 0, .int (burnOf N y), rfl, rfl, SqT.of (k7d.kt0 _ _ hla7), atI_nat (j := 0) rfl, lapV lp, ?_, .ref te, rfl, .ref tl, rfl, burnOf N y, lp, .ref te, .ref tl, _, _, rfl, hte.kt kcd.kt0, htl.kt kcd.kt0, hpos, fun v' He hv' kde => ?_⟩
    · cases lp <;> rfl
    have k7e := k7d.tr kde
    have kfe : Kp [cp] Hf He := kf7.tr k7e.of0
    have hwe := k7e.lst (by simp) hw7
    have hwse := hws7.kt k7e.kt0
    have epc : pairC N L2 one other (y, fb, lp) = (clashL (burnOf N y) lp (srt2 (fb, one) (w1, other)).1 (srt2 (fb, one) (w1, other)).2).map fun d => (d.1, y, d.2.1, d.2.2) := by
      show (lookL y L2).bind _ = _
      rw [e1']
      rfl
    have hil : ((L1.take i).filterMap (pairC N L2 one other)).length ≤ 12 := by
      refine Nat.le_trans (List.length_filterMap_le _ _) ?_
      rw [List.length_take]
      have e1 : L1.length = (path N p.2).length := by rw [eL1, ← lights_fst N (p.1 : Int) p.2, List.length_map]
      have e2 := (path_been ok hx).le
      have e3 := ok.hi
      omega
    cases ecl : clashL (burnOf N y) lp (srt2 (fb, one) (w1, other)).1 (srt2 (fb, one) (w1, other)).2 with
    | none =>
      rw [ecl] at hv' epc
      have : v' = .non := by
        cases hv'
        rfl
      subst this
      refine ⟨.non, rfl, rfl, _, rfl, iteF ⟨_, _, _, _, _, _, _, _, _, ws, rfl, hwe, ?_, kfe⟩⟩
      rw [htk, List.filterMap_append, show [(y, fb, lp)].filterMap (pairC N L2 one other) = [] by rw [List.filterMap_cons, epc]; rfl, List.append_nil]
      exact hwse
    | some d =>
      obtain ⟨b, lo, ro⟩ := d
      rw [ecl] at hv' epc
      obtain ⟨tv, rfl, htv⟩ := tupI_at hv'
      refine ⟨.ref tv, rfl, rfl, _, rfl, iteT ?_⟩
      refine ⟨.ref tv, rfl, tv, _, rfl, SqT.of htv, rfl, _, _, rfl, _, _, rfl, _, _, rfl, rfl, ?_⟩
      refine ⟨.ref cp, rfl, .inl ⟨rfl, _, SqL.of hwe⟩, .int b, rfl, .int y, rfl, .int lo, rfl, .int ro, rfl, by show 4 ≤ sizeLine; decide, fun tn ntn => ?_⟩
      obtain ⟨Hg, eg⟩ : ∃ Hg, Hg = upd He tn (.tup [.int b, .int (y : Nat), .int (lo : Nat), .int (ro : Nat)]) := ⟨_, rfl⟩
      have keg : Kp [] He Hg := eg ▸ Kp.new ntn
      have hwg := keg.lst (by simp) hwe
      have hwsl : ws.length ≤ 12 := by
        have := hwse.len
        rw [List.length_map] at this
        omega
      refine ⟨cp, ws, .ref tn, rfl, rfl, by rw [← eg]; exact hwg, Nat.lt_of_le_of_lt hwsl (by decide), ?_⟩
      rw [← eg]
      have tput : Kt Hg (upd Hg cp (.lst (ws ++ [.ref tn]))) := Kt.put hwg fun _ z => by cases z
      refine ⟨_, _, _, _, _, _, _, _, _, ws ++ [.ref tn], rfl, upd_same, ?_, kfe.tr (keg.of0.tr (Kp.put (by simp) hwg fun _ z => by cases z))⟩
      rw [htk, List.filterMap_append, show [(y, fb, lp)].filterMap (pairC N L2 one other) = [(b, y, lo, ro)] by rw [List.filterMap_cons, epc]; rfl, List.map_append]
      refine ((hwse.kt keg.kt0).kt tput).app (.cons ?_ .nil)
      exact tupI_of (ns := [b, (y : Int), (lo : Int), (ro : Int)]) (tput _ _ (by rw [eg]; exact upd_same))
  · obtain ⟨o5, o6, o7, o8, o9, o10, o11, o12, o13, ws, rfl, hw6, hws, k6⟩ := hP
    obtain ⟨b1, b2, b3⟩ := back H' k6
    refine ⟨b1, ?_⟩
    rw [hL1.len, List.take_length] at hws
    obtain ⟨H8, e8⟩ : ∃ H8, H8 = upd H' d1 (.dK r1) := ⟨_, rfl⟩
    rw [← e8] at b2 b3 ⊢
    have hw8 : H8 cp = some (.lst ws) := by rw [e8, upd_ne ncd]; exact hw6
    have hws8 := hws.kt b3
    have hws9 : TuA H8 ws (((pairL N L1 L2 one other).map c4L).map tupI) := by rw [List.map_map]; exact hws8
    obtain ⟨kk1, kk2⟩ := tups_keys hws9
    -- min(clashes, default=None)
    refine ⟨.ref cp, rfl, cp, ws, keyH H8, .non, rfl, rfl, SqL.of hw8, kk2, fun e => ?_, fun x hx hmin => ?_⟩
    · have e0 : pairL N L1 L2 one other = [] := by
        have := hws9.len
        rw [e] at this
        simpa using this.symm
      refine q none _ _ ?_ .non b2
      intro b x
      refine ⟨fun z => ?_, fun z => ?_⟩
      · obtain ⟨d, hd, _⟩ := pm2 b x (.inl z)
        rw [e0] at hd
        cases hd
      · obtain ⟨d, hd, _⟩ := pm2 b x (.inr z)
        rw [e0] at hd
        cases hd
    · have hm : keyH H8 x ∈ (pairL N L1 L2 one other).map c4L := by rw [← kk1]; exact List.mem_map.mpr ⟨x, hx, rfl⟩
      obtain ⟨cc, hcc, ecc⟩ := List.mem_map.mp hm
      obtain ⟨t, rfl, ht⟩ := kk2 x hx
      refine q (some cc) _ _ ⟨pmn cc hcc fun d hd => ?_, (pm1 cc hcc).2⟩ ?_ b2
      · have hmd : c4L d ∈ ws.map (keyH H8) := by rw [kk1]; exact List.mem_map.mpr ⟨d, hd, rfl⟩
        obtain ⟨y, hy, ey⟩ := List.mem_map.mp hmd
        have := hmin y hy
        rw [← ecc, ey] at this
        exact this
      · show Tu H8 (.ref t) (tupI (c4L cc))
        rw [ecc]
        exact tupI_of ht
def spFirsts : Sp := fun vs H Q _ => ∃ (v : V) (N : Net) (c : Addr) (ds : List Addr) (ks : Kds), vs = [v, .ref c] ∧ Tu H v (netD N) ∧ NetOk N ∧ KdsOk N ks ∧ ks.length ≤ 40 ∧ Lts H c ds (lightsK N ks) ∧
  ∀ C l ws H', AllC N ks C → C.length ≤ 1600 → H l = none → H' l = some (.lst ws) → TuA H' ws (C.map c4D) → Kp [] H H' → Q (.ref l) H'
theorem ok_first_clashes (T : Tx K mg a) : FnOk P w K mg base CX0 3 a.a_first_clashes a.f_first_clashes ["net", "lights"] spFirsts := by
  have G_first_clash := ok_first_clash (P := P) (w := w) (base := base) T
  refine T.first_clashes.F.ok sc_first_clashes (fun vs H Q E h => ?_) (fun cdv A outer s H vs Q E hr h => ?_)
  · obtain ⟨v, N, c, ds, ks, rfl, _⟩ := h
    rfl
  obtain ⟨v, N, c, ds, ks, rfl, hn, ok, hk, h40, hl, q⟩ := h
  have hdl : ds.length = ks.length := by rw [hl.len]; exact List.length_map _
  refine ⟨_, (pss_cons (ps_set (i := 2) sc_first_clashes.nd rfl (by first | exact .inl rfl | exact .inr rfl) (pe_lst pa_nil))
      (pss_cons (ps_for PassesOwn.never rfl (pi_range1 (by rfl) T.n_range (pa_cons (pe_callB call_len_seq (by rfl) T.n_len (by decide +kernel) (pa_cons (pv 1) pa_nil)) pa_nil)) (pg_name (i := 3) sc_first_clashes.nd rfl (by first | exact .inl rfl | exact .inr rfl)) (pss_one (ps_for PassesOwn.never rfl (pi_range1 (by rfl) T.n_range (pa_cons (pv 3) pa_nil)) (pg_name (i := 4) sc_first_clashes.nd rfl (by first | exact .inl rfl | exact .inr rfl)) (pss_cons (ps_set (i := 5) sc_first_clashes.nd rfl (by first | exact .inl rfl | exact .inr rfl) (pe_call G_first_clash (hr.mono (by decide)) (by rfl) T.first_clash.g T.first_clash.F.kp T.first_clash.b .nil pass0 (pa_cons (pv 0) (pa_cons (pv 1) (pa_cons (pv 4) (pa_cons (pv 3) pa_nil))))))
      (pss_one (ps_if (pt_cmpR op_notN (pv 5) pe_non (nomark _)) (pss_one (ps_expr (pe_bm PySem.F.plainAttrs_list PySem.F.slot_list_append PySem.F.type_list_append mt_append (pv 2) (pa_cons (pv 5) pa_nil)))) pss_nil))))))
      (pss_one (ps_ret (pe_callB cr_sortedN (by rfl) T.n_sorted (by decide +kernel) (pa_cons (pv 2) pa_nil)))))), ?_⟩
  -- found = []
  refine ⟨Nat.zero_le _, fun fp nf => ?_⟩
  obtain ⟨H1, e1⟩ : ∃ H1, H1 = upd H fp (.lst []) := ⟨_, rfl⟩
  rw [← e1]
  have k1 : Kp [] H H1 := e1 ▸ Kp.new nf
  have hfp : H1 fp = some (.lst []) := by rw [e1]; exact upd_same
  have hl1 := hl.kp0 k1
  have ncf : c ≠ fp := fun e => by
    have := hl.top
    rw [e, nf] at this
    cases this
  have fpn : ∀ s ∈ [fp], ∀ ys, H1 s ≠ some (.tup ys) := fun s z ys e => by
    rw [List.mem_singleton.mp z, hfp] at e
    cases e
  have hdf : ∀ d ∈ ds, d ∉ [fp] := fun d hd z => by
    rw [List.mem_singleton.mp z] at hd
    obtain ⟨i, hi, e⟩ := List.getElem_of_mem hd
    obtain ⟨r, q, _⟩ := hl1.at_ i fp _ (by rw [List.getElem?_eq_getElem hi, e]) (List.getElem?_eq_getElem (by rw [← hl1.len]; exact hi))
    rw [hfp] at q
    cases q
  have hl2 : ∀ H', Kp [fp] H1 H' → Lts H' c ds (lightsK N ks) := fun H' k => hl1.kp k (k.kt fpn) (by simpa using ncf) hdf
  -- for other in range(len(lights))
  refine ⟨.ref c, rfl, c, _, rfl, .inl (SqL.of hl1.top), ks.length, by rw [List.length_map, hdl], by omega, by omega, for_range (n := ks.length) (fun i σ H' => ∃ (o4 o5 o6 : Option V) (ws : List V) (L : List C4), σ = [some v, some (.ref c), some (.ref fp), o4, o5, o6] ∧ H' fp = some (.lst ws) ∧ TuA H' ws (L.map c4D) ∧ Found N ks (fun u w => w < i) L ∧ L.length ≤ 40 * i ∧ Kp [fp] H1 H') ⟨none, none, none, [], [], rfl, hfp, .nil, Found.start fun u w _ => Nat.not_lt_zero w, Nat.zero_le _, .rfl'⟩ (fun i σ H2 hi hP => ?_) (fun σ H2 hP => ?_)⟩
  · obtain ⟨o4, o5, o6, ws, L, rfl, hw2, hws, hF, hL, k2⟩ := hP
    rw [show (0 + (i : Int)) = (i : Int) by omega]
    -- for one in range(other)
    refine ⟨.int i, rfl, i, rfl, by omega, by omega, for_range (n := i) (fun j σ H' => ∃ (o5 o6 : Option V) (ws : List V) (L : List C4), σ = [some v, some (.ref c), some (.ref fp), some (.int i), o5, o6] ∧ H' fp = some (.lst ws) ∧ TuA H' ws (L.map c4D) ∧ Found N ks (fun u w => w < i ∨ (w = i ∧ u < j)) L ∧ L.length ≤ 40 * i + j ∧ Kp [fp] H1 H') ⟨o5, o6, ws, L, rfl, hw2, hws, ⟨hF.nd, fun c hc => ?_, fun c hc h => ?_⟩, by omega, k2⟩ (fun j σ H3 hj hP => ?_) (fun σ H3 hP => ?_)⟩
    · obtain ⟨a1, u, w, a2, a3⟩ := hF.fc c hc
      exact ⟨a1, u, w, .inl a2, a3⟩
    · obtain ⟨u, w, a2, a3⟩ := h
      refine hF.all c hc ⟨u, w, ?_, a3⟩
      rcases a2 with z | ⟨_, z⟩
      · exact z
      · exact absurd z (Nat.not_lt_zero _)
    · obtain ⟨o5, o6, ws, L, rfl, hw3, hws3, hF3, hL3, k3⟩ := hP
      rw [show (0 + (j : Int)) = (j : Int) by omega]
      have hlt := hl2 H3 k3
      refine ⟨v, rfl, .ref c, rfl, .int j, rfl, .int i, rfl, v, N, c, ds, ks, j, i, rfl, (hn.kt k1.kt0).kt (k3.kt fpn), ok, hk, hlt, by omega, hi, by omega, fun r v' H4 hr4 hv' k4 => ?_⟩
      have hmore := hF3.more ok hk (P' := fun u w => w < i ∨ (w = i ∧ u < j + 1)) hj (by omega) (fun a b => by
        constructor
        · rintro (z | ⟨z1, z2⟩)
          · exact .inl (.inl z)
          · by_cases e : a = j
            · exact .inr ⟨e, z1⟩
            · exact .inl (.inr ⟨z1, by omega⟩)
        · rintro ((z | ⟨z1, z2⟩) | ⟨z1, z2⟩)
          · exact .inl z
          · exact .inr ⟨z1, by omega⟩
          · exact .inr ⟨z2, by omega⟩) hr4
      have hw4 := k4.lst (by simp) hw3
      have hws4 := hws3.kt k4.kt0
      have k34 : Kp [fp] H1 H4 := k3.tr k4.of0
      cases r with
      | none =>
        have : v' = .non := by cases hv'; rfl
        subst this
        rw [Option.toList_none, List.append_nil] at hmore
        exact ⟨.non, rfl, rfl, _, rfl, iteF ⟨_, _, ws, L, rfl, hw4, hws4, hmore, by omega, k34⟩⟩
      | some cc =>
        obtain ⟨tv, rfl, htv⟩ := tupI_at (show Tu H4 v' (tupI (c4L cc)) from hv')
        rw [Option.toList_some] at hmore
        have hwl : ws.length = L.length := by rw [hws4.len, List.length_map]
        refine ⟨.ref tv, rfl, rfl, _, rfl, iteT ⟨.ref fp, rfl, .inl ⟨rfl, _, SqL.of hw4⟩, .ref tv, rfl, fp, ws, .ref tv, rfl, rfl, hw4, Nat.lt_of_le_of_lt (show ws.length ≤ 2000 by omega) (by decide), ?_⟩⟩
        have tput : Kt H4 (upd H4 fp (.lst (ws ++ [.ref tv]))) := Kt.put hw4 fun _ z => by cases z
        refine ⟨_, _, ws ++ [.ref tv], L ++ [cc], rfl, upd_same, ?_, hmore, by rw [List.length_append]; simp; omega, k34.tr (Kp.put (by simp) hw4 fun ps z => by cases z)⟩
        rw [List.map_append]
        exact (hws4.kt tput).app (.cons (hv'.kt tput) .nil)
    · obtain ⟨o5, o6, ws, L, rfl, hw3, hws3, hF3, hL3, k3⟩ := hP
      refine ⟨_, _, _, ws, L, rfl, hw3, hws3, ⟨hF3.nd, fun c hc => ?_, fun c hc h => ?_⟩, by omega, k3⟩
      · obtain ⟨a1, u, w, a2, a3, a4⟩ := hF3.fc c hc
        exact ⟨a1, u, w, by omega, a3, a4⟩
      · obtain ⟨u, w, a2, a3, a4⟩ := h
        exact hF3.all c hc ⟨u, w, by omega, a3, a4⟩
  · obtain ⟨o4, o5, o6, ws, L, rfl, hw2, hws, hF, hL, k2⟩ := hP
    -- return sorted(found)
    have hws9 : TuA H2 ws ((L.map c4L).map tupI) := by rw [List.map_map]; exact hws
    obtain ⟨kk1, kk2⟩ := tups_keys hws9
    refine ⟨.ref fp, rfl, fp, ws, keyH H2, rfl, SqL.of hw2, fun x hx => ⟨?_, kk2 x hx⟩, fun ys p hs hb np => ?_⟩
    · have hm : keyH H2 x ∈ L.map c4L := by rw [← kk1]; exact List.mem_map.mpr ⟨x, hx, rfl⟩
      obtain ⟨cc, _, ecc⟩ := List.mem_map.mp hm
      rw [← ecc]
      exact fun z => by cases z
    · obtain ⟨C, c1, c2, c3⟩ := sorted_tups (f := c4L) (g := c4B) (fun c _ => c4B_L c) hws hs hb.perm
      have kn : Kp [] H2 (upd H2 p (.lst ys)) := Kp.new np
      refine q C p ys _ (hF.all_ ok hk (fun u w h1 h2 => h2) c1 c3) (by rw [c1.length_eq]; omega) ?_ upd_same (c2.kt kn.kt0) ?_
      · cases z : H p with
        | none => rfl
        | some o => exact absurd np (k2.tr_ p (k1.tr_ p (by rw [z]; exact fun y => by cases y)))
      exact Kp.drop nf ((k1.of0.tr k2).tr kn.of0)
def spLosses : Sp := fun vs H Q _ => ∃ (v : V) (N : Net) (c : Addr) (ds : List Addr) (ks : Kds), vs = [v, .ref c] ∧ Tu H v (netD N) ∧ NetOk N ∧ KdsOk N ks ∧ ks.length ≤ 40 ∧ Lts H c ds (lightsK N ks) ∧
  ∀ R l ws H', Losses N ks R → R.length ≤ 1600 → H l = none → H' l = some (.lst ws) → TuA H' ws (R.map c4D) → Kp [] H H' → Q (.ref l) H'
theorem ok_losses_by_lights (T : Tx K mg a) : FnOk P w K mg base CX0 4 a.a_losses_by_lights a.f_losses_by_lights ["net", "lights"] spLosses := by
  have G_first_clashes := ok_first_clashes (P := P) (w := w) (base := base) T
  refine T.losses_by_lights.F.ok sc_losses_by_lights (fun vs H Q E h => ?_) (fun cdv A outer s H vs Q E hr h => ?_)
  · obtain ⟨v, N, c, ds, ks, rfl, _⟩ := h
    rfl
  obtain ⟨v, N, c, ds, ks, rfl, hn, ok, hk, h40, hl, q⟩ := h
  have hu := hu_of hr
  refine ⟨_, (pss_cons (ps_set (i := 2) sc_losses_by_lights.nd rfl (by first | exact .inl rfl | exact .inr rfl) pe_dnewK)
      (pss_cons (ps_set (i := 3) sc_losses_by_lights.nd rfl (by first | exact .inl rfl | exact .inr rfl) (pe_lst pa_nil))
      (pss_cons (ps_for PassesOwn.never rfl (pi_list (pe_call G_first_clashes (hr.mono (by decide)) (by rfl) T.first_clashes.g T.first_clashes.F.kp T.first_clashes.b .nil pass0 (pa_cons (pv 0) (pa_cons (pv 1) pa_nil)))) (pg_tup (by rfl) (pgs_cons (pg_name (i := 4) sc_losses_by_lights.nd rfl (by first | exact .inl rfl | exact .inr rfl)) (pgs_cons (pg_name (i := 5) sc_losses_by_lights.nd rfl (by first | exact .inl rfl | exact .inr rfl)) (pgs_cons (pg_name (i := 6) sc_losses_by_lights.nd rfl (by first | exact .inl rfl | exact .inr rfl)) (pgs_cons (pg_name (i := 7) sc_losses_by_lights.nd rfl (by first | exact .inl rfl | exact .inr rfl)) pgs_nil))))) (pss_one (ps_if (PW.pt (pw_and (pt_cmp (pc_dnotin hu (pv 6) (pv 2))) (pw_and1 (pt_cmp (pc_dnotin hu (pv 7) (pv 2)))))) (pss_cons (ps_dput hu (pv 2) (pv 6) pe_bl rfl)
      (pss_one (ps_expr (pe_bm PySem.F.plainAttrs_list PySem.F.slot_list_append PySem.F.type_list_append mt_append (pv 3) (pa_cons (pe_tup (pa_cons (pv 4) (pa_cons (pv 5) (pa_cons (pv 6) (pa_cons (pv 7) pa_nil))))) pa_nil))))) pss_nil)))
      (pss_one (ps_ret (pv 3)))))), ?_⟩
  -- lost = {}; rows = []
  refine fun dk nd => ⟨Nat.zero_le _, fun rp nr => ?_⟩
  obtain ⟨H1, e1⟩ : ∃ H1, H1 = upd (upd H dk (.dK [])) rp (.lst []) := ⟨_, rfl⟩
  rw [← e1]
  have ndr : dk ≠ rp := fun e => by rw [← e, upd_same] at nr; cases nr
  have nrH : H rp = none := by rw [upd_ne (Ne.symm ndr)] at nr; exact nr
  have k1 : Kp [] H H1 := e1 ▸ (Kp.new nd).tr (Kp.new nr)
  have hrp : H1 rp = some (.lst []) := by rw [e1]; exact upd_same
  have hdk : H1 dk = some (.dK []) := by rw [e1, upd_ne ndr]; exact upd_same
  -- for beat, lamp, flame, other in first_clashes(net, lights)
  refine ⟨v, rfl, .ref c, rfl, v, N, c, ds, ks, rfl, hn.kt k1.kt0, ok, hk, h40, hl.kp0 k1, fun C l ws H2 hC hCl nl hl2 hws2 k2 => ?_⟩
  have hrp2 := k2.lst (by simp) hrp
  have hdk2 := k2.at_ dk _ (by simp) hdk fun _ z => by cases z
  have nlr : l ≠ rp := fun e => by rw [e, hrp] at nl; cases nl
  have k12 := k1.tr k2
  have wsl : ws.length = C.length := by rw [hws2.len, List.length_map]
  have sp2 : ∀ s ∈ [dk, rp], ∀ ys, H2 s ≠ some (.tup ys) := fun s z ys e => by
    rcases List.mem_cons.mp z with z | z
    · rw [z, hdk2] at e; cases e
    · rw [List.mem_singleton.mp z, hrp2] at e; cases e
  refine ⟨l, rfl, ⟨_, SqL.of hl2⟩, for_list (xs := ws) (fun i σ H' => ∃ (o4 o5 o6 o7 : Option V) (rs : List V), σ = [some v, some (.ref c), some (.ref dk), some (.ref rp), o4, o5, o6, o7] ∧ H' dk = some (.dK (lostK ((C.take i).foldl grd []))) ∧ H' rp = some (.lst rs) ∧ TuA H' rs (((C.take i).foldl grd []).map c4D) ∧ Kp [dk, rp] H2 H') ⟨none, none, none, none, [], rfl, hdk2, hrp2, .nil, .rfl'⟩ (fun i σ H' _ hP => ?_) (fun i z σ H3 hz hP => ?_) (fun σ H3 hP => ?_)⟩
  · obtain ⟨_, _, _, _, _, _, _, _, _, k⟩ := hP
    refine SqL.of (k.lst ?_ hl2)
    simp only [List.mem_cons, List.not_mem_nil, or_false, not_or]
    exact ⟨(fun e => by rw [e, hdk2] at hl2; cases hl2), nlr⟩
  · obtain ⟨o4, o5, o6, o7, rs, rfl, hd3, hr3, hrs, k3⟩ := hP
    obtain ⟨d, g1, g2⟩ := hws2.get hz
    obtain ⟨cc, hcc, rfl⟩ : ∃ cc, C[i]? = some cc ∧ d = c4D cc := by
      rw [List.getElem?_map] at g1
      cases q1 : C[i]? with
      | none => rw [q1] at g1; cases g1
      | some u => rw [q1] at g1; exact ⟨u, rfl, (Option.some.inj g1).symm⟩
    obtain ⟨b, x, f, g⟩ := cc
    have t23 := k3.kt sp2
    obtain ⟨tz, rfl, htz⟩ := tupI_at (g2.kt t23)
    obtain ⟨R, eR⟩ : ∃ R, R = (C.take i).foldl grd [] := ⟨_, rfl⟩
    rw [← eR] at hd3 hrs
    have eR1 : (C.take (i + 1)).foldl grd [] = grd R (b, x, f, g) := by
      rw [List.take_add_one, hcc, Option.toList_some, fold_app, ← eR]
    have hRl : R.length ≤ 1600 := by
      have := grd_len (C.take i) []
      rw [← eR, List.length_take] at this
      simp at this
      omega
    refine ⟨tz, _, rfl, SqT.of htz, rfl, _, _, rfl, _, _, rfl, _, _, rfl, _, _, rfl, rfl, ?_⟩
    -- if flame not in lost and other not in lost
    refine ⟨.int f, rfl, .ref dk, rfl, dk, _, rfl, DGet.k (k := Sum.inl (f : Int)) hd3, _, rfl, ?_⟩
    have skip : f ∈ R.map (·.2.2.1) ∨ g ∈ R.map (·.2.2.1) → ∃ (o4 o5 o6 o7 : Option V) (rs' : List V), [some v, some (.ref c), some (.ref dk), some (.ref rp), some (.int b), some (.int (x : Nat)), some (.int (f : Nat)), some (V.int (g : Nat))] = [some v, some (.ref c), some (.ref dk), some (.ref rp), o4, o5, o6, o7] ∧ H3 dk = some (.dK (lostK ((C.take (i + 1)).foldl grd []))) ∧ H3 rp = some (.lst rs') ∧ TuA H3 rs' (((C.take (i + 1)).foldl grd []).map c4D) ∧ Kp [dk, rp] H2 H3 := fun h => by
      have : grd R (b, x, f, g) = R := by unfold grd; rw [if_pos h]
      rw [eR1, this]
      exact ⟨_, _, _, _, rs, rfl, hd3, hr3, hrs, k3⟩
    rcases lostK_val f R with ⟨m1, m2⟩ | ⟨m1, m2⟩
    · rw [m2]
      exact iteF (iteF (skip (.inl m1)))
    rw [m2]
    refine iteT ⟨.int g, rfl, .ref dk, rfl, dk, _, rfl, DGet.k (k := Sum.inl (g : Int)) hd3, _, rfl, ?_⟩
    rcases lostK_val g R with ⟨n1, n2⟩ | ⟨n1, n2⟩
    · rw [n2]
      exact iteF (skip (.inr n1))
    rw [n2]
    refine iteT ?_
    have e2 : grd R (b, x, f, g) = R ++ [(b, x, f, g)] := by
      unfold grd
      rw [if_neg]
      rintro (z | z)
      · exact m1 z
      · exact n1 z
    -- lost[flame] = True
    have hkl : (lostK R).length = R.length := List.length_map _
    refine ⟨.ref dk, rfl, .int f, rfl, dk, _, rfl, DPut.k (k := Sum.inl (f : Int)) hd3 (by rw [hkl]; exact Nat.lt_of_le_of_lt hRl (by decide)), ?_⟩
    rw [putK_new (V.bl true) m2]
    obtain ⟨H4, e4⟩ : ∃ H4, H4 = upd H3 dk (.dK (lostK R ++ [((Sum.inl (f : Int) : Key), V.bl true)])) := ⟨_, rfl⟩
    rw [← e4]
    have k34 : Kp [dk, rp] H3 H4 := e4 ▸ Kp.put (by simp) hd3 fun ps z => by cases z
    have t34 : Kt H3 H4 := by rw [e4]; exact Kt.put hd3 fun _ z => by cases z
    have hr4 : H4 rp = some (.lst rs) := by rw [e4, upd_ne (Ne.symm ndr)]; exact hr3
    -- rows.append(..)
    have hrl : rs.length = R.length := by rw [hrs.len, List.length_map]
    refine ⟨.ref rp, rfl, .inl ⟨rfl, _, SqL.of hr4⟩, .int b, rfl, .int x, rfl, .int f, rfl, .int g, rfl, by show 4 ≤ sizeLine; decide, fun tn ntn => ?_⟩
    obtain ⟨H5, e5⟩ : ∃ H5, H5 = upd H4 tn (.tup [.int b, .int (x : Nat), .int (f : Nat), .int (g : Nat)]) := ⟨_, rfl⟩
    have k45 : Kp [] H4 H5 := e5 ▸ Kp.new ntn
    have hr5 := k45.lst (by simp) hr4
    refine ⟨rp, rs, .ref tn, rfl, rfl, by rw [← e5]; exact hr5, Nat.lt_of_le_of_lt (show rs.length ≤ 1600 by omega) (by decide), ?_⟩
    rw [← e5]
    have t56 : Kt H5 (upd H5 rp (.lst (rs ++ [.ref tn]))) := Kt.put hr5 fun _ z => by cases z
    rw [eR1, e2]
    refine ⟨_, _, _, _, rs ++ [.ref tn], rfl, ?_, upd_same, ?_, k3.tr (k34.tr (k45.of0.tr (Kp.put (by simp) hr5 fun ps z => by cases z)))⟩
    · rw [upd_ne ndr]
      have : H4 dk = some (.dK (lostK (R ++ [(b, x, f, g)]))) := by
        rw [e4, upd_same]
        unfold lostK
        rw [List.map_append]
        rfl
      exact k45.at_ dk _ (by simp) this fun _ z => by cases z
    · rw [List.map_append]
      refine (((hrs.kt t34).kt k45.kt0).kt t56).app (.cons ?_ .nil)
      exact tupI_of (ns := [b, (x : Int), (f : Int), (g : Int)]) (t56 _ _ (by rw [e5]; exact upd_same))
  · obtain ⟨o4, o5, o6, o7, rs, rfl, hd3, hr3, hrs, k3⟩ := hP
    rw [wsl, List.take_length] at hrs
    have hRl : (grdA C).length ≤ 1600 := by
      have := grd_len C []
      simp at this
      unfold grdA
      omega
    refine ⟨.ref rp, rfl, q (grdA C) rp rs H3 (losses_of ok hk hC) hRl nrH hr3 hrs ?_⟩
    refine Kp.drop nd (Kp.drop nrH ?_)
    exact (k12.of0.tr k3).wk (by simp)
end

section
variable {P : Program} {w : World} {K : PySem.W.Frag} {mg : Str → Option Value} {base : Heap} {a : Ad}
def spLossesP (TB TB2 TB3 : Addr) : Sp := fun vs H Q _ => ∃ (v : V) (N : Net) (kl : Addr) (us : List V) (ks : Kds), vs = [v, .ref kl] ∧ Tu H v (netD N) ∧ NetOk N ∧ H kl = some (.lst us) ∧ TuA H us (ks.map kdD) ∧ KdsOk N ks ∧ ks.length ≤ 40 ∧ GxR.TabG H TB ∧ GxR.TabG H TB2 ∧ GxR.TabG H TB3 ∧
  ∀ R l ws H', Losses N ks R → R.length ≤ 1600 → H l = none → H' l = some (.lst ws) → TuA H' ws (R.map c4D) → Kp [] H H' → Q (.ref l) H'
theorem ok_losses (T : Tx K mg a) (TB : GxR.TabB base mg a.cd_is_net a.tb_is_net) (TB2 : GxR.TabB base mg a.cd_lights_of a.tb_lights_of) (TB3 : GxR.TabB base mg a.cd_are_kindlings a.tb_are_kindlings) : FnOk P w K mg base CX0 13 a.a_losses a.f_losses ["net", "kindlings"] (spLossesP a.tb_is_net a.tb_lights_of a.tb_are_kindlings) := by
  have G_need_kindlings := ok_need_kindlings (P := P) (w := w) (base := base) T TB TB3
  have G_lights_of_all := ok_lights_of_all (P := P) (w := w) (base := base) T TB TB2
  have G_losses_by_lights := ok_losses_by_lights (P := P) (w := w) (base := base) T
  refine T.losses.F.ok sc_losses (fun vs H Q E h => ?_) (fun cdv A outer s H vs Q E hr h => ?_)
  · obtain ⟨v, N, kl, us, ks, rfl, _⟩ := h
    rfl
  obtain ⟨v, N, kl, us, ks, rfl, hn, ok, hkl, hus, hk, h40, ht, ht2, ht3, q⟩ := h
  refine ⟨_, (pss_cons (ps_expr (pe_call G_need_kindlings (hr.mono (by decide)) (by rfl) T.need_kindlings.g T.need_kindlings.F.kp T.need_kindlings.b .nil pass0 (pa_cons (pv 0) (pa_cons (pv 1) pa_nil))))
      (pss_one (ps_ret (pe_call G_losses_by_lights (hr.mono (by decide)) (by rfl) T.losses_by_lights.g T.losses_by_lights.F.kp T.losses_by_lights.b .nil pass0 (pa_cons (pv 0) (pa_cons (pe_call G_lights_of_all (hr.mono (by decide)) (by rfl) T.lights_of_all.g T.lights_of_all.F.kp T.lights_of_all.b .nil pass0 (pa_cons (pv 0) (pa_cons (pv 1) pa_nil))) pa_nil)))))), ?_⟩
  refine ⟨v, rfl, .ref kl, rfl, v, N, kl, us, ks, rfl, hn, ok, hkl, hus, hk, h40, ht, ht3, fun H1 k1 => ?_⟩
  refine ⟨v, rfl, v, rfl, .ref kl, rfl, v, N, kl, us, ks, rfl, hn.kt k1.kt0, ok, k1.lst (by simp) hkl, hus.kt k1.kt0, hk, h40, k1.tab _ ht, k1.tab _ ht2, fun c ds H2 hN2 => ?_⟩
  have k12 := k1.tr hN2.kp
  refine ⟨v, N, c, ds, ks, rfl, hn.kt k12.kt0, ok, hk, h40, hN2.lts, fun R l rs H3 hR hRl nl hl3 hrs3 k3 => ?_⟩
  refine q R l rs H3 hR hRl ?_ hl3 hrs3 (k12.tr k3)
  cases z : H l with
  | none => rfl
  | some o => exact absurd nl (k12.tr_ l (by rw [z]; exact fun y => by cases y))
end

section
variable {P : Program} {w : World} {K : PySem.W.Frag} {mg : Str → Option Value} {base : Heap} {a : Ad}
def noneB (R : List C4) (x : Nat) : Bool := (R.map fun c => !(((c.2.1 : Nat) : Int) == ((x : Nat) : Int))).all id
def spNoneLost (TB TB2 TB3 TB4 : Addr) : Sp := fun vs H Q _ => ∃ (v : V) (N : Net) (kl : Addr) (ks : Kds) (x : Nat), vs = [v, .ref kl, .int x] ∧ Tu H v (netD N) ∧ NetOk N ∧ LstOf H kl (ks.map kdD) ∧ KdsOk N ks ∧ ks.length ≤ 40 ∧ x < N.length ∧ GxR.TabG H TB ∧ GxR.TabG H TB2 ∧ GxR.TabG H TB3 ∧ GxR.TabG H TB4 ∧
  ∀ H' R, Losses N ks R → Kp [] H H' → Q (.bl (noneB R x)) H'
theorem ok_none_lost_at (T : Tx K mg a) (TB : GxR.TabB base mg a.cd_is_net a.tb_is_net) (TB2 : GxR.TabB base mg a.cd_lights_of a.tb_lights_of) (TB3 : GxR.TabB base mg a.cd_are_kindlings a.tb_are_kindlings) (TB4 : GxR.TabB base mg a.cd_none_lost_at a.tb_none_lost_at) : FnOk P w K mg base CX0 16 a.a_none_lost_at a.f_none_lost_at ["net", "kindlings", "lamp"] (spNoneLost a.tb_is_net a.tb_lights_of a.tb_are_kindlings a.tb_none_lost_at) := by
  have G_need_kindlings := ok_need_kindlings (P := P) (w := w) (base := base) T TB TB3
  have G_need_lamp := ok_need_lamp (P := P) (w := w) (base := base) T
  have G_losses := ok_losses (P := P) (w := w) (base := base) T TB TB2 TB3
  refine okC T.none_lost_at.F T.code_none_lost_at sc_none_lost_at (fun vs H Q E h => ?_) (fun A outer s H vs Q E hr h => ?_)
  · obtain ⟨v, N, kl, ks, x, rfl, _⟩ := h
    rfl
  obtain ⟨v, N, kl, ks, x, rfl, hn, ok, hkl, hk, h40, hx, ht, ht2, ht3, ht4, q⟩ := h
  refine ⟨_, (pss_cons (ps_expr (pe_call G_need_kindlings (hr.mono (by decide)) (by rfl) T.need_kindlings.g T.need_kindlings.F.kp T.need_kindlings.b .nil pass0 (pa_cons (pv 0) (pa_cons (pv 1) pa_nil))))
      (pss_cons (ps_expr (pe_call G_need_lamp (hr.mono (by decide)) (by rfl) T.need_lamp.g T.need_lamp.F.kp T.need_lamp.b .nil pass0 (pa_cons (pv 0) (pa_cons (pv 2) pa_nil))))
      (pss_one (ps_ret (pe_allT (k := 1) (hr.mono (by decide)) (by rfl) T.n_all TB4 rfl ⟨rfl, rfl, by decide +kernel, by decide +kernel, by decide +kernel, free_by (by decide +kernel)⟩ (by decide +kernel) (by decide +kernel) (by decide +kernel) (by decide +kernel) (by decide +kernel) (pso_list (pe_call G_losses (hr.mono (by decide)) (by rfl) T.losses.g T.losses.F.kp T.losses.b .nil pass0 (pa_cons (pv 0) (pa_cons (pv 1) pa_nil)))) (fun _ => rfl)))))), ?_⟩
  obtain ⟨kw, hkw, hkt⟩ := hkl
  refine ⟨v, rfl, .ref kl, rfl, v, N, kl, kw, ks, rfl, hn, ok, hkw, hkt, hk, h40, ht, ht3, fun H1 k1 => ?_⟩
  have hn1 := hn.kt k1.kt0
  refine ⟨v, rfl, .int x, rfl, [], v, N, x, rfl, hn1.dx0, hx, ?_⟩
  refine ⟨v, rfl, .ref kl, rfl, v, N, kl, kw, ks, rfl, hn1, ok, k1.lst (by simp) hkw, hkt.kt k1.kt0, hk, h40, k1.tab _ ht, k1.tab _ ht2, k1.tab _ ht3, fun R l ws H2 hR hR16 nl hl hws k2 => ?_⟩
  have k12 := k1.tr k2
  have ht42 := k12.tab _ ht4
  refine ⟨l, ws, rfl, SqL.of hl, R.map fun c => V.int ((c.2.1 : Nat) : Int), R.map fun c => !(((c.2.1 : Nat) : Int) == ((x : Nat) : Int)), [("lamp", .int (x : Nat))], ht42, fun y vy hy => ?_, ⟨by rw [hws.len, List.length_map, List.length_map], fun i e he => ?_⟩, ⟨by rw [List.length_map, List.length_map], fun hd env OK hsc j xv b hx hb => ?_⟩, fun H3 hT => ?_⟩
  · by_cases ey : y = "lamp"
    · subst ey
      have e2 : V.int (x : Nat) = vy := by simpa [List.lookup] using hy
      subst e2
      exact ⟨by decide +kernel, by decide +kernel, by decide +kernel, 2, rfl, rfl, (by decide +kernel : (defScope s_none_lost_at).names.lookup _ = some .cell)⟩
    · have ey' : (y == ("lamp" : Str)) = false := by simpa using ey
      simp [List.lookup, ey'] at hy
  · obtain ⟨d, g1, g2⟩ := hws.get he
    obtain ⟨c, hc, rfl⟩ := mapd_get g1
    obtain ⟨t, rfl, htt⟩ := c4_tup g2
    exact ⟨t, _, _, _, _, rfl, by rw [List.getElem?_map, hc]; rfl, htt⟩
  · rw [List.getElem?_map] at hx hb
    cases hc : R[j]? with
    | none => rw [hc] at hx; cases hx
    | some c =>
      rw [hc] at hx hb
      cases hx
      cases hb
      exact q_cmp qo_ne (q_name rfl) (q_name rfl) (by rfl)
  · exact q H3 R hR (k12.tr (Kp.tabbed ht42 hT))
end

/-! ### the law's draws -/
section
variable {P : Program} {w : World} {K : PySem.W.Frag} {mg : Str → Option Value} {base : Heap} {a : Ad}
/-- a jar: three numbers, at most n draws were made -/
def Sack (H : Hp) (p : Addr) (n : Nat) : Prop := ∃ x y z : Int, H p = some (.lst [.int x, .int y, .int z]) ∧ 0 ≤ x ∧ 0 ≤ y ∧ y < 2 ^ 210 ∧ 0 ≤ z ∧ z ≤ n
theorem Sack.mono {H : Hp} {p : Addr} {n m : Nat} (h : Sack H p n) (l : n ≤ m) : Sack H p m := by
  obtain ⟨x, y, z, e, h1, h2, h3, h4, h5⟩ := h
  exact ⟨x, y, z, e, h1, h2, h3, h4, by omega⟩
theorem Sack.kp {S : List Addr} {H H1 : Hp} {p : Addr} {n : Nat} (h : Sack H p n) (k : Kp S H H1) (hp : p ∉ S) : Sack H1 p n := by
  obtain ⟨x, y, z, e, r⟩ := h
  exact ⟨x, y, z, k.lst hp e, r⟩
theorem Sack.new {H : Hp} {p q : Addr} {o : HO} {n : Nat} (h : Sack H p n) (nq : H q = none) : Sack (upd H q o) p n := h.kp (Kp.new (S := []) nq) (by simp)
theorem Sack.tr {H : Hp} {p : Addr} {n : Nat} (h : Sack H p n) : H p ≠ none := by
  obtain ⟨x, y, z, e, _⟩ := h
  rw [e]
  exact fun q => by cases q
theorem Sack.nt {H : Hp} {p : Addr} {n : Nat} (h : Sack H p n) : ∀ s ∈ [p], ∀ xs, H s ≠ some (.tup xs) := fun s hs xs => by
  obtain rfl : s = p := by simpa using hs
  obtain ⟨x, y, z, e, _⟩ := h
  rw [e]
  exact fun q => by cases q
theorem Sack.ni {H : Hp} {p q : Addr} {n : Nat} (h : Sack H p n) (nq : H q = none) : q ∉ [p] := by
  have : p ≠ q := fun e => h.tr (e ▸ nq)
  simpa using this.symm
def spJar (K : PySem.W.Frag) : Sp := fun vs H Q _ => ∃ (l : Addr) (ns : List Int) (k : Nat), vs = [.ref l, .int k] ∧ SqL K H l (ns.map V.int) ∧ ns.length ≤ 63 ∧ k < 64 ∧ ∀ p, H p = none → ∀ H', Kp [] H H' → Sack H' p 0 → Q (.ref p) H'
theorem ok_law_jar (T : Tx K mg a) : FnOk P w K mg base CX0 1 a.a_law_jar a.f_law_jar ["script", "k"] (spJar K) := by
  refine T.law_jar.F.ok sc_law_jar (fun vs H Q E h => ?_) (fun cdv A outer s H vs Q E hr h => ?_)
  · obtain ⟨l, ns, k, rfl, _⟩ := h
    rfl
  obtain ⟨l, ns, k, rfl, hl, hn, hk, q⟩ := h
  refine ⟨_, (pss_cons (ps_set (i := 2) sc_law_jar.nd rfl (by first | exact .inl rfl | exact .inr rfl) pe_int)
      (pss_cons (ps_if (pt_cmpR op_lt (pv 1) (pe_callB call_len_seq (by rfl) T.n_len (by decide +kernel) (pa_cons (pv 0) pa_nil)) (nomark _)) (pss_one (ps_set (i := 2) sc_law_jar.nd rfl (by first | exact .inl rfl | exact .inr rfl) (pe_ix ix_list (pv 0) (pv 1) (fun _ _ => rfl)))) pss_nil)
      (pss_one (ps_ret (pe_lst (pa_cons (pe_callB (call_max2 rfl) (by rfl) T.n_max (by decide +kernel) (pa_cons pe_int (pa_cons (pe_op op_sub (pv 2) (pe_op op_powW pe_int pe_int)) pa_nil))) (pa_cons (pe_op op_add (pe_op op_mulW (pe_op op_mod (pv 2) (pe_op op_add (pe_op op_powW pe_int pe_int) pe_int)) pe_int) (pe_op op_mod (pv 1) pe_int)) (pa_cons pe_int pa_nil)))))))), ?_⟩
  have lns : (ns.map V.int).length = ns.length := List.length_map _
  have l1 := fun i : Int => Int.emod_nonneg i (show ((10 : Int) ^ (60 : Int).toNat + 7) ≠ 0 by decide)
  have l2 := fun i : Int => Int.emod_lt_of_pos i (show 0 < ((10 : Int) ^ (60 : Int).toNat + 7) by decide)
  have l3 : ((10 : Int) ^ (60 : Int).toNat + 7) * 64 + 64 < 2 ^ 210 := by decide
  have tail : ∀ c : Int, tRet (tLst (tCons (tCB (fun xs H Q => ∃ i j, xs = [V.int i, V.int j] ∧ Q (V.int (if j > i then j else i)) H) (tCons (tC (V.int 0)) (tCons (tOp (rI0 fun i j => V.int (i - j)) (tVar 2) (tOp (rI CPowW fun i j => V.int (i ^ j.toNat)) (tC (V.int 10)) (tC (V.int 18)))) tNil)))
      (tCons (tOp (rI0 fun i j => V.int (i + j)) (tOp (rI CMulW fun i j => V.int (i * j)) (tOp (rI (fun x j => 0 < j) fun i j => V.int (i % j)) (tVar 2) (tOp (rI0 fun i j => V.int (i + j)) (tOp (rI CPowW fun i j => V.int (i ^ j.toNat)) (tC (V.int 10)) (tC (V.int 60))) (tC (V.int 7)))) (tC (V.int 64))) (tOp (rI (fun x j => 0 < j) fun i j => V.int (i % j)) (tVar 1) (tC (V.int 64))))
      (tCons (tC (V.int 0)) tNil)))) { nx := fun x H' => Q V.non H', rt := Q } [some (.ref l), some (.int k), some (.int c)] H := fun c => by
    refine ⟨.int c, rfl, _, _, rfl, rfl, ⟨by decide, by decide⟩, _, _, rfl, rfl, _, _, rfl, ?_⟩
    refine ⟨.int c, rfl, _, _, rfl, rfl, ⟨by decide, by decide⟩, _, _, rfl, rfl, _, _, rfl, rfl, (by show (0 : Int) < _; decide), _, _, rfl, rfl, wide_mul (a := 210) (b := 8) ?_ (by decide) (by decide) (by decide) (by decide), .int k, rfl, _, _, rfl, rfl, (by show (0 : Int) < _; decide), _, _, rfl, rfl, by show 3 ≤ sizeLine; decide, fun p np => ?_⟩
    · have := l1 c
      have := l2 c
      omega
    · refine q p np _ (Kp.new np) ⟨_, _, _, upd_same, ?_, ?_, ?_, Int.le_refl 0, Int.le_refl 0⟩
      · split <;> omega
      · have := l1 c
        have := Int.emod_nonneg (k : Int) (show (64 : Int) ≠ 0 by decide)
        show 0 ≤ c % ((10 : Int) ^ (60 : Int).toNat + 7) * 64 + (k : Int) % 64
        omega
      · have := l2 c
        have := Int.emod_lt_of_pos (k : Int) (show (0 : Int) < 64 by decide)
        show c % ((10 : Int) ^ (60 : Int).toNat + 7) * 64 + (k : Int) % 64 < _
        omega
  refine ⟨.int k, rfl, .ref l, rfl, l, _, rfl, .inl hl, _, _, rfl, rfl, _, rfl, ?_⟩
  by_cases hkl : k < ns.length
  · rw [decide_eq_true (by rw [lns]; omega)]
    have hcv : (ns.map V.int)[k]? = some (.int ns[k]) := by rw [List.getElem?_map, List.getElem?_eq_getElem hkl]; rfl
    exact iteT ⟨.ref l, rfl, .int k, rfl, l, _, k, .int ns[k], rfl, rfl, hl, atI_nat hcv, tail ns[k]⟩
  · rw [decide_eq_false (by rw [lns]; omega)]
    exact iteF (tail 0)
def spDip : Sp := fun vs H Q _ => ∃ (p : Addr) (m : Int) (n : Nat), vs = [.ref p, .int m] ∧ 0 < m ∧ m < 2 ^ 8000 ∧ Sack H p n ∧ n < 100000 ∧ ∀ r H', 0 ≤ r → r < m → Kp [p] H H' → Sack H' p (n + 1) → Q (.int r) H'
theorem ok_law_dip (T : Tx K mg a) : FnOk P w K mg base CX0 1 a.a_law_dip a.f_law_dip ["jar", "below"] spDip := by
  refine T.law_dip.F.ok sc_law_dip (fun vs H Q E h => ?_) (fun cdv A outer s H vs Q E hr h => ?_)
  · obtain ⟨p, m, n, rfl, _⟩ := h
    rfl
  obtain ⟨p, m, n, rfl, hm, hm2, ⟨x, y, z, hp, hx, hy, hy2, hz, hz2⟩, hn, q⟩ := h
  refine ⟨_, (pss_cons (ps_if (pt_cmpR op_gt (pe_ix ix_list (pv 0) pe_int (fun _ _ => rfl)) pe_int (nomark _)) (pss_cons (ps_set (i := 2) sc_law_dip.nd rfl (by first | exact .inl rfl | exact .inr rfl) (pe_op op_mod (pe_ix ix_list (pv 0) pe_int (fun _ _ => rfl)) (pv 1)))
      (pss_cons (ps_asg (pe_op op_fdivW (pe_ix ix_list (pv 0) pe_int (fun _ _ => rfl)) (pv 1)) (pg_sub (pv 0) pe_int set_list))
      (pss_one (ps_ret (pv 2))))) pss_nil)
      (pss_cons (ps_asg (pe_op op_add (pe_ix ix_list (pv 0) pe_int (fun _ _ => rfl)) pe_int) (pg_sub (pv 0) pe_int set_list))
      (pss_cons (ps_set (i := 3) sc_law_dip.nd rfl (by first | exact .inl rfl | exact .inr rfl) (pe_op op_mod (pe_op op_powW (pe_op op_add (pe_op op_add (pe_ix ix_list (pv 0) pe_int (fun _ _ => rfl)) (pe_op op_mulW (pe_op op_mulW pe_int (pe_ix ix_list (pv 0) pe_int (fun _ _ => rfl))) (pe_ix ix_list (pv 0) pe_int (fun _ _ => rfl)))) pe_int) pe_int) pe_int))
      (pss_cons (ps_set (i := 3) sc_law_dip.nd rfl (by first | exact .inl rfl | exact .inr rfl) (pe_op op_mod (pe_op op_powW (pe_op op_add (pv 3) (pe_op op_mulW pe_int (pe_ix ix_list (pv 0) pe_int (fun _ _ => rfl)))) pe_int) pe_int))
      (pss_one (ps_ret (pe_op op_mod (pe_op op_fdivW (pv 3) pe_int) (pv 1)))))))), ?_⟩
  have nt : ∀ ps, HO.lst [V.int x, .int y, .int z] ≠ .tbl ps := fun ps e => by cases e
  refine ⟨.ref p, rfl, p, _, 0, .int x, rfl, rfl, SqL.of hp, atI_nat (j := 0) rfl, _, _, rfl, rfl, _, rfl, ite2 (fun e => ?_) (fun e => ?_)⟩
  · refine ⟨.ref p, rfl, p, _, 0, .int x, rfl, rfl, SqL.of hp, atI_nat (j := 0) rfl, .int m, rfl, x, m, rfl, rfl, hm, ?_⟩
    refine ⟨.ref p, rfl, p, _, 0, .int x, rfl, rfl, SqL.of hp, atI_nat (j := 0) rfl, .int m, rfl, x, m, rfl, rfl, ⟨hm, big_log hm hm2⟩, ?_⟩
    refine ⟨.ref p, rfl, p, _, 0, 0, rfl, rfl, hp, rfl, ?_⟩
    refine ⟨.int (x % m), rfl, ?_⟩
    refine q _ _ (Int.emod_nonneg _ (by omega)) (Int.emod_lt_of_pos _ hm) (Kp.put (by simp) hp nt) ⟨x / m, y, z, upd_same, Int.ediv_nonneg hx (by omega), hy, hy2, hz, by omega⟩
  · -- jar[2] = jar[2] + 1
    refine ⟨.ref p, rfl, p, _, 2, .int z, rfl, rfl, SqL.of hp, atI_nat (j := 2) rfl, _, _, rfl, rfl, .ref p, rfl, p, _, 2, 2, rfl, rfl, hp, rfl, ?_⟩
    obtain ⟨H1, e1⟩ : ∃ H1, H1 = upd H p (.lst [.int x, .int y, .int (z + 1)]) := ⟨_, rfl⟩
    have hp1 : H1 p = some (.lst [.int x, .int y, .int (z + 1)]) := by rw [e1]; exact upd_same
    have k1 : Kp [p] H H1 := e1 ▸ Kp.put (by simp) hp nt
    show tSeq _ _ _ _ (upd H p (.lst [.int x, .int y, .int (z + 1)]))
    rw [← e1]
    -- mixed = (jar[1] + 40503 * jar[2] * jar[2] + 11) ** 3 % ..
    have hz3 : (40503 * (z + 1)).natAbs < 2 ^ 40 := by omega
    have hz4 : 40503 * (z + 1) * (z + 1) < 2 ^ 60 := by
      have h1 : 40503 * (z + 1) * (z + 1) ≤ 40503 * (z + 1) * 2 ^ 17 := Int.mul_le_mul_of_nonneg_left (by omega) (by omega)
      omega
    have hz5 : 0 ≤ 40503 * (z + 1) * (z + 1) := Int.mul_nonneg (by omega) (by omega)
    refine ⟨.ref p, rfl, p, _, 1, .int y, rfl, rfl, SqL.of hp1, atI_nat (j := 1) rfl, .ref p, rfl, p, _, 2, .int (z + 1), rfl, rfl, SqL.of hp1, atI_nat (j := 2) rfl, _, _, rfl, rfl, wide_mul (a := 20) (b := 20) (by decide) (by omega) (by decide) (by decide) (by decide), .ref p, rfl, p, _, 2, .int (z + 1), rfl, rfl, SqL.of hp1, atI_nat (j := 2) rfl, _, _, rfl, rfl, wide_mul (a := 40) (b := 20) hz3 (by omega) (by decide) (by decide) (by decide), _, _, rfl, rfl, _, _, rfl, rfl, _, _, rfl, rfl, pow_ok (n := 212) (e := 3) ?_ (by decide) (by decide), _, _, rfl, rfl, (by show (0 : Int) < _; decide), ?_⟩
    · show (y + 40503 * (z + 1) * (z + 1) + 11).natAbs < 2 ^ 212
      omega
    obtain ⟨b1, eb⟩ : ∃ b1, b1 = (y + 40503 * (z + 1) * (z + 1) + 11) ^ (3 : Int).toNat % 2305843009213693951 := ⟨_, rfl⟩
    have hb0 : 0 ≤ b1 := by rw [eb]; exact Int.emod_nonneg _ (by decide)
    have hb1 : b1 < 2305843009213693951 := by rw [eb]; exact Int.emod_lt_of_pos _ (by decide)
    show tSeq _ _ _ (List.set _ 3 (some (V.int ((y + 40503 * (z + 1) * (z + 1) + 11) ^ (3 : Int).toNat % 2305843009213693951)))) _
    rw [← eb]
    -- mixed = (mixed + 69621 * jar[2]) ** 3 % ..
    refine ⟨.int b1, rfl, .ref p, rfl, p, _, 2, .int (z + 1), rfl, rfl, SqL.of hp1, atI_nat (j := 2) rfl, _, _, rfl, rfl, wide_mul (a := 20) (b := 20) (by decide) (by omega) (by decide) (by decide) (by decide), _, _, rfl, rfl, _, _, rfl, rfl, pow_ok (n := 70) (e := 3) ?_ (by decide) (by decide), _, _, rfl, rfl, (by show (0 : Int) < _; decide), ?_⟩
    · show (b1 + 69621 * (z + 1)).natAbs < 2 ^ 70
      omega
    obtain ⟨b2, eb2⟩ : ∃ b2, b2 = (b1 + 69621 * (z + 1)) ^ (3 : Int).toNat % 2305843009213693921 := ⟨_, rfl⟩
    show tSeq _ _ _ (List.set _ 3 (some (V.int ((b1 + 69621 * (z + 1)) ^ (3 : Int).toNat % 2305843009213693921)))) _
    rw [← eb2]
    -- return mixed // 65537 % below
    refine ⟨.int b2, rfl, _, _, rfl, rfl, ⟨by decide, by decide⟩, .int m, rfl, _, _, rfl, rfl, hm, ?_⟩
    exact q _ _ (Int.emod_nonneg _ (by omega)) (Int.emod_lt_of_pos _ hm) k1 ⟨x, y, z + 1, hp1, hx, hy, hy2, by omega, by omega⟩
end

/-! ### a comprehension over numbers that draws -/
theorem tu_nat {H : Hp} : ∀ {B : List Nat} {ws : List V}, TuA H ws (B.map fun n : Nat => PyData.int (n : Int)) → ws = natV B
  | [], _, h => by cases h; rfl
  | n :: r, _, h => by
    cases h with
    | cons h1 h2 =>
      cases h1
      rw [tu_nat h2]
      rfl
theorem lcd_range {β : Type} {g : TG} {tt : TT} {te : TE} {vs : List Nat} {σ : L2.St} {H1 : Hp} {D p : Addr} {Qd : Hp → Prop} {n m : Nat} (d : Nat) (dB : β → PyData) (rel : Nat → β → Prop) (hj : Sack H1 p n) (nD : H1 D = none) (hA : m ≤ 100000)
    (hs : ∀ (i : Nat) (H : Hp) (Q : V → Hp → Prop) (R : Hp → Prop), i < m → Kp [p] H1 H → Sack H p (n + d * i) → (∀ w y H4, rel i w → Kp [p] H H4 → Sack H4 p (n + d * i + d) → Tu H4 y (dB w) → Q y H4) →
      g (.int (i : Nat)) (wipe σ vs) H fun σ2 H2 => wipe σ2 vs = wipe σ vs ∧ tt σ2 H2 fun b H3 => if b = true then te σ2 H3 Q else R H3)
    (hd : ∀ ws H (B : List β), H D = some (.lst ws) → TuA H ws (B.map dB) → B.length = m → (∀ (i : Nat) w, B[i]? = some w → rel i w) → Kp [p] H1 H → Sack H p (n + d * m) → Qd H) :
    ∃ W : Nat → Nat → Hp → Prop, (∃ m, W 0 m (upd H1 D (.lst []))) ∧ ∀ i mm H, W i mm H →
      ((Itr 0 m).stop i H ∧ Qd H) ∨ ((Itr 0 m).go i H ∧ ∃ Nx : Hp → Prop, (∀ H', Nx H' → ∃ m', m' < mm ∧ W (i + 1) m' H') ∧ ∀ x H', (Itr 0 m).yld i H x H' → g x (wipe σ vs) H' fun σ2 H2 => wipe σ2 vs = wipe σ vs ∧ tt σ2 H2 fun b H3 =>
        if b = true then te σ2 H3 fun y H4 => ∃ acc, H4 D = some (.lst acc) ∧ acc.length < sizeLine ∧ Nx (upd H4 D (.lst (acc ++ [y]))) else Nx H3) := by
  have sz : 100000 < sizeLine := by decide
  have nDp : D ≠ p := fun e => by rw [e] at nD; exact hj.tr nD
  refine lc_range (n := m) (fun i H' => ∃ ws B, H' D = some (.lst ws) ∧ TuA H' ws ((B : List β).map dB) ∧ B.length = i ∧ i ≤ m ∧ (∀ (k : Nat) w, B[k]? = some w → rel k w) ∧ Kp [p] H1 H' ∧ Sack H' p (n + d * i)) ⟨[], [], upd_same, .nil, rfl, by omega, fun k w h => (by simp at h), Kp.new nD, by rw [Nat.mul_zero]; exact hj.new nD⟩ (fun i H' hi hP => ?_) (fun H2 hP => ?_)
  · obtain ⟨ws, B, hD, hws, hB, _, hrel, k, jj⟩ := hP
    rw [show (0 + (i : Int)) = (i : Int) by omega]
    refine hs i H' _ _ hi k jj fun w y H4 hr k4 j4 hy => ?_
    have hD4 := k4.lst (by simpa using nDp) hD
    have tput : Kt H4 (upd H4 D (.lst (ws ++ [y]))) := Kt.put hD4 fun _ z => by cases z
    have hwl : ws.length = i := by rw [hws.len, List.length_map, hB]
    refine ⟨ws, hD4, by omega, ws ++ [y], B ++ [w], upd_same, ?_, by rw [List.length_append, hB]; rfl, by omega, fun k' w' hw' => ?_, ?_, ?_⟩
    · rw [List.map_append]
      exact ((hws.kt (k4.kt jj.nt)).kt tput).app (.cons (hy.kt tput) .nil)
    · by_cases hk : k' < i
      · rw [List.getElem?_append_left (by omega)] at hw'
        exact hrel k' w' hw'
      · have e : k' = i := by
          have := (List.getElem?_eq_some_iff.mp hw').1
          rw [List.length_append, hB] at this
          simp at this
          omega
        subst e
        rw [List.getElem?_append_right (by omega), hB, Nat.sub_self] at hw'
        cases Option.some.inj hw'
        exact hr
    · exact Kp.drop nD ((k.wk fun x z => List.mem_cons_of_mem _ z).tr ((k4.wk fun x z => List.mem_cons_of_mem _ z).tr (Kp.put (by simp) hD4 fun ps z => by cases z)))
    · have := j4.kp (Kp.put (S := [D]) (o := .lst (ws ++ [y])) (by simp) hD4 fun ps z => by cases z) (by simpa using nDp.symm)
      rw [Nat.mul_succ, ← Nat.add_assoc]
      exact this
  · obtain ⟨ws, B, hD, hws, hB, _, hrel, k, jj⟩ := hP
    exact hd ws H2 B hD hws hB hrel k jj

section
variable {P : Program} {w : World} {K : PySem.W.Frag} {mg : Str → Option Value} {base : Heap} {a : Ad}
def spLengths : Sp := fun vs H Q _ => ∃ (p : Addr) (m n : Nat), vs = [.ref p, .int m] ∧ Sack H p n ∧ n < 90000 ∧ 1 ≤ m ∧ m ≤ 12 ∧
  ∀ lp H' (ls : List Nat), H lp = none → H' lp = some (.lst (natV ls)) → ls.length = m → (∀ x ∈ ls, 1 ≤ x ∧ x ≤ 9) → Kp [p] H H' → Sack H' p (n + 3 + m) → Q (.ref lp) H'
theorem ok_law_lengths (T : Tx K mg a) : FnOk P w K mg base CX0 2 a.a_law_lengths a.f_law_lengths ["jar", "size"] spLengths := by
  have G_law_dip := ok_law_dip (P := P) (w := w) (base := base) T
  refine T.law_lengths.F.ok sc_law_lengths (fun vs H Q E h => ?_) (fun cdv A outer s H vs Q E hr h => ?_)
  · obtain ⟨p, m, n, rfl, _⟩ := h
    rfl
  obtain ⟨p, m, n, rfl, hj, hn, hm1, hm2, q⟩ := h
  refine ⟨_, (pss_cons (ps_set (i := 2) sc_law_lengths.nd rfl (by first | exact .inl rfl | exact .inr rfl) (pe_call G_law_dip (hr.mono (by decide)) (by rfl) T.law_dip.g T.law_dip.F.kp T.law_dip.b .nil pass0 (pa_cons (pv 0) (pa_cons pe_int pa_nil))))
      (pss_cons (ps_set (i := 3) sc_law_lengths.nd rfl (by first | exact .inl rfl | exact .inr rfl) (pe_op op_add pe_int (pe_call G_law_dip (hr.mono (by decide)) (by rfl) T.law_dip.g T.law_dip.F.kp T.law_dip.b .nil pass0 (pa_cons (pv 0) (pa_cons pe_int pa_nil)))))
      (pss_cons (ps_set (i := 4) sc_law_lengths.nd rfl (by first | exact .inl rfl | exact .inr rfl) (pe_call G_law_dip (hr.mono (by decide)) (by rfl) T.law_dip.g T.law_dip.F.kp T.law_dip.b .nil pass0 (pa_cons (pv 0) (pa_cons (pv 1) pa_nil))))
      (pss_cons (ps_if (pt_cmpR op_eq (pv 2) pe_int (nomark _)) (pss_one (ps_ret (pe_lc (own := [("k", 5)]) (g := gName 5) (by rfl) sc_law_lengths.nd (pi_range1 (by rfl) T.n_range (pa_cons (pv 1) pa_nil)) (blkOk_by (own := [("k", 5)]) (N := s_law_lengths_N) (sc := defScope s_law_lengths) (by decide +kernel)) (fun _ _ _ _ _ => (pg_name (i := 5) sc_law_lengths.nd rfl (by first | exact .inl rfl | exact .inr rfl))) (fun _ _ _ _ _ => pts_nil) (fun _ _ _ _ _ => (pe_op op_add pe_int (pe_call G_law_dip (hr.mono (by decide)) (by rfl) T.law_dip.g T.law_dip.F.kp T.law_dip.b .nil pass0 (pa_cons (pv 0) (pa_cons pe_int pa_nil)))))))) pss_nil)
      (pss_cons (ps_if (pt_cmpR op_eq (pv 2) pe_int (nomark _)) (pss_one (ps_ret (pe_lc (own := [("k", 5)]) (g := gName 5) (by rfl) sc_law_lengths.nd (pi_range1 (by rfl) T.n_range (pa_cons (pv 1) pa_nil)) (blkOk_by (own := [("k", 5)]) (N := s_law_lengths_N) (sc := defScope s_law_lengths) (by decide +kernel)) (fun _ _ _ _ _ => (pg_name (i := 5) sc_law_lengths.nd rfl (by first | exact .inl rfl | exact .inr rfl))) (fun _ _ _ _ _ => pts_nil) (fun _ _ _ _ _ => (pe_op op_add pe_int (pe_call G_law_dip (hr.mono (by decide)) (by rfl) T.law_dip.g T.law_dip.F.kp T.law_dip.b .nil pass0 (pa_cons (pv 0) (pa_cons pe_int pa_nil)))))))) pss_nil)
      (pss_one (ps_ret (pe_lc (own := [("k", 5)]) (g := gName 5) (by rfl) sc_law_lengths.nd (pi_range1 (by rfl) T.n_range (pa_cons (pv 1) pa_nil)) (blkOk_by (own := [("k", 5)]) (N := s_law_lengths_N) (sc := defScope s_law_lengths) (by decide +kernel)) (fun _ _ _ _ _ => (pg_name (i := 5) sc_law_lengths.nd rfl (by first | exact .inl rfl | exact .inr rfl))) (fun _ _ _ _ _ => pts_nil) (fun _ _ _ _ _ => (pe_ifExp (PW.pt (pw_or (pt_cmpR op_eq (pv 2) pe_int (nomark _)) (pw_or1 (pt_cmpR op_eq (pv 5) (pv 4) (nomark _))))) (pv 3) pe_int)))))))))), ?_⟩
  have small : ∀ n : Int, n ≤ 1001 → n < 2 ^ 8000 := fun n h => by
    have : ((1001 : Int)) < 2 ^ 8000 := by decide
    omega
  refine ⟨.ref p, rfl, p, 4, _, rfl, by decide, by decide, hj, by omega, fun st H1 a1 b1 k1 j1 => ?_⟩
  refine ⟨.ref p, rfl, p, 9, _, rfl, by decide, by decide, j1, by omega, fun r2 H2 a2 b2 k2 j2 => ⟨_, _, rfl, rfl, ?_⟩⟩
  refine ⟨.ref p, rfl, .int m, rfl, p, m, _, rfl, by omega, small _ (by omega), j2, by omega, fun lg H3 a3 b3 k3 j3 => ?_⟩
  have k03 := k1.tr (k2.tr k3)
  have nH : ∀ D, H3 D = none → H D = none := fun D nD => by
    cases z : H D with
    | none => rfl
    | some o => exact absurd nD (k03.tr_ D (by rw [z]; exact fun y => by cases y))
  have fin : ∀ (D : Addr) (ws : List V) (H4 : Hp) (B : List Nat), H3 D = none → H4 D = some (.lst ws) → TuA H4 ws (B.map fun n : Nat => PyData.int (n : Int)) → B.length = m → (∀ (i : Nat) w, B[i]? = some w → 1 ≤ w ∧ w ≤ 9) → Kp [p] H3 H4 → Sack H4 p (n + 3 + m) → Q (.ref D) H4 := fun D ws H4 B nD hD hws hB hr k4 j4 => by
    rw [tu_nat hws] at hD
    refine q D H4 B (nH D nD) hD hB (fun x hx => ?_) (k03.tr k4) j4
    obtain ⟨i, hi, e⟩ := List.getElem_of_mem hx
    exact hr i x (by rw [List.getElem?_eq_getElem hi, e])
  refine ⟨.int st, rfl, rfl, _, rfl, ite2 (fun e => ?_) (fun e => ?_)⟩
  · refine ⟨.int m, rfl, m, rfl, by omega, by omega, fun D nD => lcd_range (m := m) 1 (fun n : Nat => PyData.int (n : Int)) (fun _ w => 1 ≤ w ∧ w ≤ 9) j3 nD (by omega) (fun i H' Q' R' hi k jj qq => ?_) (fun ws H4 B hD hws hB hr k4 j4 => fin D ws H4 B nD hD hws hB hr k4 (j4.mono (by omega)))⟩
    refine ⟨rfl, .ref p, rfl, p, 3, _, rfl, by decide, by decide, jj, by omega, fun r H5 a5 b5 k5 j5 => ⟨_, _, rfl, rfl, ?_⟩⟩
    obtain ⟨r, rfl⟩ := Int.eq_ofNat_of_zero_le a5
    have := qq (1 + r) (.int ((1 + r : Nat) : Int)) H5 ⟨by omega, by omega⟩ k5 (j5.mono (by omega)) (.int _)
    rw [Int.natCast_add] at this
    exact this
  · refine ⟨.int st, rfl, rfl, _, rfl, ite2 (fun e => ?_) (fun e => ?_)⟩
    · refine ⟨.int m, rfl, m, rfl, by omega, by omega, fun D nD => lcd_range (m := m) 1 (fun n : Nat => PyData.int (n : Int)) (fun _ w => 1 ≤ w ∧ w ≤ 9) j3 nD (by omega) (fun i H' Q' R' hi k jj qq => ?_) (fun ws H4 B hD hws hB hr k4 j4 => fin D ws H4 B nD hD hws hB hr k4 (j4.mono (by omega)))⟩
      refine ⟨rfl, .ref p, rfl, p, 9, _, rfl, by decide, by decide, jj, by omega, fun r H5 a5 b5 k5 j5 => ⟨_, _, rfl, rfl, ?_⟩⟩
      obtain ⟨r, rfl⟩ := Int.eq_ofNat_of_zero_le a5
      have := qq (1 + r) (.int ((1 + r : Nat) : Int)) H5 ⟨by omega, by omega⟩ k5 (j5.mono (by omega)) (.int _)
      rw [Int.natCast_add] at this
      exact this
    · obtain ⟨r2, rfl⟩ := Int.eq_ofNat_of_zero_le a2
      refine ⟨.int m, rfl, m, rfl, by omega, by omega, fun D nD => lcd_range (m := m) 0 (fun n : Nat => PyData.int (n : Int)) (fun _ w => 1 ≤ w ∧ w ≤ 9) j3 nD (by omega) (fun i H' Q' R' hi k jj qq => ?_) (fun ws H4 B hD hws hB hr k4 j4 => fin D ws H4 B nD hD hws hB hr k4 (j4.mono (by omega)))⟩
      have hbase : Q' (.int (1 + (r2 : Int))) H' := by
        have := qq (1 + r2) (.int ((1 + r2 : Nat) : Int)) H' ⟨by omega, by omega⟩ .rfl' (jj.mono (by omega)) (.int _)
        rw [Int.natCast_add] at this
        exact this
      have hone : Q' (.int 1) H' := qq 1 (.int ((1 : Nat) : Int)) H' ⟨by omega, by omega⟩ .rfl' (jj.mono (by omega)) (.int _)
      refine ⟨rfl, .int st, rfl, rfl, _, rfl, ite2 (fun e => iteT ?_) (fun e => ⟨.int i, rfl, .int lg, rfl, rfl, _, rfl, ite2 (fun e => ?_) (fun e => ?_)⟩)⟩
      · exact ⟨_, rfl, hbase⟩
      · exact ⟨_, rfl, hbase⟩
      · exact hone
def spLand : Sp := fun vs H Q _ => ∃ (p : Addr) (lo mo n : Nat), vs = [.ref p, .int lo, .int mo] ∧ Sack H p n ∧ n < 80000 ∧ 1 ≤ lo ∧ lo ≤ mo ∧ mo ≤ 12 ∧
  ∀ v H' N, NetOk N → lo ≤ N.length → N.length ≤ mo → (∀ z ∈ N, z.1 ≤ 9) → Tu H' v (netD N) → Kp [p] H H' → Sack H' p (n + 40) → Q v H'
theorem ok_law_land (T : Tx K mg a) : FnOk P w K mg base CX0 3 a.a_law_land a.f_law_land ["jar", "least", "most"] spLand := by
  have G_law_dip := ok_law_dip (P := P) (w := w) (base := base) T
  have G_law_lengths := ok_law_lengths (P := P) (w := w) (base := base) T
  refine T.law_land.F.ok sc_law_land (fun vs H Q E h => ?_) (fun cdv A outer s H vs Q E hr h => ?_)
  · obtain ⟨p, lo, mo, n, rfl, _⟩ := h
    rfl
  obtain ⟨p, lo, mo, n, rfl, hj, hn, hlo, hlm, hmo, q⟩ := h
  refine ⟨_, (pss_cons (ps_set (i := 3) sc_law_land.nd rfl (by first | exact .inl rfl | exact .inr rfl) (pe_op op_add (pv 1) (pe_call G_law_dip (hr.mono (by decide)) (by rfl) T.law_dip.g T.law_dip.F.kp T.law_dip.b .nil pass0 (pa_cons (pv 0) (pa_cons (pe_op op_add (pe_op op_sub (pv 2) (pv 1)) pe_int) pa_nil)))))
      (pss_cons (ps_set (i := 4) sc_law_land.nd rfl (by first | exact .inl rfl | exact .inr rfl) (pe_call G_law_dip (hr.mono (by decide)) (by rfl) T.law_dip.g T.law_dip.F.kp T.law_dip.b .nil pass0 (pa_cons (pv 0) (pa_cons pe_int pa_nil))))
      (pss_cons (ps_set (i := 5) sc_law_land.nd rfl (by first | exact .inl rfl | exact .inr rfl) (pe_call G_law_dip (hr.mono (by decide)) (by rfl) T.law_dip.g T.law_dip.F.kp T.law_dip.b .nil pass0 (pa_cons (pv 0) (pa_cons (pe_op op_add (pv 3) pe_int) pa_nil))))
      (pss_cons (ps_set (i := 6) sc_law_land.nd rfl (by first | exact .inl rfl | exact .inr rfl) (pe_lst pa_nil))
      (pss_cons (ps_for PassesOwn.never rfl (pi_enum (by rfl) T.n_enumerate (pa_cons (pe_call G_law_lengths (hr.mono (by decide)) (by rfl) T.law_lengths.g T.law_lengths.F.kp T.law_lengths.b .nil pass0 (pa_cons (pv 0) (pa_cons (pv 3) pa_nil))) pa_nil)) (pg_tup (by rfl) (pgs_cons (pg_name (i := 7) sc_law_land.nd rfl (by first | exact .inl rfl | exact .inr rfl)) (pgs_cons (pg_name (i := 8) sc_law_land.nd rfl (by first | exact .inl rfl | exact .inr rfl)) pgs_nil))) (pss_cons (ps_set (i := 9) sc_law_land.nd rfl (by first | exact .inl rfl | exact .inr rfl) (pe_op op_mod (pe_op op_add (pv 7) pe_int) (pv 3)))
      (C8.pss_cut (ps_if (PW.pt (pw_and (pt_cmpR op_eq (pv 4) pe_int (nomark _)) (pw_and1 (pt_cmpR op_eq (pv 7) (pe_op op_sub (pv 3) pe_int) (nomark _))))) (pss_one (ps_set (i := 9) sc_law_land.nd rfl (by first | exact .inl rfl | exact .inr rfl) (pv 5))) pss_nil)
      (C8.pss_cut (ps_if (pt_cmpR op_eq (pv 4) pe_int (nomark _)) (pss_one (ps_set (i := 9) sc_law_land.nd rfl (by first | exact .inl rfl | exact .inr rfl) (pe_call G_law_dip (hr.mono (by decide)) (by rfl) T.law_dip.g T.law_dip.F.kp T.law_dip.b .nil pass0 (pa_cons (pv 0) (pa_cons (pe_op op_add (pv 3) pe_int) pa_nil))))) pss_nil)
      (pss_one (ps_expr (pe_bm PySem.F.plainAttrs_list PySem.F.slot_list_append PySem.F.type_list_append mt_append (pv 6) (pa_cons (pe_tup (pa_cons (pv 8) (pa_cons (pe_ifExp (pt_cmpR op_eq (pv 9) (pv 3) (nomark _)) pe_non (pv 9)) pa_nil))) pa_nil))))))))
      (pss_one (ps_ret (pe_callTy call_tuple_of (by rfl) T.n_tuple (by decide +kernel) (pa_cons (pv 6) pa_nil))))))))), ?_⟩
  have small : ∀ n : Int, n ≤ 1001 → n < 2 ^ 8000 := fun n h => by
    have : ((1001 : Int)) < 2 ^ 8000 := by decide
    omega
  -- size = least + _law_dip(jar, most - least + 1)
  refine ⟨.int lo, rfl, .ref p, rfl, .int mo, rfl, .int lo, rfl, _, _, rfl, rfl, _, _, rfl, rfl, p, _, _, rfl, by omega, small _ (by omega), hj, by omega, fun r1 H1 a1 b1 k1 j1 => ⟨_, _, rfl, rfl, ?_⟩⟩
  obtain ⟨r1, rfl⟩ := Int.eq_ofNat_of_zero_le a1
  obtain ⟨m, em⟩ : ∃ m : Nat, m = lo + r1 := ⟨_, rfl⟩
  have em' : (lo : Int) + (r1 : Int) = (m : Nat) := by rw [em, Int.natCast_add]
  have hm : lo ≤ m ∧ m ≤ mo := by omega
  show tSeq _ _ _ (List.set _ 3 (some (V.int ((lo : Int) + (r1 : Int))))) _
  rw [em']
  refine ⟨.ref p, rfl, p, 3, _, rfl, by decide, by decide, j1, by omega, fun to H2 a2 b2 k2 j2 => ?_⟩
  refine ⟨.ref p, rfl, .int m, rfl, _, _, rfl, rfl, p, _, _, rfl, by omega, small _ (by omega), j2, by omega, fun bk H3 a3 b3 k3 j3 => ?_⟩
  obtain ⟨bk, rfl⟩ := Int.eq_ofNat_of_zero_le a3
  -- found = []
  refine ⟨Nat.zero_le _, fun fp nfp => ?_⟩
  generalize e4 : upd H3 fp _ = H4
  have k4 : Kp [] H3 H4 := by rw [← e4]; exact Kp.new nfp
  have hf4 : H4 fp = some (.lst []) := by rw [← e4]; exact upd_same
  have j4 := j3.kp k4 (by simp)
  have nfpp : fp ≠ p := fun e => j3.tr (e ▸ nfp)
  -- for k, burns in enumerate(_law_lengths(jar, size))
  refine ⟨.ref p, rfl, .int m, rfl, p, m, _, rfl, j4, by omega, by omega, by omega, fun lp H5 ls nlp hl5 hll hlb k5 j5 => ?_⟩
  have hf5 := k5.lst (by simpa using nfpp) hf4
  have nlf : lp ≠ fp := fun e => by rw [e, hf4] at nlp; cases nlp
  have nlpp : lp ≠ p := fun e => j4.tr (e ▸ nlp)
  have k35 : Kp [p] H3 H5 := k4.of0.tr k5
  have nfH : H fp = none := by
    cases z : H fp with
    | none => rfl
    | some o => exact absurd nfp ((k1.tr (k2.tr k3)).tr_ fp (by rw [z]; exact fun y => by cases y))
  refine ⟨lp, _, rfl, SqL.of hl5, for_it (walk_enum (K := K) (a := lp) (xs := natV ls)) (fun i σ H' => ∃ (o7 o8 o9 : Option V) (ws : List V) (N : Net), σ = [some (.ref p), some (.int lo), some (.int mo), some (.int m), some (.int to), some (.int bk), some (.ref fp), o7, o8, o9] ∧ H' fp = some (.lst ws) ∧ TuA H' ws (N.map lampD) ∧ N.length = i ∧ (∀ z ∈ N, 1 ≤ z.1 ∧ z.1 ≤ 9 ∧ ∀ y, z.2 = some y → y < m) ∧ Kp [fp, p] H5 H' ∧ Sack H' p (n + 6 + m + i)) ⟨none, none, none, [], [], rfl, hf5, .nil, rfl, fun z h => (by cases h), .rfl', j5.mono (by omega)⟩ (fun i σ H' _ hP => ?_) (fun i x σ H6 H7 hi hP hy => ?_) (fun σ H' hP => ?_)⟩
  · obtain ⟨_, _, _, _, _, rfl, _, _, _, _, k, _⟩ := hP
    exact SqL.of (k.lst (by simp [nlf, nlpp]) hl5)
  · obtain ⟨o7, o8, o9, ws, N, rfl, hf6, hws, hN, hNb, k6, j6⟩ := hP
    obtain ⟨T1, x1, y1, rfl, nT, rfl, ex, ey⟩ := hy
    cases ex
    rw [natV_len] at hi
    have hb : ls[i]? = some ls[i] := List.getElem?_eq_getElem hi
    have ey : (natV ls)[i]? = some y1 := ey
    rw [natV_get hb] at ey
    cases ey
    obtain ⟨hb1, hb2⟩ := hlb _ (List.getElem_mem hi)
    generalize ls[i] = bu at hb1 hb2 ⊢
    have k7 : Kp [] H6 (upd H6 T1 (.tup [.int (i : Nat), .int (bu : Nat)])) := Kp.new nT
    have hT : upd H6 T1 (.tup [.int (i : Nat), .int (bu : Nat)]) T1 = some (.tup [.int (i : Nat), .int (bu : Nat)]) := upd_same
    generalize upd H6 T1 (.tup [.int (i : Nat), .int (bu : Nat)]) = H7 at k7 hT ⊢
    have hf7 := k7.lst (by simp) hf6
    have hws7 := hws.kt k7.kt0
    have j7 := j6.kp k7 (by simp)
    have k57 : Kp [fp, p] H5 H7 := k6.tr k7.of0
    refine ⟨T1, _, rfl, SqT.of hT, rfl, _, _, rfl, _, _, rfl, rfl, ?_⟩
    -- follower = (k + 1) % size
    refine ⟨.int i, rfl, _, _, rfl, rfl, .int m, rfl, _, _, rfl, rfl, by omega, ?_⟩
    obtain ⟨f0, ef0, hf0⟩ : ∃ f0 : Nat, ((i : Int) + 1) % (m : Int) = (f0 : Nat) ∧ f0 ≤ m := ⟨(i + 1) % m, by rw [← Int.natCast_succ, ← Int.natCast_emod], Nat.le_of_lt (Nat.mod_lt _ (by omega))⟩
    show C8.tCut _ _ _ (List.set _ 9 (some (V.int (((i : Int) + 1) % (m : Int))))) _
    rw [ef0]
    have sg : ∀ f : Nat, [some (.ref p), some (.int lo), some (.int mo), some (.int m), some (.int to), some (.int bk), some (.ref fp), some (.int i), some (.int bu), some (.int (f : Nat))] = [some (.ref p), some (.int lo), some (.int mo), some (.int m), some (.int to), some (.int bk), some (.ref fp), some (.int i), some (.int bu), some (V.int (f : Nat))] := fun _ => rfl
    refine ⟨fun σ' Hx => ∃ f : Nat, f ≤ m ∧ σ' = [some (.ref p), some (.int lo), some (.int mo), some (.int m), some (.int to), some (.int bk), some (.ref fp), some (.int i), some (.int bu), some (.int (f : Nat))] ∧ Hx = H7, ?_, fun σ' Hx hM => ?_⟩
    · refine ⟨.int to, rfl, rfl, _, rfl, ite2 (fun e => ⟨.int i, rfl, .int m, rfl, _, _, rfl, rfl, rfl, _, rfl, ite2 (fun e => ?_) (fun e => ?_)⟩) (fun e => ?_)⟩
      · first | exact ⟨.int bk, rfl, bk, by omega, rfl, rfl⟩ | exact iteT ⟨.int bk, rfl, bk, by omega, rfl, rfl⟩
      · first | exact ⟨f0, hf0, rfl, rfl⟩ | exact iteF ⟨f0, hf0, rfl, rfl⟩
      · first | exact ⟨f0, hf0, rfl, rfl⟩ | exact iteF ⟨f0, hf0, rfl, rfl⟩
    obtain ⟨f1, hf1, rfl, rfl⟩ := hM
    refine ⟨fun σ' Hy => ∃ f : Nat, f ≤ m ∧ σ' = [some (.ref p), some (.int lo), some (.int mo), some (.int m), some (.int to), some (.int bk), some (.ref fp), some (.int i), some (.int bu), some (.int (f : Nat))] ∧ Kp [p] Hx Hy ∧ Sack Hy p (n + 6 + m + (i + 1)), ?_, fun σ' Hy hM => ?_⟩
    · refine ⟨.int to, rfl, rfl, _, rfl, ite2 (fun e => ?_) (fun e => ⟨f1, hf1, rfl, .rfl', j7.mono (by omega)⟩)⟩
      refine ⟨.ref p, rfl, .int m, rfl, _, _, rfl, rfl, p, _, _, rfl, by omega, small _ (by omega), j7, by omega, fun r H8 a8 b8 k8 j8 => ?_⟩
      obtain ⟨r, rfl⟩ := Int.eq_ofNat_of_zero_le a8
      exact ⟨r, by omega, rfl, k8, j8.mono (by omega)⟩
    obtain ⟨f2, hf2, rfl, k8, j8⟩ := hM
    have hf8 := k8.lst (by simpa using nfpp) hf7
    have hws8 := hws7.kt (k8.kt j7.nt)
    have k58 : Kp [fp, p] H5 Hy := k57.tr (k8.wk fun x z => List.mem_cons_of_mem _ z)
    -- found.append(..)
    have fin : ∀ o : Option Nat, (∀ y, o = some y → y < m) → ∀ tp, Hy tp = none → ∃ (o7 o8 o9 : Option V) (ws' : List V) (N' : Net), [some (V.ref p), some (V.int lo), some (V.int mo), some (V.int m), some (V.int to), some (V.int bk), some (V.ref fp), some (V.int i), some (V.int bu), some (V.int (f2 : Nat))] = [some (.ref p), some (.int lo), some (.int mo), some (.int m), some (.int to), some (.int bk), some (.ref fp), o7, o8, o9] ∧
        upd (upd Hy tp (.tup [.int (bu : Nat), nxV o])) fp (.lst (ws ++ [.ref tp])) fp = some (.lst ws') ∧ TuA (upd (upd Hy tp (.tup [.int (bu : Nat), nxV o])) fp (.lst (ws ++ [.ref tp]))) ws' (N'.map lampD) ∧ N'.length = i + 1 ∧ (∀ z ∈ N', 1 ≤ z.1 ∧ z.1 ≤ 9 ∧ ∀ y, z.2 = some y → y < m) ∧
        Kp [fp, p] H5 (upd (upd Hy tp (.tup [.int (bu : Nat), nxV o])) fp (.lst (ws ++ [.ref tp]))) ∧ Sack (upd (upd Hy tp (.tup [.int (bu : Nat), nxV o])) fp (.lst (ws ++ [.ref tp]))) p (n + 6 + m + (i + 1)) := fun o ho tp ntp => by
      have k9 : Kp [] Hy (upd Hy tp (.tup [.int (bu : Nat), nxV o])) := Kp.new ntp
      have ht9 : upd Hy tp (.tup [.int (bu : Nat), nxV o]) tp = some (.tup [.int (bu : Nat), nxV o]) := upd_same
      generalize upd Hy tp (.tup [.int (bu : Nat), nxV o]) = H9 at k9 ht9 ⊢
      have hf9 := k9.lst (by simp) hf8
      have tput : Kt H9 (upd H9 fp (.lst (ws ++ [.ref tp]))) := Kt.put hf9 fun _ z => by cases z
      refine ⟨_, _, _, ws ++ [.ref tp], N ++ [((bu : Int), o)], rfl, upd_same, ?_, by rw [List.length_append, hN]; rfl, fun z hz => ?_, ?_, ?_⟩
      · rw [List.map_append]
        exact ((hws8.kt k9.kt0).kt tput).app (.cons (.tup (tput _ _ ht9) (.cons (.int _) (.cons (nx_tu _) .nil))) .nil)
      · rcases List.mem_append.mp hz with h | h
        · exact hNb z h
        · rw [List.mem_singleton.mp h]
          exact ⟨by show (1 : Int) ≤ bu; omega, by show (bu : Int) ≤ 9; omega, ho⟩
      · exact k58.tr (k9.of0.tr (Kp.put (by simp) hf9 fun _ z => by cases z))
      · exact (j8.kp k9 (by simp)).kp (Kp.put (S := [fp]) (by simp) hf9 fun _ z => by cases z) (by simpa using nfpp.symm)
    have wl : ws.length = i := by rw [hws8.len, List.length_map, hN]
    have wsz : ws.length < sizeLine := Nat.lt_of_le_of_lt (show ws.length ≤ 12 by omega) (by decide)
    refine ⟨.ref fp, rfl, .inl ⟨rfl, _, SqL.of hf8⟩, .int bu, rfl, .int (f2 : Nat), rfl, .int m, rfl, rfl, _, rfl, ite2 (fun e => ?_) (fun e => ?_)⟩
    · refine ⟨by show 2 ≤ sizeLine; decide, fun tp ntp => ⟨fp, ws, .ref tp, rfl, rfl, (Kp.new (S := []) ntp).lst (by simp) hf8, wsz, fin none (fun y e => by cases e) tp ntp⟩⟩
    · have hne : f2 ≠ m := fun e2 => by
        exact e (decide_eq_true (by rw [e2]))
      refine ⟨.int (f2 : Nat), rfl, by show 2 ≤ sizeLine; decide, fun tp ntp => ⟨fp, ws, .ref tp, rfl, rfl, (Kp.new (S := []) ntp).lst (by simp) hf8, wsz, fin (some f2) (fun y e => by cases e; omega) tp ntp⟩⟩
  · obtain ⟨o7, o8, o9, ws, N, rfl, hf6, hws, hN, hNb, k6, j6⟩ := hP
    rw [natV_len, hll] at hN j6
    refine ⟨.ref fp, rfl, fp, ws, rfl, .inl ⟨SqL.of hf6, fun tp ntp => ?_⟩⟩
    have kn : Kp [] H' (upd H' tp (.tup ws)) := Kp.new ntp
    refine q _ _ N ⟨by omega, by omega, fun z hz => (hNb z hz).1, fun z hz y e => by rw [hN]; exact (hNb z hz).2.2 y e⟩ (by omega) (by omega) (fun z hz => (hNb z hz).2.1) (.tup upd_same (hws.kt kn.kt0)) ?_ ((j6.kp kn (by simp)).mono (by omega))
    exact (Kp.drop nfH ((k1.tr (k2.tr (k3.tr k35))).wk (fun x z => List.mem_cons_of_mem _ z) |>.tr k6)).tr kn.of0
def spSparks : Sp := fun vs H Q _ => ∃ (p : Addr) (v : V) (N : Net) (mo n : Nat), vs = [.ref p, v, .int mo] ∧ Sack H p n ∧ n < 80000 ∧ Tu H v (netD N) ∧ NetOk N ∧ mo ≤ 40 ∧
  ∀ kl H' (ks : Kds), H kl = none → LstOf H' kl (ks.map kdD) → (∀ z ∈ ks, z.2 < N.length ∧ z.1 ≤ 39) → ks.length ≤ mo → Kp [p] H H' → Sack H' p (n + 2 + 2 * mo) → Q (.ref kl) H'
theorem ok_law_sparks (T : Tx K mg a) : FnOk P w K mg base CX0 2 a.a_law_sparks a.f_law_sparks ["jar", "land", "most"] spSparks := by
  have G_law_dip := ok_law_dip (P := P) (w := w) (base := base) T
  refine T.law_sparks.F.ok sc_law_sparks (fun vs H Q E h => ?_) (fun cdv A outer s H vs Q E hr h => ?_)
  · obtain ⟨p, v, N, mo, n, rfl, _⟩ := h
    rfl
  obtain ⟨p, v, N, mo, n, rfl, hj, hn, hN, ok, hmo, q⟩ := h
  refine ⟨_, (pss_cons (ps_set (i := 3) sc_law_sparks.nd rfl (by first | exact .inl rfl | exact .inr rfl) (pe_ix ix_list (pe_lst (pa_cons pe_int (pa_cons pe_int (pa_cons pe_int pa_nil)))) (pe_call G_law_dip (hr.mono (by decide)) (by rfl) T.law_dip.g T.law_dip.F.kp T.law_dip.b .nil pass0 (pa_cons (pv 0) (pa_cons pe_int pa_nil))) (fun _ _ => rfl)))
      (pss_one (ps_ret (pe_lc (own := [("k", 4)]) (g := gName 4) (by rfl) sc_law_sparks.nd (pi_range1 (by rfl) T.n_range (pa_cons (pe_call G_law_dip (hr.mono (by decide)) (by rfl) T.law_dip.g T.law_dip.F.kp T.law_dip.b .nil pass0 (pa_cons (pv 0) (pa_cons (pe_op op_add (pv 2) pe_int) pa_nil))) pa_nil)) (blkOk_by (own := [("k", 4)]) (N := s_law_sparks_N) (sc := defScope s_law_sparks) (by decide +kernel)) (fun _ _ _ _ _ => (pg_name (i := 4) sc_law_sparks.nd rfl (by first | exact .inl rfl | exact .inr rfl))) (fun _ _ _ _ _ => pts_nil) (fun _ _ _ _ _ => (pe_tup (pa_cons (pe_call G_law_dip (hr.mono (by decide)) (by rfl) T.law_dip.g T.law_dip.F.kp T.law_dip.b .nil pass0 (pa_cons (pv 0) (pa_cons (pv 3) pa_nil))) (pa_cons (pe_call G_law_dip (hr.mono (by decide)) (by rfl) T.law_dip.g T.law_dip.F.kp T.law_dip.b .nil pass0 (pa_cons (pv 0) (pa_cons (pe_callB (call_len_seqK (K := K) rfl) (by rfl) T.n_len (by decide +kernel) (pa_cons (pv 1) pa_nil)) pa_nil))) pa_nil)))))))), ?_⟩
  have small : ∀ n : Int, n ≤ 1001 → n < 2 ^ 8000 := fun n h => by
    have : ((1001 : Int)) < 2 ^ 8000 := by decide
    omega
  have hlo := ok.lo
  have hhi := ok.hi
  obtain ⟨ad, xs, rfl, hx, hxs, hln⟩ := net_tup hN
  refine ⟨by show 3 ≤ sizeLine; decide, fun l nl => ?_⟩
  generalize e1 : upd H l _ = H1
  have k1 : Kp [] H H1 := by rw [← e1]; exact Kp.new nl
  have hl1 : H1 l = some (.lst [.int 2, .int 9, .int 40]) := by rw [← e1]; exact upd_same
  have j1 := hj.kp k1 (by simp)
  have hlp : l ∉ [p] := hj.ni nl
  refine ⟨.ref p, rfl, p, 3, _, rfl, by decide, by decide, j1, by omega, fun r2 H2 a2 b2 k2 j2 => ?_⟩
  obtain ⟨la, hla, hla1, hla2⟩ : ∃ la : Nat, atI [V.int 2, V.int 9, V.int 40] r2 = some (.int (la : Nat)) ∧ 1 ≤ la ∧ la ≤ 40 := by
    have : r2 = 0 ∨ r2 = 1 ∨ r2 = 2 := by omega
    rcases this with rfl | rfl | rfl
    · exact ⟨2, rfl, by decide, by decide⟩
    · exact ⟨9, rfl, by decide, by decide⟩
    · exact ⟨40, rfl, by decide, by decide⟩
  refine ⟨l, _, r2, .int (la : Nat), rfl, rfl, SqL.of (k2.lst hlp hl1), hla, ?_⟩
  refine ⟨.ref p, rfl, .int mo, rfl, _, _, rfl, rfl, p, _, _, rfl, by omega, small _ (by omega), j2, by omega, fun r3 H3 a3 b3 k3 j3 => ?_⟩
  obtain ⟨r3, rfl⟩ := Int.eq_ofNat_of_zero_le a3
  have k03 : Kp [p] H H3 := k1.of0.tr (k2.tr k3)
  have hx3 := (k03.kt hj.nt) _ _ hx
  refine ⟨r3, rfl, by omega, by omega, fun D nD => lcd_range (m := r3) 2 kdD (fun _ w => w.2 < N.length ∧ w.1 ≤ 39) j3 nD (by omega) (fun i H' Q' R' hi k jj qq => ?_) (fun ws H4 B hD hws hB hr' k4 j4 => ?_)⟩
  · refine ⟨rfl, .ref p, rfl, .int la, rfl, p, la, _, rfl, by omega, small _ (by omega), jj, by omega, fun r5 H5 a5 b5 k5 j5 => ?_⟩
    have hx5 := ((k.tr k5).kt j3.nt) _ _ hx3
    refine ⟨.ref p, rfl, .ref ad, rfl, ad, xs, rfl, .inr (SqT.of hx5), p, _, _, rfl, by omega, small _ (by omega), j5, by omega, fun r6 H6 a6 b6 k6 j6 => ⟨by show 2 ≤ sizeLine; decide, fun tn ntn => ?_⟩⟩
    obtain ⟨r5, rfl⟩ := Int.eq_ofNat_of_zero_le a5
    obtain ⟨r6, rfl⟩ := Int.eq_ofNat_of_zero_le a6
    exact qq (r5, r6) _ _ ⟨by show r6 < _; omega, by show r5 ≤ 39; omega⟩ (k5.tr (k6.tr (Kp.new ntn))) ((j6.new ntn).mono (by omega)) (kd_of upd_same)
  · have nDH : H D = none := by
      cases z : H D with
      | none => rfl
      | some o => exact absurd nD (k03.tr_ D (by rw [z]; exact fun y => by cases y))
    refine q D H4 B nDH ⟨ws, hD, hws⟩ (fun z hz => ?_) (by omega) (k03.tr k4) (j4.mono (by omega))
    obtain ⟨i, hi, e⟩ := List.getElem_of_mem hz
    exact hr' i z (by rw [List.getElem?_eq_getElem hi, e])
end

/-! ### the law's own walk by dicts -/
def rowT : Em.Row → PyData
  | .ended t x f => .tuple [.int t, .int x, .int f]
  | .lit t x f => .tuple [.int t, .int x, .int f]
  | .lost t x f g => .tuple [.int t, .int x, .int f, .int g]
theorem newL_wait (ks : Kds) (t y : Nat) : newL (waitK ks t) y = (List.range ks.length).filter fun f => decide (ks[f]? = some (t, y)) := by
  unfold newL waitK
  generalize List.range ks.length = R
  induction R with
  | nil => rfl
  | cons f R ih =>
    rw [List.filterMap_cons, List.filter_cons]
    cases e : ks[f]? with
    | none =>
      rw [decide_eq_false (by simp)]
      simpa using ih
    | some p =>
      obtain ⟨b, x⟩ := p
      simp only [Option.bind_some]
      by_cases hb : b = t
      · subst hb
        rw [if_pos rfl, List.filter_cons]
        by_cases hx : x = y
        · subst hx
          simp only [decide_true, if_true, List.map_cons]
          rw [ih]
        · simp only [hx, decide_false, Option.some.injEq, Prod.mk.injEq, and_false]
          simpa using ih
      · rw [if_neg hb]
        simp only [Option.some.injEq, Prod.mk.injEq, hb, false_and, decide_false]
        simpa using ih
section
variable {P : Program} {w : World} {K : PySem.W.Frag} {mg : Str → Option Value} {base : Heap} {a : Ad}
def spArr : Sp := fun vs H Q _ => ∃ (v : V) (N : Net) (kl b : Addr) (ks : Kds) (t : Nat) (L : List Lt), vs = [v, .ref kl, .ref b, .int t] ∧ Tu H v (netD N) ∧ NetOk N ∧ LstOf H kl (ks.map kdD) ∧ KdsOk N ks ∧ ks.length ≤ 40 ∧ kl ≠ b ∧ BurnD H b N.length (fun x => L.getD x none) ∧ L.length = N.length ∧ (∀ x f t0, L.getD x none = some (f, t0) → (t : Int) ≤ (t0 : Int) + burnOf N x) ∧
  ∀ tp c e H' r, H' tp = some (.tup [.ref c, .ref e]) → ComeD H H' c N.length (fun y => comeL N t L (waitK ks t) y) r → LstOf H' e ((overL N t L N.length).map rowT) → BurnD H' b N.length (leftB N t L) → Kp [b] H H' → Kt H H' → H e = none → Q (.ref tp) H'
theorem ok_law_arrivals (T : Tx K mg a) : FnOk P w K mg base CX0 1 a.a_law_arrivals a.f_law_arrivals ["land", "sparks", "burning", "beat"] spArr := by
  refine T.law_arrivals.F.ok sc_law_arrivals (fun vs H Q E h => ?_) (fun cdv A outer s H vs Q E hr h => ?_)
  · obtain ⟨v, N, kl, b, ks, t, L, rfl, _⟩ := h
    rfl
  obtain ⟨v, N, kl, b, ks, t, L, rfl, hn, ok, hkl, hk, h40, nkb, hb, hL, hfr, q⟩ := h
  have hu := hu_of hr
  refine ⟨_, (pss_cons (ps_set (i := 4) sc_law_arrivals.nd rfl (by first | exact .inl rfl | exact .inr rfl) pe_dnewK)
      (pss_cons (ps_set (i := 5) sc_law_arrivals.nd rfl (by first | exact .inl rfl | exact .inr rfl) (pe_lst pa_nil))
      (pss_cons (ps_for PassesOwn.never rfl (pi_range1 (by rfl) T.n_range (pa_cons (pe_callB call_len_seq (by rfl) T.n_len (by decide +kernel) (pa_cons (pv 0) pa_nil)) pa_nil)) (pg_name (i := 6) sc_law_arrivals.nd rfl (by first | exact .inl rfl | exact .inr rfl)) (pss_one (ps_if (PW.pt (pw_and (pt_cmp (pc_din hu (pv 6) (pv 2))) (pw_and1 (pt_cmpR op_eq (pe_op op_sub (pv 3) (pe_ix ix_tup (pe_dget hu (pv 2) (pv 6) (fun _ _ => rfl)) pe_int (fun _ _ => rfl))) (pe_ix ix_tup (pe_ix ix_tup (pv 0) (pv 6) (fun _ _ => rfl)) pe_int (fun _ _ => rfl)) (nomark _))))) (pss_cons (ps_set (i := 7) sc_law_arrivals.nd rfl (by first | exact .inl rfl | exact .inr rfl) (pe_ix ix_tup (pe_dpop1 (pv 2) (pv 6) ⟨rfl, rfl, rfl, rfl⟩) pe_int (fun _ _ => rfl)))
      (pss_one (ps_if (pt_cmpR op_isN (pe_ix ix_tup (pe_ix ix_tup (pv 0) (pv 6) (fun _ _ => rfl)) pe_int (fun _ _ => rfl)) pe_non (nomark _)) (pss_one (ps_expr (pe_bm PySem.F.plainAttrs_list PySem.F.slot_list_append PySem.F.type_list_append mt_append (pv 5) (pa_cons (pe_tup (pa_cons (pv 3) (pa_cons (pv 6) (pa_cons (pv 7) pa_nil)))) pa_nil)))) (pss_one (ps_expr (pe_bm PySem.F.plainAttrs_list PySem.F.slot_list_append PySem.F.type_list_append mt_append (pe_dsetd (pv 4) (pe_ix ix_tup (pe_ix ix_tup (pv 0) (pv 6) (fun _ _ => rfl)) pe_int (fun _ _ => rfl)) (pe_lst pa_nil) ⟨rfl, rfl, rfl, rfl⟩) (pa_cons (pv 7) pa_nil))))))) pss_nil)))
      (pss_cons (ps_for PassesOwn.never rfl (pi_range1 (by rfl) T.n_range (pa_cons (pe_callB call_len_seq (by rfl) T.n_len (by decide +kernel) (pa_cons (pv 1) pa_nil)) pa_nil)) (pg_name (i := 8) sc_law_arrivals.nd rfl (by first | exact .inl rfl | exact .inr rfl)) (pss_one (ps_if (pt_cmpR op_eq (pe_ix ix_tup (pe_ix ix_list (pv 1) (pv 8) (fun _ _ => rfl)) pe_int (fun _ _ => rfl)) (pv 3) (nomark _)) (pss_one (ps_expr (pe_bm PySem.F.plainAttrs_list PySem.F.slot_list_append PySem.F.type_list_append mt_append (pe_dsetd (pv 4) (pe_ix ix_tup (pe_ix ix_list (pv 1) (pv 8) (fun _ _ => rfl)) pe_int (fun _ _ => rfl)) (pe_lst pa_nil) ⟨rfl, rfl, rfl, rfl⟩) (pa_cons (pv 8) pa_nil)))) pss_nil)))
      (pss_one (ps_ret (pe_tup (pa_cons (pv 4) (pa_cons (pv 5) pa_nil))))))))), ?_⟩
  have h12 := ok.hi
  obtain ⟨ad, xs, rfl, hx, hxs, hln⟩ := net_tup hn
  have look : ∀ (Hx : Hp), Kt H Hx → ∀ z, z < N.length → ∃ la, xs[z]? = some (V.ref la) ∧ Hx la = some (.tup [V.int (burnOf N z), nxV (nxt N z)]) := fun Hx t z hz => by
    obtain ⟨y, hy, hty⟩ := (hxs.kt t).get' (i := z) (d := lampD N[z]) (by rw [List.getElem?_map, List.getElem?_eq_getElem hz]; rfl)
    obtain ⟨la, rfl, hla⟩ := lamp_tup hty
    rw [burnOf_get (List.getElem?_eq_getElem hz), nxt_get (List.getElem?_eq_getElem hz)]
    exact ⟨la, hy, hla⟩
  -- come = {}; ended = []
  refine fun c nc => ?_
  generalize e4 : upd H c _ = H4
  have k4 : Kp [] H H4 := by rw [← e4]; exact Kp.new nc
  have hc0 : H4 c = some (.dK []) := by rw [← e4]; exact upd_same
  refine ⟨by show (0 : Nat) ≤ sizeLine; decide, fun e ne => ?_⟩
  generalize e5 : upd H4 e _ = H5
  have k5 : Kp [] H4 H5 := by rw [← e5]; exact Kp.new ne
  have he0 : H5 e = some (.lst []) := by rw [← e5]; exact upd_same
  have hc1 := k5.at_ c _ (by simp) hc0 (fun ps z => by cases z)
  have nceH : H e = none := by
    cases z : H e with
    | none => rfl
    | some o => exact absurd ne (k4.tr_ e (by rw [z]; exact fun y => by cases y))
  have t05 : Kt H H5 := k4.kt0.tr k5.kt0
  have k05 : Kp [b] H H5 := (k4.tr k5).of0
  have nec : c ≠ e := fun q => by rw [q, he0] at hc1; cases hc1
  have hb5 : BurnD H5 b N.length (fun x => L.getD x none) := hb.kp (k4.tr k5) t05 (by simp)
  have hbH := hb.tr.1
  have hbH2 := hb.tr.2
  have ncb : c ≠ b := fun q => hbH (q ▸ nc)
  have neb : e ≠ b := fun q => hbH (q ▸ nceH)
  obtain ⟨H0, eH0⟩ : ∃ H0 : Hp, H0 = upd H e (.lst []) := ⟨_, rfl⟩
  have n0 : ∀ z, H0 z = none → H z = none := fun z hz => by
    rw [eH0] at hz
    by_cases q : z = e
    · rw [q, upd_same] at hz; cases hz
    · rw [upd_ne q] at hz; exact hz
  have h0e : H0 e ≠ none := by rw [eH0, upd_same]; exact fun z => by cases z
  have h0b : H0 b ≠ none := by rw [eH0, upd_ne neb.symm]; exact hbH
  have h0c : H0 c = none := by rw [eH0, upd_ne nec]; exact nc
  have new0 : ∀ (Hx : Hp) (z : Addr), Kp [b] H Hx → Hx e ≠ none → Hx z = none → H0 z = none := fun Hx z k he hz => by
    rw [eH0, upd_ne (fun q => he (by rw [← q]; exact hz))]
    cases w : H z with
    | none => rfl
    | some o => exact absurd hz (k.tr_ z (by rw [w]; exact fun y => by cases y))
  refine ⟨.ref ad, rfl, ad, xs, rfl, .inr (SqT.of (t05 _ _ hx)), N.length, by rw [hln], by omega, by omega, for_range (n := N.length) (fun i σ H' => ∃ (o6 o7 : Option V) (r : List (Key × V)) (ws : List V), σ = [some (.ref ad), some (.ref kl), some (.ref b), some (.int t), some (.ref c), some (.ref e), o6, o7, none] ∧ ComeD H0 H' c N.length (cameL N t L i) r ∧ H' e = some (.lst ws) ∧ TuA H' ws ((overL N t L i).map rowT) ∧ ws.length ≤ i ∧ BurnD H' b N.length (fun x => if x < i then leftB N t L x else L.getD x none) ∧ Kp [b] H H' ∧ Kt H H') ⟨none, none, [], [], rfl, ⟨hc1, .nil, fun y _ _ => valV_nil, fun y _ q => absurd rfl q, fun y z ly _ _ q => (by rw [valV_nil] at q; cases q), h0c⟩, he0, .nil, Nat.le_refl _, hb5.ext fun x _ => by rw [if_neg (Nat.not_lt_zero x)], k05, t05⟩ (fun i σ H6 hi hP => ?_) (fun σ H6 hP => ?_)⟩
  · obtain ⟨o6, o7, r, ws, rfl, hc6, he6, hws6, hwl, hb6, k6, t6⟩ := hP
    obtain ⟨la, hla, hla6⟩ := look H6 t6 i hi
    have hx6 := t6 _ _ hx
    obtain ⟨rb, hrb, hkb, hvb⟩ := hb6
    have hri : RelL H6 (valV rb (kN i)) (if i < i then leftB N t L i else L.getD i none) := hvb i hi
    rw [if_neg (Nat.lt_irrefl i)] at hri
    rw [Int.zero_add]
    -- nothing leaves
    have stay : outB N t L i = none → ∃ (u6 u7 : Option V) (r' : List (Key × V)) (ws' : List V), [some (V.ref ad), some (V.ref kl), some (V.ref b), some (V.int t), some (V.ref c), some (V.ref e), some (V.int i), o7, none] = [some (V.ref ad), some (.ref kl), some (.ref b), some (.int t), some (.ref c), some (.ref e), u6, u7, none] ∧ ComeD H0 H6 c N.length (cameL N t L (i + 1)) r' ∧ H6 e = some (.lst ws') ∧ TuA H6 ws' ((overL N t L (i + 1)).map rowT) ∧ ws'.length ≤ i + 1 ∧ BurnD H6 b N.length (fun x => if x < i + 1 then leftB N t L x else L.getD x none) ∧ Kp [b] H H6 ∧ Kt H H6 := fun ho => by
      have ec : ∀ y, cameB N t L y i = none := fun y => by unfold cameB; rw [ho]; rfl
      have eo : overB N t L i = none := by unfold overB; rw [ho]; rfl
      have el : leftB N t L i = L.getD i none := by unfold leftB; rw [ho]
      refine ⟨_, o7, r, ws, rfl, hc6.ext fun y hy => ?_, he6, ?_, by omega, BurnD.ext ⟨rb, hrb, hkb, hvb⟩ fun x hx => ?_, k6, t6⟩
      · unfold cameL
        rw [range_fm, ec]
        exact (List.append_nil _).symm
      · unfold overL
        rw [range_fm, eo]
        exact (List.append_nil _).symm ▸ hws6
      · show (if x < i then leftB N t L x else L.getD x none) = if x < i + 1 then leftB N t L x else L.getD x none
        by_cases h1 : x < i
        · rw [if_pos h1, if_pos (by omega)]
        · rw [if_neg h1]
          by_cases h2 : x < i + 1
          · have : x = i := by omega
            rw [if_pos h2, this, el]
          · rw [if_neg h2]
    -- spot in burning
    refine ⟨.int i, rfl, .ref b, rfl, b, _, rfl, DGet.k (k := kN i) hrb, ?_⟩
    cases eL : L.getD i none with
    | none =>
      have ho : outB N t L i = none := by unfold outB; rw [eL]
      rw [eL] at hri
      rw [hri.none_]
      exact ⟨false, rfl, iteF (iteF (stay ho))⟩
    | some p =>
      obtain ⟨f, t0⟩ := p
      rw [eL] at hri
      obtain ⟨ta, eta, hta⟩ := hri.some_
      rw [eta]
      refine ⟨true, rfl, iteT ⟨.int t, rfl, .ref b, rfl, .int i, rfl, b, _, rfl, eta ▸ DGet.k (k := kN i) hrb, ta, _, 1, _, rfl, rfl, SqT.of hta, rfl, _, _, rfl, rfl, .ref ad, rfl, .int i, rfl, ad, xs, i, _, rfl, rfl, SqT.of hx6, atI_nat hla, la, _, 0, _, rfl, rfl, SqT.of hla6, rfl, rfl, _, rfl, ite2 (fun e1 => ?_) (fun e1 => ?_)⟩⟩
      · have e1 : (t : Int) - (t0 : Int) = burnOf N i := V.int.inj (of_decide_eq_true e1)
        have ho : outB N t L i = some f := by unfold outB; rw [eL]; exact if_neg (by omega)
        have t67 : Kt H6 (upd H6 b (.dK (dropK rb (kN i)))) := Kt.put hrb fun _ z => by cases z
        have k67 : Kp [b] H6 (upd H6 b (.dK (dropK rb (kN i)))) := Kp.put (by simp) hrb fun _ z => by cases z
        refine ⟨.ref b, rfl, b, rfl, .inl ⟨_, .inl hrb⟩, .int i, rfl, rb, kN i, _, hrb, rfl, eta, ta, _, 0, _, rfl, rfl, SqT.of (t67 _ _ hta), rfl, ?_⟩
        have hb7 : BurnD (upd H6 b (.dK (dropK rb (kN i)))) b N.length (fun x => if x < i + 1 then leftB N t L x else L.getD x none) := (BurnD.pop hrb hkb hvb i).ext fun x hx => by
          show (if x = i then none else if x < i then leftB N t L x else L.getD x none) = _
          by_cases h1 : x = i
          · rw [if_pos h1, if_pos (by omega), h1]
            unfold leftB
            rw [ho]
          · rw [if_neg h1]
            by_cases h2 : x < i
            · rw [if_pos h2, if_pos (by omega)]
            · rw [if_neg h2, if_neg (by omega)]
        have hc7 := hc6.kp k67 (by simpa using h0b)
        have he7 := k67.lst (by simpa using neb) he6
        generalize upd H6 b (.dK (dropK rb (kN i))) = H7 at t67 k67 hb7 hc7 he7 ⊢
        have k7 := k6.tr k67
        have t7 := t6.tr t67
        have hx7 := t7 _ _ hx
        have hla7 := t67 _ _ hla6
        have hws7 := hws6.kt t67
        have el : ∀ o, nxt N i = o → ∀ y, (cameB N t L y i).toList = if o = some y then [f] else [] := fun o eo y => by
          unfold cameB
          rw [ho, eo]
          show (if o = some y then some f else none).toList = _
          split <;> rfl
        cases hnx : nxt N i with
        | none =>
          rw [hnx] at hla7
          have eo : overB N t L i = some (.ended t i f) := by unfold overB; rw [ho]; exact if_pos hnx
          refine ⟨.ref ad, rfl, .int i, rfl, ad, xs, i, _, rfl, rfl, SqT.of hx7, atI_nat hla, la, _, 1, _, rfl, rfl, SqT.of hla7, rfl, rfl, _, rfl, ite2 (fun _ => ?_) (fun e2 => absurd (decide_eq_true rfl) e2)⟩
          refine ⟨.ref e, rfl, .inl ⟨rfl, _, SqL.of he7⟩, .int t, rfl, .int i, rfl, .int f, rfl, by show 3 ≤ sizeLine; decide, fun tp ntp => ?_⟩
          have k78 : Kp [] H7 (upd H7 tp (.tup [.int (t : Nat), .int (i : Nat), .int (f : Nat)])) := Kp.new ntp
          have ht8 : upd H7 tp (.tup [.int (t : Nat), .int (i : Nat), .int (f : Nat)]) tp = some (.tup [.int (t : Nat), .int (i : Nat), .int (f : Nat)]) := upd_same
          refine ⟨e, ws, .ref tp, rfl, rfl, k78.lst (by simp) he7, Nat.lt_of_le_of_lt (show ws.length ≤ 12 by omega) (by decide), ?_⟩
          have he8 := k78.lst (by simp) he7
          show ∃ (o6 o7 : Option V) (r : List (Key × V)) (ws' : List V), _ ∧ ComeD H0 (upd (upd H7 tp (.tup [.int (t : Nat), .int (i : Nat), .int (f : Nat)])) e (.lst (ws ++ [.ref tp]))) c N.length (cameL N t L (i + 1)) r ∧ upd (upd H7 tp (.tup [.int (t : Nat), .int (i : Nat), .int (f : Nat)])) e (.lst (ws ++ [.ref tp])) e = _ ∧ _
          generalize upd H7 tp (.tup [.int (t : Nat), .int (i : Nat), .int (f : Nat)]) = H8 at k78 ht8 he8 ⊢
          have k89 : Kp [e] H8 (upd H8 e (.lst (ws ++ [.ref tp]))) := Kp.put (by simp) he8 fun _ z => by cases z
          have t89 : Kt H8 (upd H8 e (.lst (ws ++ [.ref tp]))) := Kt.put he8 fun _ z => by cases z
          have t79 := k78.kt0.tr t89
          refine ⟨_, _, r, ws ++ [.ref tp], rfl, ((hc7.kp k78 (by simp)).kp k89 (by simpa using h0e)).ext fun y hy => ?_, upd_same, ?_, ?_, (hb7.kp k78 k78.kt0 (by simp)).kp k89 t89 (by simpa using neb.symm), (k7.tr k78.of0).over k89 (by simpa using nceH), t7.tr t79⟩
          · unfold cameL
            rw [range_fm, el none hnx]
            exact (List.append_nil _).symm
          · unfold overL
            rw [range_fm, eo, List.map_append]
            exact (hws7.kt t79).app (.cons (.tup (t89 _ _ ht8) (.cons (.int _) (.cons (.int _) (.cons (.int _) .nil)))) .nil)
          · rw [List.length_append]
            exact Nat.succ_le_succ hwl
        | some y =>
          rw [hnx] at hla7
          have hy : y < N.length := nxt_lt ok hnx
          have eo : overB N t L i = none := by unfold overB; rw [ho]; exact if_neg (by rw [hnx]; exact fun z => by cases z)
          refine ⟨.ref ad, rfl, .int i, rfl, ad, xs, i, _, rfl, rfl, SqT.of hx7, atI_nat hla, la, _, 1, _, rfl, rfl, SqT.of hla7, rfl, rfl, _, rfl, ite2 (fun e2 => absurd (of_decide_eq_true e2) (fun z => by cases z)) (fun _ => ?_)⟩
          unfold tDrop tBM
          refine ComeD.setdE (e := f) hc7 hy (by omega) (fun l0 nl0 => new0 H7 l0 k7 (by rw [he7]; exact fun z => by cases z) nl0) (fun Q' q' => ⟨.ref c, rfl, q'⟩) (fun Q' q' => ⟨.ref ad, rfl, .int i, rfl, ad, xs, i, _, rfl, rfl, SqT.of hx7, atI_nat hla, la, _, 1, _, rfl, rfl, SqT.of hla7, rfl, q'⟩) (fun ly H1 r' T0 hly hc' hT kT tT => ?_)
          have hsz : (natV (cameL N t L i y)).length < sizeLine := Nat.lt_of_le_of_lt (show _ ≤ 12 by
            rw [natV_len]
            exact Nat.le_trans (List.length_filterMap_le _ _) (by rw [List.length_range]; omega)) (by decide)
          refine ⟨.inl ⟨rfl, _, SqL.of hly⟩, .int f, rfl, ly, _, .int f, rfl, rfl, hly, hsz, ?_⟩
          have nT : ∀ s ∈ T0, H s = none := fun s hs => n0 s (hT s hs)
          refine ⟨_, _, r', ws, rfl, hc'.ext fun z hz => ?_, kT.lst (fun q => h0e (hT e q)) he7, ?_, by omega, hb7.kp kT tT (fun q => h0b (hT b q)), k7.over kT nT, t7.tr tT⟩
          · unfold cameL addF
            rw [range_fm, el (some y) hnx]
            by_cases q : z = y
            · rw [if_pos q, if_pos (by rw [q]), q]
            · rw [if_neg q, if_neg (fun w => q (Option.some.inj w).symm)]
              exact (List.append_nil _).symm
          · unfold overL
            rw [range_fm, eo]
            exact (List.append_nil _).symm ▸ (hws7.kt tT)
      · have e1 : ¬ (t : Int) - (t0 : Int) = burnOf N i := fun z => e1 (decide_eq_true (congrArg V.int z))
        have hfr1 := hfr i f t0 eL
        have ho : outB N t L i = none := by unfold outB; rw [eL]; exact if_pos (by omega)
        exact stay ho
  · obtain ⟨o6, o7, r, ws, rfl, hc6, he6, hws6, hwl, hb6, k6, t6⟩ := hP
    have hb6 : BurnD H6 b N.length (leftB N t L) := hb6.ext fun x hx => if_pos hx
    obtain ⟨kw, hkw, hkt⟩ := hkl
    have hkn : H kl ≠ none := by rw [hkw]; exact fun z => by cases z
    have hkw6 := k6.lst (by simpa using nkb) hkw
    have hlk : kw.length = ks.length := by rw [hkt.len, List.length_map]
    refine ⟨.ref kl, rfl, kl, kw, rfl, .inl (SqL.of hkw6), ks.length, by rw [hlk], by omega, by omega, for_range (n := ks.length) (fun i σ H' => ∃ (o8 : Option V) (r : List (Key × V)), σ = [some (.ref ad), some (.ref kl), some (.ref b), some (.int t), some (.ref c), some (.ref e), o6, o7, o8] ∧ ComeD H0 H' c N.length (fun y => cameL N t L N.length y ++ (List.range i).filter fun f => decide (ks[f]? = some (t, y))) r ∧ H' e = some (.lst ws) ∧ TuA H' ws ((overL N t L N.length).map rowT) ∧ BurnD H' b N.length (leftB N t L) ∧ Kp [b] H H' ∧ Kt H H') ⟨none, r, rfl, hc6.ext fun y hy => (List.append_nil _).symm, he6, hws6, hb6, k6, t6⟩ (fun i σ H7 hi hP => ?_) (fun σ H7 hP => ?_)⟩
    · obtain ⟨o8, r7, rfl, hc7, he7, hws7, hb7, k7, t7⟩ := hP
      rw [Int.zero_add]
      have hek : ks[i]? = some ks[i] := List.getElem?_eq_getElem hi
      obtain ⟨vk, hvk, hvt⟩ := (hkt.kt t7).get' (i := i) (d := kdD ks[i]) (by rw [List.getElem?_map, hek]; rfl)
      obtain ⟨lk, rfl, hlk7⟩ := kd_tup hvt
      have hkx : ks[i].2 < N.length := hk _ (List.getElem_mem hi)
      obtain ⟨bt, x, ebx⟩ : ∃ bt x, ks[i] = (bt, x) := ⟨_, _, rfl⟩
      rw [ebx] at hek hlk7 hkx
      have hkw7 := k7.lst (by simpa using nkb) hkw
      refine ⟨.ref kl, rfl, .int i, rfl, kl, kw, i, _, rfl, rfl, SqL.of hkw7, atI_nat hvk, lk, _, 0, _, rfl, rfl, SqT.of hlk7, rfl, .int t, rfl, rfl, _, rfl, ite2 (fun e1 => ?_) (fun e1 => ?_)⟩
      · have e1 : bt = t := by have := V.int.inj (of_decide_eq_true e1); exact Int.ofNat.inj this
        subst e1
        unfold tDrop tBM
        refine ComeD.setdE (e := i) hc7 hkx (by omega) (fun l0 nl0 => new0 H7 l0 k7 (by rw [he7]; exact fun z => by cases z) nl0) (fun Q' q' => ⟨.ref c, rfl, q'⟩) (fun Q' q' => ⟨.ref kl, rfl, .int i, rfl, kl, kw, i, _, rfl, rfl, SqL.of hkw7, atI_nat hvk, lk, _, 1, _, rfl, rfl, SqT.of hlk7, rfl, q'⟩) (fun ly H1 r' T0 hly hc' hT kT tT => ?_)
        have hsz : (natV (cameL N bt L N.length x ++ (List.range i).filter fun f => decide (ks[f]? = some (bt, x)))).length < sizeLine := Nat.lt_of_le_of_lt (show _ ≤ 52 by
          rw [natV_len, List.length_append]
          have h1 : (cameL N bt L N.length x).length ≤ N.length := Nat.le_trans (List.length_filterMap_le _ _) (by rw [List.length_range]; omega)
          have h2 : ((List.range i).filter fun f => decide (ks[f]? = some (bt, x))).length ≤ i := Nat.le_trans (List.length_filter_le _ _) (by rw [List.length_range]; omega)
          omega) (by decide)
        refine ⟨.inl ⟨rfl, _, SqL.of hly⟩, .int i, rfl, ly, _, .int i, rfl, rfl, hly, hsz, ?_⟩
        have nT : ∀ s ∈ T0, H s = none := fun s hs => n0 s (hT s hs)
        refine ⟨_, r', rfl, hc'.ext fun z hz => ?_, kT.lst (fun q => h0e (hT e q)) he7, hws7.kt tT, hb7.kp kT tT (fun q => h0b (hT b q)), k7.over kT nT, t7.tr tT⟩
        unfold addF
        rw [List.range_succ, List.filter_append, List.filter_cons, hek]
        by_cases q : z = x
        · rw [if_pos q, q, if_pos (decide_eq_true rfl)]
          exact (List.append_assoc _ _ _)
        · rw [if_neg q, if_neg (fun w => q (Prod.mk.inj (Option.some.inj (of_decide_eq_true w))).2.symm)]
          simp
      · have e1 : bt ≠ t := fun z => e1 (decide_eq_true (by rw [z]))
        refine ⟨_, r7, rfl, hc7.ext fun z hz => ?_, he7, hws7, hb7, k7, t7⟩
        rw [List.range_succ, List.filter_append, List.filter_cons, hek, if_neg (fun w => e1 (Prod.mk.inj (Option.some.inj (of_decide_eq_true w))).1)]
        simp
    · obtain ⟨o8, r7, rfl, hc7, he7, hws7, hb7, k7, t7⟩ := hP
      refine ⟨.ref c, rfl, .ref e, rfl, by show 2 ≤ sizeLine; decide, fun tp ntp => ?_⟩
      have kn : Kp [] H7 (upd H7 tp (.tup [.ref c, .ref e])) := Kp.new ntp
      exact q tp c e _ r7 upd_same (((hc7.kp kn (by simp)).weak n0).ext fun y hy => by rw [← newL_wait]; rfl) ⟨ws, kn.lst (by simp) he7, hws7.kt kn.kt0⟩ (hb7.kp kn kn.kt0 (by simp)) (k7.tr kn.of0) (t7.tr kn.kt0) nceH
end

section
variable {P : Program} {w : World} {K : PySem.W.Frag} {mg : Str → Option Value} {base : Heap} {a : Ad}
def spWalkD : Sp := fun vs H Q _ => ∃ (v : V) (N : Net) (kl : Addr) (ks : Kds), vs = [v, .ref kl] ∧ Tu H v (netD N) ∧ NetOk N ∧ (∀ z ∈ N, z.1 ≤ 9) ∧ LstOf H kl (ks.map kdD) ∧ KdsOk N ks ∧ (∀ p ∈ ks, p.1 ≤ 39) ∧ ks.length ≤ 40 ∧
  ∀ tp lo li en H' T, T ≤ 5000 → (∀ p ∈ ks, (p.1 : Int) + 2 * totN N < (T : Nat)) → H' tp = some (.tup [.ref lo, .ref li, .ref en]) → LstOf H' lo (((allW N ks T).filter isLost).map rowT) → LstOf H' li (((allW N ks T).filter isLit).map rowT) → LstOf H' en (((allW N ks T).filter isEnded).map rowT) → Kp [] H H' → Q (.ref tp) H'
theorem ok_law_walk (T : Tx K mg a) : FnOk P w K mg base CX0 2 a.a_law_walk a.f_law_walk ["land", "sparks"] spWalkD := by
  have G_law_arrivals := ok_law_arrivals (P := P) (w := w) (base := base) T
  refine T.law_walk.F.ok sc_law_walk (fun vs H Q E h => ?_) (fun cdv A outer s H vs Q E hr h => ?_)
  · obtain ⟨v, N, kl, ks, rfl, _⟩ := h
    rfl
  obtain ⟨v, N, kl, ks, rfl, hn, ok, h9, hkl, hk, h39, h40, q⟩ := h
  have hu := hu_of hr
  refine ⟨_, (pss_cons (ps_set (i := 2) sc_law_walk.nd rfl (by first | exact .inl rfl | exact .inr rfl) (pe_callB (cr_max rfl) (by rfl) T.n_max (by decide +kernel) (pa_cons (pe_op op_catL (pe_lst (pa_cons pe_int pa_nil)) (pe_lc (own := [("spark", 3)]) (g := gName 3) (by rfl) sc_law_walk.nd (pi_list (pv 1)) (blkOk_by (own := [("spark", 3)]) (N := s_law_walk_N) (sc := defScope s_law_walk) (by decide +kernel)) (fun _ _ _ _ _ => (pg_name (i := 3) sc_law_walk.nd rfl (by first | exact .inl rfl | exact .inr rfl))) (fun _ _ _ _ _ => pts_nil) (fun _ _ _ _ _ => (pe_ix (ix_tupK (K := K) rfl) (pv 3) pe_int (fun _ _ => rfl))))) pa_nil)))
      (pss_cons (ps_set (i := 4) sc_law_walk.nd rfl (by first | exact .inl rfl | exact .inr rfl) pe_dnewK)
      (pss_cons (ps_set (i := 5) sc_law_walk.nd rfl (by first | exact .inl rfl | exact .inr rfl) (pe_lst pa_nil))
      (pss_cons (ps_set (i := 6) sc_law_walk.nd rfl (by first | exact .inl rfl | exact .inr rfl) (pe_lst pa_nil))
      (pss_cons (ps_set (i := 7) sc_law_walk.nd rfl (by first | exact .inl rfl | exact .inr rfl) (pe_lst pa_nil))
      (pss_cons (ps_for PassesOwn.never rfl (pi_range1 (by rfl) T.n_range (pa_cons (pe_op op_add (pe_op op_add (pv 2) (pe_op op_mulW (pe_callB (cr_sum rfl) (by rfl) T.n_sum (by decide +kernel) (pa_cons (pe_lc (own := [("burns", 9), ("follower", 10)]) (g := gTup K 2 (gCons (gName 9) (gCons (gName 10) (gNil)))) (by rfl) sc_law_walk.nd (pi_tup (pv 0)) (blkOk_by (own := [("burns", 9), ("follower", 10)]) (N := s_law_walk_N) (sc := defScope s_law_walk) (by decide +kernel)) (fun _ _ _ _ _ => (pg_tupK (K := K) rfl (by rfl) (pgs_cons (pg_name (i := 9) sc_law_walk.nd rfl (by first | exact .inl rfl | exact .inr rfl)) (pgs_cons (pg_name (i := 10) sc_law_walk.nd rfl (by first | exact .inl rfl | exact .inr rfl)) pgs_nil)))) (fun _ _ _ _ _ => pts_nil) (fun _ _ _ _ _ => (pv 9))) pa_nil)) (pe_op op_add (pe_callB call_len_seq (by rfl) T.n_len (by decide +kernel) (pa_cons (pv 1) pa_nil)) pe_int))) pe_int) pa_nil)) (pg_name (i := 8) sc_law_walk.nd rfl (by first | exact .inl rfl | exact .inr rfl)) (pss_cons (ps_asg (pe_call G_law_arrivals (hr.mono (by decide)) (by rfl) T.law_arrivals.g T.law_arrivals.F.kp T.law_arrivals.b .nil pass0 (pa_cons (pv 0) (pa_cons (pv 1) (pa_cons (pv 4) (pa_cons (pv 8) pa_nil))))) (pg_tup (by rfl) (pgs_cons (pg_name (i := 11) sc_law_walk.nd rfl (by first | exact .inl rfl | exact .inr rfl)) (pgs_cons (pg_name (i := 12) sc_law_walk.nd rfl (by first | exact .inl rfl | exact .inr rfl)) pgs_nil))))
      (pss_cons (ps_set (i := 7) sc_law_walk.nd rfl (by first | exact .inl rfl | exact .inr rfl) (pe_op op_catL (pv 7) (pv 12)))
      (pss_one (ps_for PassesOwn.never rfl (pi_list (pe_callB (call_sortedDI rfl) (by rfl) T.n_sorted (by decide +kernel) (pa_cons (pv 11) pa_nil))) (pg_name (i := 13) sc_law_walk.nd rfl (by first | exact .inl rfl | exact .inr rfl)) (pss_cons (ps_set (i := 14) sc_law_walk.nd rfl (by first | exact .inl rfl | exact .inr rfl) (pe_callB cr_sortedI (by rfl) T.n_sorted (by decide +kernel) (pa_cons (pe_dget hu (pv 11) (pv 13) (fun _ _ => rfl)) pa_nil)))
      (C8.pss_cut (ps_if (pt_cmp (pc_dnotin hu (pv 13) (pv 4))) (pss_cons (ps_dput hu (pv 4) (pv 13) (pe_tup (pa_cons (pe_ix ix_list (pv 14) pe_int (fun _ _ => rfl)) (pa_cons (pv 8) pa_nil))) rfl)
      (pss_one (ps_expr (pe_bm PySem.F.plainAttrs_list PySem.F.slot_list_append PySem.F.type_list_append mt_append (pv 6) (pa_cons (pe_tup (pa_cons (pv 8) (pa_cons (pv 13) (pa_cons (pe_bm PySem.F.plainAttrs_list PySem.F.slot_list_pop PySem.F.type_list_pop mt_popAt (pv 14) (pa_cons pe_int pa_nil)) pa_nil)))) pa_nil))))) pss_nil)
      (pss_one (ps_expr (pe_bm PySem.F.plainAttrs_list PySem.F.slot_list_extend PySem.F.type_list_extend mt_extend (pv 5) (pa_cons (pe_lc (own := [("ember", 15)]) (g := gName 15) (by rfl) sc_law_walk.nd (pi_list (pv 14)) (blkOk_by (own := [("ember", 15)]) (N := s_law_walk_N) (sc := defScope s_law_walk) (by decide +kernel)) (fun _ _ _ _ _ => (pg_name (i := 15) sc_law_walk.nd rfl (by first | exact .inl rfl | exact .inr rfl))) (fun _ _ _ _ _ => pts_nil) (fun _ _ _ _ _ => (pe_tup (pa_cons (pv 8) (pa_cons (pv 13) (pa_cons (pv 15) (pa_cons (pe_ix (ix_tupK (K := K) rfl) (pe_dget hu (pv 4) (pv 13) (fun _ _ => rfl)) pe_int (fun _ _ => rfl)) pa_nil))))))) pa_nil)))))))))))
      (pss_one (ps_ret (pe_tup (pa_cons (pv 5) (pa_cons (pv 6) (pa_cons (pv 7) pa_nil)))))))))))), ?_⟩
  have h12 := ok.hi
  obtain ⟨ad, xs, rfl, hx, hxs, hln⟩ := net_tup hn
  obtain ⟨kw, hkw, hkt⟩ := hkl
  have lkw : kw.length = ks.length := by rw [hkt.len, List.length_map]
  -- last = max([0] + [..])
  refine ⟨by show 1 ≤ sizeLine; decide, fun z0 nz0 => ?_⟩
  generalize e1 : upd H z0 _ = H1
  have k1 : Kp [] H H1 := by rw [← e1]; exact Kp.new nz0
  have hz0 : H1 z0 = some (.lst [.int 0]) := by rw [← e1]; exact upd_same
  refine ⟨.ref kl, rfl, kl, rfl, ⟨_, SqL.of (k1.lst (by simp) hkw)⟩, fun D nD => lcm_list ks kdD (fun n : Nat => PyData.int (n : Int)) (fun p => p.1) (k1.lst (by simp) hkw) (hkt.kt k1.kt0) nD (by omega) (fun i z x H' Q' R' hz hx hzt k qq => ?_) (fun ws H2 hD2 hws2 k2 => ?_)⟩
  · obtain ⟨tu, rfl, htu⟩ := kd_tup hzt
    exact ⟨rfl, .ref tu, rfl, tu, _, 0, _, rfl, rfl, SqT.of htu, atI_nat (j := 0) rfl, qq _ _ .rfl' (.int _)⟩
  rw [tu_nat hws2] at hD2
  refine ⟨z0, D, _, _, rfl, rfl, SqL.of (k2.lst (by simp) hz0), SqL.of hD2, Nat.le_trans (m := 64) (by rw [natV_len, List.length_map]; show 1 + _ ≤ 64; omega) (by decide), fun sl nsl => ?_⟩
  generalize e3 : upd H2 sl _ = H3
  have k3 : Kp [] H2 H3 := by rw [← e3]; exact Kp.new nsl
  have hsl : H3 sl = some (.lst ([.int 0] ++ natV (ks.map fun p => p.1))) := by rw [← e3]; exact upd_same
  refine ⟨sl, (0 : Int) :: ks.map (fun p => (p.1 : Int)), rfl, SqL.of (by rw [hsl]; unfold natV; simp), by simp, fun mx hm1 hm2 => ?_⟩
  obtain ⟨m, rfl, hm39, hmk⟩ : ∃ m : Nat, mx = (m : Int) ∧ m ≤ 39 ∧ ∀ p ∈ ks, p.1 ≤ m := by
    have h0 : 0 ≤ mx := hm2 0 (by simp)
    refine ⟨mx.toNat, by omega, ?_, fun p hp => ?_⟩
    · rcases List.mem_cons.mp hm1 with q | q
      · omega
      · obtain ⟨p, hp, rfl⟩ := List.mem_map.mp q
        have := h39 p hp
        omega
    · have := hm2 (p.1 : Int) (List.mem_cons_of_mem _ (List.mem_map.mpr ⟨p, hp, rfl⟩))
      omega
  have k03 : Kp [] H H3 := k1.tr (k2.tr k3)
  have hx3 := k03.kt0 _ _ hx
  -- burning = {}; lost, lit, ended
  refine fun b nb => ?_
  generalize e4 : upd H3 b _ = H4
  have k4 : Kp [] H3 H4 := by rw [← e4]; exact Kp.new nb
  have hb4 : H4 b = some (.dK []) := by rw [← e4]; exact upd_same
  refine ⟨by show (0 : Nat) ≤ sizeLine; decide, fun lo nlo => ?_⟩
  generalize e5 : upd H4 lo _ = H5
  have k5 : Kp [] H4 H5 := by rw [← e5]; exact Kp.new nlo
  have hlo5 : H5 lo = some (.lst []) := by rw [← e5]; exact upd_same
  refine ⟨by show (0 : Nat) ≤ sizeLine; decide, fun li nli => ?_⟩
  generalize e6 : upd H5 li _ = H6
  have k6 : Kp [] H5 H6 := by rw [← e6]; exact Kp.new nli
  have hli6 : H6 li = some (.lst []) := by rw [← e6]; exact upd_same
  refine ⟨by show (0 : Nat) ≤ sizeLine; decide, fun en nen => ?_⟩
  generalize e7 : upd H6 en _ = H7
  have k7 : Kp [] H6 H7 := by rw [← e7]; exact Kp.new nen
  have hen7 : H7 en = some (.lst []) := by rw [← e7]; exact upd_same
  have k07 : Kp [] H H7 := k03.tr (k4.tr (k5.tr (k6.tr k7)))
  have hb7 := (k5.tr (k6.tr k7)).at_ b _ (by simp) hb4 (fun ps z => by cases z)
  have hlo7 := (k6.tr k7).lst (by simp) hlo5
  have hli7 := k7.lst (by simp) hli6
  -- how many beats
  refine ⟨.int m, rfl, .ref ad, rfl, ad, rfl, ⟨_, SqT.of (k07.kt0 _ _ hx)⟩, fun D nD => lcm_tup N lampD (fun i : Int => PyData.int i) (fun p => p.1) (k07.kt0 _ _ hx) (hxs.kt k07.kt0) nD (by omega) (fun i z x H' Q' R' hz hx hzt k qq => ?_) (fun ws H8 hD8 hws8 k8 => ?_)⟩
  · obtain ⟨tu, rfl, htu⟩ := lamp_tup hzt
    exact ⟨tu, _, rfl, SqT.of htu, rfl, _, _, rfl, _, _, rfl, rfl, rfl, .int z.1, rfl, qq _ _ .rfl' (.int _)⟩
  have k78 : Kp [] H7 H8 := k8
  rw [tu_int hws8] at hD8
  have htot : 0 ≤ totN N ∧ totN N ≤ 108 := ⟨tot_nonneg ok, by have := tot_le h9; omega⟩
  obtain ⟨nn, en1, en2⟩ : ∃ nn : Nat, (m : Int) + (N.map (·.1)).sum * ((kw.length : Nat) + 2 : Int) + 1 = (nn : Nat) ∧ nn ≤ 5000 ∧ (m : Int) + 2 * totN N < nn := by
    rw [← tot_sum, lkw]
    obtain ⟨q0, eq0⟩ : ∃ q0 : Nat, totN N = q0 := ⟨(totN N).toNat, by omega⟩
    rw [eq0] at htot ⊢
    have h1 : q0 * (ks.length + 2) ≤ 108 * 42 := Nat.mul_le_mul (by omega) (by omega)
    have h2 : q0 * 2 ≤ q0 * (ks.length + 2) := Nat.mul_le_mul (Nat.le_refl _) (by omega)
    refine ⟨m + q0 * (ks.length + 2) + 1, ?_, by omega, by omega⟩
    rw [Int.natCast_add, Int.natCast_add, Int.natCast_mul, Int.natCast_add]
    rfl
  obtain ⟨en2, en3⟩ := en2
  have hkw8 := (k07.tr k78).lst (by simp) hkw
  have e42 : ((kw.length : Nat) : Int) + 2 = ((kw.length + 2 : Nat) : Int) := by rw [Int.natCast_add]; rfl
  refine ⟨D, N.map (·.1), rfl, SqL.of hD8, .ref kl, rfl, kl, kw, rfl, .inl (SqL.of hkw8), _, _, rfl, rfl, _, _, rfl, rfl, wide_mul (a := 10) (b := 10) (by rw [← tot_sum]; omega) (by rw [e42]; omega) (by decide) (by decide) (by decide), _, _, rfl, rfl, _, _, rfl, rfl, (nn : Int), congrArg (fun i => [V.int i]) en1, by omega, by omega, ?_⟩
  have back : ∀ (Hx : Hp), Kp [] H Hx → ∀ z, Hx z = none → H z = none := fun Hx k z hz => by
    cases w : H z with
    | none => rfl
    | some o => exact absurd hz (k.tr_ z (by rw [w]; exact fun y => by cases y))
  have nbH : H b = none := back _ k03 b nb
  have nloH : H lo = none := back _ (k03.tr k4) lo nlo
  have nliH : H li = none := back _ (k03.tr (k4.tr k5)) li nli
  have nkb : kl ≠ b := fun q => by rw [q, nbH] at hkw; cases hkw
  have nblo : b ≠ lo := fun q => by rw [← q, hb4] at nlo; cases nlo
  have nbli : b ≠ li := fun q => by rw [← q, k5.at_ b _ (by simp) hb4 (fun ps z => by cases z)] at nli; cases nli
  have nloli : lo ≠ li := fun q => by rw [← q, hlo5] at nli; cases nli
  have nenlo : en ≠ lo := fun q => by rw [q, k6.lst (by simp) hlo5] at nen; cases nen
  have nenli : en ≠ li := fun q => by rw [q, hli6] at nen; cases nen
  have hb8 := k8.at_ b _ (by simp) hb7 (fun ps z => by cases z)
  refine for_range (n := nn) (fun t σ H' => ∃ (en' : Addr) (o8 o11 o12 o13 o14 : Option V), σ = [some (.ref ad), some (.ref kl), some (.int (m : Nat)), none, some (.ref b), some (.ref lo), some (.ref li), some (.ref en'), o8, none, none, o11, o12, o13, o14, none] ∧ BurnD H' b N.length (fun x => (stW N ks t).getD x none) ∧ LstOf H' lo (((allW N ks t).filter isLost).map rowT) ∧ LstOf H' li (((allW N ks t).filter isLit).map rowT) ∧ LstOf H' en' (((allW N ks t).filter isEnded).map rowT) ∧ en' ≠ b ∧ en' ≠ lo ∧ en' ≠ li ∧ Kp [] H H') ⟨en, none, none, none, none, none, rfl, ⟨[], hb8, .nil, fun x hx => ?_⟩, ⟨[], k8.lst (by simp) hlo7, .nil⟩, ⟨[], k8.lst (by simp) hli7, .nil⟩, ⟨[], k8.lst (by simp) hen7, .nil⟩, fun q => (by have := k7.at_ b _ (by simp) ((k5.tr k6).at_ b _ (by simp) hb4 (fun ps z => by cases z)) (fun ps z => by cases z); rw [← q, hen7] at this; cases this), nenlo, nenli, k07.tr k78⟩ (fun t σ H9 ht hP => ?_) (fun σ H9 hP => ?_)
  · show RelL H8 none ((List.replicate N.length none).getD x none)
    rw [List.getD_eq_getElem?_getD, List.getElem?_replicate]
    split <;> exact trivial
  · obtain ⟨en', o8, o11, o12, o13, o14, rfl, hb9, hlo9, hli9, hen9, ne0, ne1, ne2, k9⟩ := hP
    rw [Int.zero_add]
    refine ⟨.ref ad, rfl, .ref kl, rfl, .ref b, rfl, .int t, rfl, .ref ad, N, kl, b, ks, t, stW N ks t, rfl, hn.kt k9.kt0, ok, ⟨kw, k9.lst (by simp) hkw, hkt.kt k9.kt0⟩, hk, h40, nkb, hb9, stW_len ok hk t, fun x f t0 h => (((inv_all ok hk t).at_ x f t0).mp h).2.1, fun tp c e H10 r htp hcome hover hburn k10 t10 hne => ?_⟩
    refine ⟨tp, _, rfl, SqT.of htp, rfl, _, _, rfl, _, _, rfl, rfl, ?_⟩
    have hlo10 := hlo9.kp k10 t10 (by simpa using nblo.symm)
    have hli10 := hli9.kp k10 t10 (by simpa using nbli.symm)
    obtain ⟨we, hwe, hwet⟩ := hen9.kp k10 t10 (by simpa using ne0)
    obtain ⟨wo, hwo, hwot⟩ := hover
    have lwe : we.length ≤ 260000 := by
      rw [hwet.len, List.length_map]
      have h1 : ((allW N ks t).filter isEnded).length ≤ (allW N ks t).length := List.length_filter_le _ _
      have h2 := allW_len ok hk t
      have h3 : (N.length + ks.length) * t ≤ 52 * 5000 := Nat.mul_le_mul (by omega) (by omega)
      omega
    have lwo : wo.length ≤ 12 := by
      rw [hwot.len, List.length_map]
      unfold overL
      exact Nat.le_trans (List.length_filterMap_le _ _) (by rw [List.length_range]; omega)
    -- ended = ended + over
    refine ⟨.ref en', rfl, .ref e, rfl, en', e, we, wo, rfl, rfl, SqL.of hwe, SqL.of hwo, Nat.le_trans (m := 300000) (by omega) (by decide), fun nl nnl => ?_⟩
    generalize e11 : upd H10 nl _ = H11
    have k11 : Kp [] H10 H11 := by rw [← e11]; exact Kp.new nnl
    have hnl : H11 nl = some (.lst (we ++ wo)) := by rw [← e11]; exact upd_same
    have hb11 := hburn.kp k11 k11.kt0 (by simp)
    have hlo11 := hlo10.kp0 k11
    have hli11 := hli10.kp0 k11
    have hnlt : TuA H11 (we ++ wo) (((allW N ks (t + 1)).filter isEnded).map rowT) := by
      rw [allW_succ, List.filter_append, filt_ended ok hk, List.map_append]
      exact (hwet.kt k11.kt0).app (hwot.kt k11.kt0)
    -- for spot in sorted(come)
    obtain ⟨is, his, lis⟩ := KeysN.ints hcome.keys.lt
    have hc11 : ComeD H9 H11 c N.length (cmW N ks t) r := hcome.kp k11 (by simp)
    refine ⟨.ref c, rfl, c, r, is, rfl, .inl hc11.top, his, by have := hcome.keys.len; omega, fun ys sp hp hs nsp => ?_⟩
    have eys := sel_keys hc11 his hp hs
    have eyv : ys.map V.int = natV (selS N ks t) := by rw [eys]; unfold natV; simp
    rw [eyv]
    generalize e12 : upd H11 sp _ = H12
    have k12 : Kp [] H11 H12 := by rw [← e12]; exact Kp.new nsp
    have hsp : H12 sp = some (.lst (natV (selS N ks t))) := by rw [← e12]; exact upd_same
    have hc12 := hc11.kp k12 (by simp)
    have hb12 := hb11.kp k12 k12.kt0 (by simp)
    have hlo12 := hlo11.kp0 k12
    have hli12 := hli11.kp0 k12
    have hnl12 := k12.lst (by simp) hnl
    have nsp' : sp ∉ [b, lo, li] := fun q => by
      simp only [List.mem_cons, List.not_mem_nil, or_false] at q
      rcases q with rfl | rfl | rfl
      · exact hb11.tr.1 nsp
      · obtain ⟨w1, h1, _⟩ := hlo11; rw [h1] at nsp; cases nsp
      · obtain ⟨w1, h1, _⟩ := hli11; rw [h1] at nsp; cases nsp
    have nnl' : nl ∉ [b, lo, li] := fun q => by
      simp only [List.mem_cons, List.not_mem_nil, or_false] at q
      rcases q with rfl | rfl | rfl
      · exact hburn.tr.1 nnl
      · obtain ⟨w1, h1, _⟩ := hlo10; rw [h1] at nnl; cases nnl
      · obtain ⟨w1, h1, _⟩ := hli10; rw [h1] at nnl; cases nnl
    have s9 : ∀ s ∈ [b, lo, li], H9 s ≠ none := fun s q => by
      simp only [List.mem_cons, List.not_mem_nil, or_false] at q
      rcases q with rfl | rfl | rfl
      · exact hb9.tr.1
      · obtain ⟨w1, h1, _⟩ := hlo9; rw [h1]; exact fun z => by cases z
      · obtain ⟨w1, h1, _⟩ := hli9; rw [h1]; exact fun z => by cases z
    have k012 : Kp [] H H12 := ((k9.over k10 (by simpa using nbH)).tr k11).tr k12
    refine ⟨sp, rfl, ⟨_, SqL.of hsp⟩, for_list (xs := natV (selS N ks t)) (fun j σ H' => ∃ (o13 o14 : Option V), σ = [some (.ref ad), some (.ref kl), some (.int (m : Nat)), none, some (.ref b), some (.ref lo), some (.ref li), some (.ref nl), some (.int (t : Nat)), none, none, some (.ref c), some (.ref e), o13, o14, none] ∧ BurnD H' b N.length (curF N ks t ((selS N ks t).take j)) ∧ LstOf H' lo (((allW N ks t).filter isLost ++ (((selS N ks t).take j).map fun x => (mtW N ks t x).2.filter isLost).flatten).map rowT) ∧ LstOf H' li (((allW N ks t).filter isLit ++ (((selS N ks t).take j).map fun x => (mtW N ks t x).2.filter isLit).flatten).map rowT) ∧ Kp [b, lo, li] H12 H' ∧ Kt H12 H') ⟨o13, o14, rfl, hb12.ext fun x _ => (if_neg (by simp)).symm, ?_, ?_, .rfl', .rfl'⟩ (fun j σ H13 _ hP => ?_) (fun j z σ H13 hz hP => ?_) (fun σ H13 hP => ?_)⟩
    · rw [List.take_zero]
      show LstOf _ _ ((_ ++ []).map rowT)
      rw [List.append_nil]
      exact hlo12
    · rw [List.take_zero]
      show LstOf _ _ ((_ ++ []).map rowT)
      rw [List.append_nil]
      exact hli12
    · obtain ⟨o13, o14, rfl, _, _, _, k13, _⟩ := hP
      exact SqL.of (k13.lst nsp' hsp)
    · obtain ⟨o13, o14, rfl, hb13, hlo13, hli13, k13, t13⟩ := hP
      have hj : j < (selS N ks t).length := by rw [← natV_len]; exact (List.getElem?_eq_some_iff.mp hz).1
      obtain ⟨x, hx⟩ : ∃ x, (selS N ks t)[j]? = some x := ⟨_, List.getElem?_eq_getElem hj⟩
      rw [natV_get hx] at hz
      cases hz
      obtain ⟨hxN, hxne⟩ := sel_mem.mp (List.mem_of_getElem? hx)
      have hc13 := hc12.kp k13 s9
      obtain ⟨ly, hv, hly, hn0, hnc⟩ := hc13.yes x hxN hxne
      -- some = sorted(come[spot])
      refine ⟨.ref c, rfl, .int x, rfl, c, .ref ly, rfl, hv ▸ DGet.k (k := kN x) hc13.top, ly, (cmW N ks t x).map (fun n : Nat => (n : Int)), rfl, SqL.of (by rw [hly]; unfold natV; simp), fun ns so hp hs nso => ?_⟩
      have env : ns.map V.int = natV (srt (cmW N ks t x)) := by rw [srt_of hp hs]; unfold natV; simp
      rw [env]
      generalize e14 : upd H13 so _ = H14
      have k14 : Kp [] H13 H14 := by rw [← e14]; exact Kp.new nso
      have hso : H14 so = some (.lst (natV (srt (cmW N ks t x)))) := by rw [← e14]; exact upd_same
      have hb14 := hb13.kp k14 k14.kt0 (by simp)
      have hlo14 := hlo13.kp0 k14
      have hli14 := hli13.kp0 k14
      have nso12 : H12 so = none := by
        cases w : H12 so with
        | none => rfl
        | some o => exact absurd nso (k13.tr_ so (by rw [w]; exact fun y => by cases y))
      have k1214 := k13.tr k14.of0
      have t1214 := t13.tr k14.kt0
      have lcm : (srt (cmW N ks t x)).length ≤ 52 := by
        rw [srt_len]
        have := cm_len (t := t) hk x
        omega
      refine ⟨fun σ' Hy => ∃ (g t0 : Nat) (fs : List Nat), σ' = [some (.ref ad), some (.ref kl), some (.int (m : Nat)), none, some (.ref b), some (.ref lo), some (.ref li), some (.ref nl), some (.int (t : Nat)), none, none, some (.ref c), some (.ref e), some (.int (x : Nat)), some (.ref so), none] ∧ (mtW N ks t x).1 = some (g, t0) ∧ (mtW N ks t x).2.filter isLost = fs.map (fun f => Em.Row.lost t x f g) ∧ fs.length ≤ 52 ∧ Hy so = some (.lst (natV fs)) ∧ BurnD Hy b N.length (curF N ks t ((selS N ks t).take (j + 1))) ∧ LstOf Hy lo (((allW N ks t).filter isLost ++ (((selS N ks t).take j).map fun x => (mtW N ks t x).2.filter isLost).flatten).map rowT) ∧ LstOf Hy li (((allW N ks t).filter isLit ++ (((selS N ks t).take (j + 1)).map fun x => (mtW N ks t x).2.filter isLit).flatten).map rowT) ∧ Kp [b, lo, li] H12 Hy ∧ Kt H12 Hy, ?_, fun σ' Hy hM => ?_⟩
      · obtain ⟨rb, hrb, hkb, hvb⟩ := hb14
        have hri := hvb x hxN
        rw [cur_old hx] at hri
        refine ⟨.int x, rfl, .ref b, rfl, b, _, rfl, DGet.k (k := kN x) hrb, _, rfl, ?_⟩
        cases eL : leftB N t (stW N ks t) x with
        | some p =>
          obtain ⟨g, t0⟩ := p
          rw [eL] at hri
          obtain ⟨ta, eta, hta⟩ := hri.some_
          obtain ⟨m1, m2, m3⟩ := mt_some eL
          rw [eta]
          refine iteF ⟨g, t0, srt (cmW N ks t x), rfl, m1, m2, lcm, hso, BurnD.ext ⟨rb, hrb, hkb, hvb⟩ fun y hy => ?_, hlo14, ?_, k1214, t1214⟩
          · rw [cur_succ hx, m1]
            by_cases q : y = x
            · rw [if_pos q, q, cur_old hx, eL]
            · rw [if_neg q]
          · rw [part_succ _ hx, m3, List.append_nil]
            exact hli14
        | none =>
          rw [eL] at hri
          rw [hri.none_]
          cases es : srt (cmW N ks t x) with
          | nil =>
            have : (cmW N ks t x).length = 0 := by rw [← srt_len, es]; rfl
            exact absurd (List.eq_nil_of_length_eq_zero this) hxne
          | cons g rr =>
            rw [es] at hso lcm
            obtain ⟨m1, m2, m3⟩ := mt_none eL es
            have lrb := hkb.len
            -- burning[spot] = (some[0], beat)
            refine iteT ⟨.ref so, rfl, so, _, 0, .int (g : Nat), rfl, rfl, SqL.of hso, atI_nat (j := 0) rfl, .int t, rfl, by show 2 ≤ sizeLine; decide, fun ta nta => ?_⟩
            generalize e15 : upd H14 ta _ = H15
            have k15 : Kp [] H14 H15 := by rw [← e15]; exact Kp.new nta
            have hta : H15 ta = some (.tup [.int (g : Nat), .int (t : Nat)]) := by rw [← e15]; exact upd_same
            have hrb15 := k15.at_ b _ (by simp) hrb (fun ps z => by cases z)
            refine ⟨.ref b, rfl, .int x, rfl, b, _, rfl, DPut.k (k := kN x) hrb15 (Nat.lt_of_le_of_lt (show rb.length ≤ 12 by omega) (by decide)), ?_⟩
            have hb16 := BurnD.lit (n := N.length) (f := g) (t0 := t) hrb15 hkb (fun y hy => (hvb y hy).kt k15.kt0) hxN hri.none_ hta
            have k16 : Kp [b] H15 (upd H15 b (.dK (putK rb (kN x) (.ref ta)))) := Kp.put (by simp) hrb15 fun _ z => by cases z
            have t16 : Kt H15 (upd H15 b (.dK (putK rb (kN x) (.ref ta)))) := Kt.put hrb15 fun _ z => by cases z
            have nsob : so ≠ b := fun q => by rw [q, hrb] at hso; cases hso
            generalize upd H15 b (.dK (putK rb (kN x) (.ref ta))) = H16 at hb16 k16 t16 ⊢
            have hso16 := k16.lst (by simpa using nsob) (k15.lst (by simp) hso)
            have hlo16 := (hlo14.kp0 k15).kp k16 t16 (by simpa using nblo.symm)
            obtain ⟨wl, hwl, hwlt⟩ := (hli14.kp0 k15).kp k16 t16 (by simpa using nbli.symm)
            have lwl : wl.length ≤ 300000 := by
              rw [hwlt.len, List.length_map]
              have h1 := part_rows (t := t) ok hk isLit (filt_lit ok hk) j
              have h3 : (N.length + ks.length) * (t + 1) ≤ 52 * 5000 := Nat.mul_le_mul (by omega) (by omega)
              omega
            -- lit.append(..)
            refine ⟨.ref li, rfl, .inl ⟨rfl, _, SqL.of hwl⟩, .int t, rfl, .int x, rfl, .ref so, rfl, .inl ⟨rfl, _, SqL.of hso16⟩, so, natV (g :: rr), 0, 0, .int (g : Nat), rfl, rfl, hso16, by decide, by decide, by (rw [natV_len, List.length_cons]; simp [seqIndex?]), rfl, ?_⟩
            have k17 : Kp [so] H16 (upd H16 so (.lst ((natV (g :: rr)).eraseIdx 0))) := Kp.put (by simp) hso16 fun _ z => by cases z
            have t17 : Kt H16 (upd H16 so (.lst ((natV (g :: rr)).eraseIdx 0))) := Kt.put hso16 fun _ z => by cases z
            have hso17 : upd H16 so (.lst ((natV (g :: rr)).eraseIdx 0)) so = some (.lst (natV rr)) := upd_same
            generalize upd H16 so (.lst ((natV (g :: rr)).eraseIdx 0)) = H17 at k17 t17 hso17 ⊢
            have nsolo : so ≠ lo := fun q => by obtain ⟨w1, h1, _⟩ := hlo13; rw [q, h1] at nso; cases nso
            have nsoli : so ≠ li := fun q => by obtain ⟨w1, h1, _⟩ := hli13; rw [q, h1] at nso; cases nso
            have hb17 := hb16.kp k17 t17 (by simpa using nsob.symm)
            have hlo17 := hlo16.kp k17 t17 (by simpa using nsolo.symm)
            have hwl17 := k17.lst (by simpa using nsoli.symm) hwl
            refine ⟨by show 3 ≤ sizeLine; decide, fun tn ntn => ?_⟩
            generalize e18 : upd H17 tn _ = H18
            have k18 : Kp [] H17 H18 := by rw [← e18]; exact Kp.new ntn
            have htn : H18 tn = some (.tup [.int (t : Nat), .int (x : Nat), .int (g : Nat)]) := by rw [← e18]; exact upd_same
            have hwl18 := k18.lst (by simp) hwl17
            refine ⟨li, wl, .ref tn, rfl, rfl, hwl18, Nat.lt_of_le_of_lt lwl (by decide), ?_⟩
            have k19 : Kp [li] H18 (upd H18 li (.lst (wl ++ [.ref tn]))) := Kp.put (by simp) hwl18 fun _ z => by cases z
            have t19 : Kt H18 (upd H18 li (.lst (wl ++ [.ref tn]))) := Kt.put hwl18 fun _ z => by cases z
            have t1618 := t17.tr k18.kt0
            have k1419 : Kp [b, lo, li] H12 (upd H18 li (.lst (wl ++ [.ref tn]))) := by
              have a1 : Kp [b, lo, li] H12 H16 := k1214.tr (k15.of0.tr (k16.wk fun z q => by rw [List.mem_singleton.mp q]; simp))
              have a2 := a1.over k17 (by simpa using nso12)
              exact a2.tr (k18.of0.tr (k19.wk fun z q => by rw [List.mem_singleton.mp q]; simp))
            refine ⟨g, t, rr, rfl, m1, m2, by rw [List.length_cons] at lcm; omega, k19.lst (by simpa using nsoli) (k18.lst (by simp) hso17), ((hb17.kp k18 k18.kt0 (by simp)).kp k19 t19 (by simpa using nbli)).ext fun y hy => ?_, (hlo17.kp0 k18).kp k19 t19 (by simpa using nloli), ⟨_, upd_same, ?_⟩, k1419, t1214.tr (k15.kt0.tr (t16.tr (t1618.tr t19)))⟩
            · rw [cur_succ hx, m1]
            · rw [part_succ _ hx, m3, List.map_append]
              exact ((hwlt.kt t1618).kt t19).app (.cons (.tup (t19 _ _ htn) (.cons (.int _) (.cons (.int _) (.cons (.int _) .nil)))) .nil)
      · obtain ⟨g, t0, fs, rfl, m1, m2, lfs, hso', hb15, hlo15, hli15, k15, t15⟩ := hM
        obtain ⟨rb, hrb, hkb, hvb⟩ := hb15
        have hri := hvb x hxN
        rw [cur_succ hx, if_pos rfl, m1] at hri
        obtain ⟨ta, eta, hta⟩ := hri.some_
        have nsos : so ∉ [b, lo, li] := fun q => by
          simp only [List.mem_cons, List.not_mem_nil, or_false] at q
          rcases q with rfl | rfl | rfl
          · exact hb13.tr.1 nso
          · obtain ⟨w1, h1, _⟩ := hlo13; rw [h1] at nso; cases nso
          · obtain ⟨w1, h1, _⟩ := hli13; rw [h1] at nso; cases nso
        obtain ⟨wl, hwl, hwlt⟩ := hlo15
        have lwl : wl.length ≤ 300000 := by
          rw [hwlt.len, List.length_map]
          have h1 := part_rows (t := t) ok hk isLost (filt_lost ok hk) j
          have h3 : (N.length + ks.length) * (t + 1) ≤ 52 * 5000 := Nat.mul_le_mul (by omega) (by omega)
          omega
        refine ⟨.ref lo, rfl, .inl ⟨rfl, _, SqL.of hwl⟩, .ref so, rfl, so, rfl, ⟨_, SqL.of hso'⟩, fun D nD => lcm_list fs (fun n : Nat => PyData.int (n : Int)) rowT (fun f => Em.Row.lost t x f g) hso' (nat_tu fs) nD (by omega) (fun i z v H' Q' R' hz hv hvt k qq => ?_) (fun ws H16 hD16 hws16 k16 => ?_)⟩
        · cases hvt
          have hrb' := k.at_ b _ (by simp) hrb (fun ps z => by cases z)
          refine ⟨rfl, .int t, rfl, .int x, rfl, .int z, rfl, .ref b, rfl, .int x, rfl, b, _, rfl, eta ▸ DGet.k (k := kN x) hrb', ta, _, 0, _, rfl, rfl, SqT.of (k.kt0 _ _ hta), rfl, by show 4 ≤ sizeLine; decide, fun tn ntn => ?_⟩
          exact qq _ _ (Kp.new ntn) (.tup upd_same (.cons (.int _) (.cons (.int _) (.cons (.int _) (.cons (.int _) .nil)))))
        have lws : ws.length ≤ 52 := by rw [hws16.len, List.length_map, List.length_map]; exact lfs
        have hwl16 := k16.lst (by simp) hwl
        refine ⟨lo, D, wl, ws, rfl, rfl, hwl16, hD16, Nat.le_trans (m := 400000) (by omega) (by decide), ?_⟩
        have k17 : Kp [lo] H16 (upd H16 lo (.lst (wl ++ ws))) := Kp.put (by simp) hwl16 fun _ z => by cases z
        have t17 : Kt H16 (upd H16 lo (.lst (wl ++ ws))) := Kt.put hwl16 fun _ z => by cases z
        refine ⟨_, _, rfl, (BurnD.kp ⟨rb, hrb, hkb, hvb⟩ k16 k16.kt0 (by simp)).kp k17 t17 (by simpa using nblo), ⟨_, upd_same, ?_⟩, (hli15.kp0 k16).kp k17 t17 (by simpa using nloli.symm), k15.tr (k16.of0.tr (k17.wk fun z q => by rw [List.mem_singleton.mp q]; simp)), t15.tr (k16.kt0.tr t17)⟩
        rw [part_succ _ hx, m2, List.map_append]
        exact ((hwlt.kt k16.kt0).kt t17).app (hws16.kt t17)
    · obtain ⟨o13, o14, rfl, hb13, hlo13, hli13, k13, t13⟩ := hP
      rw [natV_len, part_all _ (filt_lost ok hk)] at hlo13
      rw [natV_len, part_all _ (filt_lit ok hk)] at hli13
      rw [natV_len, List.take_length] at hb13
      have hnH : ∀ s ∈ [b, lo, li], H s = none := fun s q => by
        simp only [List.mem_cons, List.not_mem_nil, or_false] at q
        rcases q with rfl | rfl | rfl <;> assumption
      exact ⟨nl, _, _, _, _, _, rfl, hb13.ext fun y hy => cur_end ok hk hy, hlo13, hli13, ⟨_, k13.lst nnl' hnl12, (hnlt.kt k12.kt0).kt t13⟩, fun q => nnl' (by rw [q]; simp), fun q => nnl' (by rw [q]; simp), fun q => nnl' (by rw [q]; simp), k012.over k13 hnH⟩
  · obtain ⟨en', o8, o11, o12, o13, o14, rfl, hb9, hlo9, hli9, hen9, ne0, ne1, ne2, k9⟩ := hP
    refine ⟨.ref lo, rfl, .ref li, rfl, .ref en', rfl, by show 3 ≤ sizeLine; decide, fun tp ntp => ?_⟩
    have kn : Kp [] H9 (upd H9 tp (.tup [.ref lo, .ref li, .ref en'])) := Kp.new ntp
    exact q tp lo li en' _ nn en2 (fun p hp => by have := hmk p hp; omega) upd_same (hlo9.kp0 kn) (hli9.kp0 kn) (hen9.kp0 kn) (k9.tr kn)
end

section
variable {P : Program} {w : World} {K : PySem.W.Frag} {mg : Str → Option Value} {base : Heap} {a : Ad}
def spTimes : Sp := fun vs H Q _ => ∃ (p : Addr) (n : Nat), vs = [.ref p] ∧ Sack H p n ∧ n < 80000 ∧
  ∀ tp H' (c d : Nat), 1 ≤ c → c ≤ 10 ^ 57 → d < 10 ^ 59 → H' tp = some (.tup [.int c, .int d]) → Kp [p] H H' → Sack H' p (n + 6) → Q (.ref tp) H'
theorem ok_law_times (T : Tx K mg a) : FnOk P w K mg base CX0 2 a.a_law_times a.f_law_times ["jar"] spTimes := by
  have G_law_dip := ok_law_dip (P := P) (w := w) (base := base) T
  refine T.law_times.F.ok sc_law_times (fun vs H Q E h => ?_) (fun cdv A outer s H vs Q E hr h => ?_)
  · obtain ⟨p, n, rfl, _⟩ := h
    rfl
  obtain ⟨p, n, rfl, hj, hn, q⟩ := h
  refine ⟨_, (pss_cons (ps_set (i := 1) sc_law_times.nd rfl (by first | exact .inl rfl | exact .inr rfl) (pe_ix ix_list (pe_lst (pa_cons pe_int (pa_cons (pe_op op_add pe_int (pe_call G_law_dip (hr.mono (by decide)) (by rfl) T.law_dip.g T.law_dip.F.kp T.law_dip.b .nil pass0 (pa_cons (pv 0) (pa_cons (pe_op op_powW pe_int pe_int) pa_nil)))) (pa_cons (pe_op op_add pe_int (pe_call G_law_dip (hr.mono (by decide)) (by rfl) T.law_dip.g T.law_dip.F.kp T.law_dip.b .nil pass0 (pa_cons (pv 0) (pa_cons (pe_op op_powW pe_int pe_int) pa_nil)))) pa_nil)))) (pe_call G_law_dip (hr.mono (by decide)) (by rfl) T.law_dip.g T.law_dip.F.kp T.law_dip.b .nil pass0 (pa_cons (pv 0) (pa_cons pe_int pa_nil))) (fun _ _ => rfl)))
      (pss_one (ps_ret (pe_tup (pa_cons (pv 1) (pa_cons (pe_ix ix_list (pe_lst (pa_cons pe_int (pa_cons (pe_call G_law_dip (hr.mono (by decide)) (by rfl) T.law_dip.g T.law_dip.F.kp T.law_dip.b .nil pass0 (pa_cons (pv 0) (pa_cons (pe_op op_powW pe_int pe_int) pa_nil))) (pa_cons (pe_call G_law_dip (hr.mono (by decide)) (by rfl) T.law_dip.g T.law_dip.F.kp T.law_dip.b .nil pass0 (pa_cons (pv 0) (pa_cons (pe_op op_powW pe_int pe_int) pa_nil))) pa_nil)))) (pe_call G_law_dip (hr.mono (by decide)) (by rfl) T.law_dip.g T.law_dip.F.kp T.law_dip.b .nil pass0 (pa_cons (pv 0) (pa_cons pe_int pa_nil))) (fun _ _ => rfl)) pa_nil)))))), ?_⟩
  have b57 : ((10 : Int) ^ (57 : Int).toNat) ≤ ((10 ^ 57 : Nat) : Int) := by decide
  have b59 : ((10 : Int) ^ (59 : Int).toNat) ≤ ((10 ^ 59 : Nat) : Int) := by decide
  have b9 : ((10 : Int) ^ (9 : Int).toNat) ≤ ((10 ^ 57 : Nat) : Int) := by decide
  have b9' : ((10 : Int) ^ (9 : Int).toNat) ≤ ((10 ^ 59 : Nat) : Int) := by decide
  refine ⟨.ref p, rfl, _, _, rfl, rfl, ⟨by decide, by decide⟩, p, _, _, rfl, by decide, by decide, hj, by omega, fun r1 H1 a1 b1 k1 j1 => ⟨_, _, rfl, rfl, ?_⟩⟩
  refine ⟨.ref p, rfl, _, _, rfl, rfl, ⟨by decide, by decide⟩, p, _, _, rfl, by decide, by decide, j1, by omega, fun r2 H2 a2 b2 k2 j2 => ⟨_, _, rfl, rfl, ?_⟩⟩
  refine ⟨by show 3 ≤ sizeLine; decide, fun l nl => ?_⟩
  generalize e3 : upd H2 l _ = H3
  have k3 : Kp [] H2 H3 := by rw [← e3]; exact Kp.new nl
  have hl3 : H3 l = some (.lst [.int 1, .int (1 + r1), .int (1 + r2)]) := by rw [← e3]; exact upd_same
  have j3 := j2.kp k3 (by simp)
  have hlp : l ∉ [p] := j2.ni nl
  refine ⟨.ref p, rfl, p, 3, _, rfl, by decide, by decide, j3, by omega, fun r4 H4 a4 b4 k4 j4 => ?_⟩
  obtain ⟨c, hc, hc1, hc2⟩ : ∃ c : Nat, atI [V.int 1, V.int (1 + r1), V.int (1 + r2)] r4 = some (.int (c : Nat)) ∧ 1 ≤ c ∧ c ≤ 10 ^ 57 := by
    have : r4 = 0 ∨ r4 = 1 ∨ r4 = 2 := by omega
    rcases this with rfl | rfl | rfl
    · exact ⟨1, rfl, by decide, by decide⟩
    · refine ⟨(1 + r1).toNat, ?_, by omega, by omega⟩
      rw [Int.toNat_of_nonneg (by omega)]
      rfl
    · refine ⟨(1 + r2).toNat, ?_, by omega, by omega⟩
      rw [Int.toNat_of_nonneg (by omega)]
      rfl
  refine ⟨l, _, r4, .int (c : Nat), rfl, rfl, SqL.of (k4.lst hlp hl3), hc, ?_⟩
  -- later
  refine ⟨.int c, rfl, ?_⟩
  refine ⟨.ref p, rfl, _, _, rfl, rfl, ⟨by decide, by decide⟩, p, _, _, rfl, by decide, by decide, j4, by omega, fun r5 H5 a5 b5 k5 j5 => ?_⟩
  refine ⟨.ref p, rfl, _, _, rfl, rfl, ⟨by decide, by decide⟩, p, _, _, rfl, by decide, by decide, j5, by omega, fun r6 H6 a6 b6 k6 j6 => ?_⟩
  refine ⟨by show 3 ≤ sizeLine; decide, fun m nm => ?_⟩
  generalize e7 : upd H6 m _ = H7
  have k7 : Kp [] H6 H7 := by rw [← e7]; exact Kp.new nm
  have hm7 : H7 m = some (.lst [.int 0, .int r5, .int r6]) := by rw [← e7]; exact upd_same
  have j7 := j6.kp k7 (by simp)
  have hmp : m ∉ [p] := j6.ni nm
  refine ⟨.ref p, rfl, p, 3, _, rfl, by decide, by decide, j7, by omega, fun r8 H8 a8 b8 k8 j8 => ?_⟩
  obtain ⟨d, hd, hd2⟩ : ∃ d : Nat, atI [V.int 0, V.int r5, V.int r6] r8 = some (.int (d : Nat)) ∧ d < 10 ^ 59 := by
    have : r8 = 0 ∨ r8 = 1 ∨ r8 = 2 := by omega
    rcases this with rfl | rfl | rfl
    · exact ⟨0, rfl, by decide⟩
    · refine ⟨r5.toNat, ?_, by omega⟩
      rw [Int.toNat_of_nonneg (by omega)]
      rfl
    · refine ⟨r6.toNat, ?_, by omega⟩
      rw [Int.toNat_of_nonneg (by omega)]
      rfl
  refine ⟨m, _, r8, .int (d : Nat), rfl, rfl, SqL.of (k8.lst hmp hm7), hd, by show 2 ≤ sizeLine; decide, fun tp ntp => ?_⟩
  have kn : Kp [] H8 (upd H8 tp (.tup [.int c, .int d])) := Kp.new ntp
  exact q tp _ c d hc1 hc2 hd2 upd_same (k1.tr (k2.tr (k3.of0.tr (k4.tr (k5.tr (k6.tr (k7.of0.tr (k8.tr kn.of0)))))))) ((j8.kp kn (by simp)).mono (by omega))
def spGreat : Sp := fun vs H Q _ => ∃ (v : V) (N : Net) (kl : Addr) (ks : Kds) (c d : Nat), vs = [v, .ref kl, .int c, .int d] ∧ Tu H v (netD N) ∧ NetOk N ∧ (∀ z ∈ N, z.1 ≤ 9) ∧ LstOf H kl (ks.map kdD) ∧ (∀ p ∈ ks, p.1 ≤ 39) ∧ ks.length ≤ 40 ∧ 1 ≤ c ∧ c < 2 ^ 200 ∧ d < 2 ^ 200 ∧
  ∀ tp v' wl H', H' tp = some (.tup [v', .ref wl]) → Tu H' v' (netD (tmN N c)) → LstOf H' wl ((shK d (tmK ks c)).map kdD) → H wl = none → Kp [] H H' → Q (.ref tp) H'
theorem ok_law_great (T : Tx K mg a) : FnOk P w K mg base CX0 1 a.a_law_great a.f_law_great ["land", "sparks", "times", "later"] spGreat := by
  refine T.law_great.F.ok sc_law_great (fun vs H Q E h => ?_) (fun cdv A outer s H vs Q E hr h => ?_)
  · obtain ⟨v, N, kl, ks, c, d, rfl, _⟩ := h
    rfl
  obtain ⟨v, N, kl, ks, c, d, rfl, hn, ok, h9, hkl, h39, h40, hc1, hc2, hd, q⟩ := h
  refine ⟨_, (pss_cons (ps_set (i := 4) sc_law_great.nd rfl (by first | exact .inl rfl | exact .inr rfl) (pe_callTy call_tuple_of (by rfl) T.n_tuple (by decide +kernel) (pa_cons (pe_lc (own := [("burns", 5), ("follower", 6)]) (g := gTup K 2 (gCons (gName 5) (gCons (gName 6) (gNil)))) (by rfl) sc_law_great.nd (pi_tup (pv 0)) (blkOk_by (own := [("burns", 5), ("follower", 6)]) (N := s_law_great_N) (sc := defScope s_law_great) (by decide +kernel)) (fun _ _ _ _ _ => (pg_tupK (K := K) rfl (by rfl) (pgs_cons (pg_name (i := 5) sc_law_great.nd rfl (by first | exact .inl rfl | exact .inr rfl)) (pgs_cons (pg_name (i := 6) sc_law_great.nd rfl (by first | exact .inl rfl | exact .inr rfl)) pgs_nil)))) (fun _ _ _ _ _ => pts_nil) (fun _ _ _ _ _ => (pe_tup (pa_cons (pe_op op_mulW (pv 5) (pv 2)) (pa_cons (pv 6) pa_nil))))) pa_nil)))
      (pss_one (ps_ret (pe_tup (pa_cons (pv 4) (pa_cons (pe_lc (own := [("beat", 7), ("spot", 8)]) (g := gTup K 2 (gCons (gName 7) (gCons (gName 8) (gNil)))) (by rfl) sc_law_great.nd (pi_list (pv 1)) (blkOk_by (own := [("beat", 7), ("spot", 8)]) (N := s_law_great_N) (sc := defScope s_law_great) (by decide +kernel)) (fun _ _ _ _ _ => (pg_tupK (K := K) rfl (by rfl) (pgs_cons (pg_name (i := 7) sc_law_great.nd rfl (by first | exact .inl rfl | exact .inr rfl)) (pgs_cons (pg_name (i := 8) sc_law_great.nd rfl (by first | exact .inl rfl | exact .inr rfl)) pgs_nil)))) (fun _ _ _ _ _ => pts_nil) (fun _ _ _ _ _ => (pe_tup (pa_cons (pe_op op_add (pe_op op_mulW (pv 7) (pv 2)) (pv 3)) (pa_cons (pv 8) pa_nil))))) pa_nil)))))), ?_⟩
  have h12 := ok.hi
  obtain ⟨ad, xs, rfl, hx, hxs, hln⟩ := net_tup hn
  obtain ⟨kw, hkw, hkt⟩ := hkl
  have mulok : ∀ i : Int, i.natAbs < 2 ^ 8 → CMulW i (c : Nat) := fun i hi => wide_mul (a := 8) (b := 200) hi (by rw [Int.natAbs_natCast]; exact hc2) (by decide) (by decide) (by decide)
  have hb1 : ∀ z ∈ N, 1 ≤ z.1 := fun z hz => ok.len z hz
  refine ⟨.ref ad, rfl, ad, rfl, ⟨_, SqT.of hx⟩, fun D nD => lcm_tup N lampD lampD (fun z => (z.1 * (c : Int), z.2)) hx hxs nD (by omega) (fun i z x H' Q' R' hz hx hzt k qq => ?_) (fun ws H1 hD1 hws1 k1 => ?_)⟩
  · obtain ⟨tu, rfl, htu⟩ := lamp_tup hzt
    have hz9 := h9 z (List.mem_of_getElem? hz)
    have hz1 := hb1 z (List.mem_of_getElem? hz)
    refine ⟨tu, _, rfl, SqT.of htu, rfl, _, _, rfl, _, _, rfl, rfl, rfl, .int z.1, rfl, .int c, rfl, _, _, rfl, rfl, mulok _ (by omega), nxV z.2, rfl, by show 2 ≤ sizeLine; decide, fun tn ntn => ?_⟩
    exact qq _ _ (Kp.new ntn) (.tup upd_same (.cons (.int _) (.cons (nx_tu _) .nil)))
  refine ⟨D, ws, rfl, .inl ⟨SqL.of hD1, fun vt nvt => ?_⟩⟩
  generalize e2 : upd H1 vt _ = H2
  have k2 : Kp [] H1 H2 := by rw [← e2]; exact Kp.new nvt
  have hvt : H2 vt = some (.tup ws) := by rw [← e2]; exact upd_same
  have k02 := k1.tr k2
  have hw : Tu H2 (.ref vt) (netD (tmN N c)) := .tup hvt (hws1.kt k2.kt0)
  refine ⟨.ref vt, rfl, .ref kl, rfl, kl, rfl, ⟨_, SqL.of (k02.lst (by simp) hkw)⟩, fun D2 nD2 => lcm_list ks kdD kdD (fun p => (p.1 * c + d, p.2)) (k02.lst (by simp) hkw) (hkt.kt k02.kt0) nD2 (by omega) (fun i z x H' Q' R' hz hx hzt k qq => ?_) (fun ws3 H3 hD3 hws3 k3 => ?_)⟩
  · obtain ⟨tu, rfl, htu⟩ := kd_tup hzt
    have hz9 := h39 z (List.mem_of_getElem? hz)
    refine ⟨tu, _, rfl, SqT.of htu, rfl, _, _, rfl, _, _, rfl, rfl, rfl, .int z.1, rfl, .int c, rfl, _, _, rfl, rfl, mulok _ (by omega), .int d, rfl, _, _, rfl, rfl, .int z.2, rfl, by show 2 ≤ sizeLine; decide, fun tn ntn => ?_⟩
    refine qq _ _ (Kp.new ntn) ?_
    have := kd_of (H := upd H' tn (.tup [.int ((z.1 * c + d : Nat) : Int), .int (z.2 : Nat)])) (l := tn) (b := z.1 * c + d) (x := z.2) upd_same
    rw [Int.natCast_add, Int.natCast_mul] at this
    exact this
  refine ⟨by show 2 ≤ sizeLine; decide, fun tp ntp => ?_⟩
  have kn : Kp [] H3 (upd H3 tp (.tup [.ref vt, .ref D2])) := Kp.new ntp
  have nDH : H D2 = none := by
    cases z : H D2 with
    | none => rfl
    | some o => exact absurd nD2 (k02.tr_ D2 (by rw [z]; exact fun y => by cases y))
  refine q tp _ D2 _ upd_same (hw.kt (k3.kt0.tr kn.kt0)) ⟨ws3, kn.lst (by simp) hD3, ?_⟩ nDH (k02.tr (k3.tr kn))
  have : shK d (tmK ks c) = ks.map fun p => (p.1 * c + d, p.2) := by unfold shK tmK; rw [List.map_map]; rfl
  rw [this]
  exact hws3.kt kn.kt0
end

section
variable {P : Program} {w : World} {K : PySem.W.Frag} {mg : Str → Option Value} {base : Heap} {a : Ad}
theorem row_tup {H : Hp} {v : V} {t x f g : Nat} (h : Tu H v (rowT (.lost t x f g))) : ∃ l : Addr, v = .ref l ∧ H l = some (.tup [.int (t : Nat), .int (x : Nat), .int (f : Nat), .int (g : Nat)]) := by
  unfold rowT at h
  cases h with
  | tup hx hs =>
    cases hs with
    | cons h1 hs =>
      cases hs with
      | cons h2 hs =>
        cases hs with
        | cons h3 hs =>
          cases hs with
          | cons h4 hs =>
            cases hs
            cases h1
            cases h2
            cases h3
            cases h4
            exact ⟨_, rfl, hx⟩
theorem lx_great {N : Net} {ks : Kds} (o : NetOk N) (hk : KdsOk N ks) {c d : Nat} (hc : 1 ≤ c) (x : Nat) : (∃ t f g, LostAt (tmN N c) (shK d (tmK ks c)) t x f g) ↔ ∃ t f g, LostAt N ks t x f g := by
  have o' := tmN_ok (N := N) o hc
  have hk' : KdsOk (tmN N c) (tmK ks c) := tmK_ok hk
  have A : Late (tmN N c) [] (tmK ks c) 0 d 0 := ⟨fun p _ => Nat.zero_le _, fun p h => (by cases h), fun h => absurd rfl h, fun h => absurd rfl h⟩
  have ha := la_all o' (E := []) hk' A
  constructor
  · rintro ⟨t, f, g, h⟩
    obtain ⟨u, _, h⟩ := (ha t x f g).mp h
    obtain ⟨v, _, h⟩ := (tm_lost o hk hc u x f g).mp h
    exact ⟨v, f, g, h⟩
  · rintro ⟨t, f, g, h⟩
    have h1 := (tm_lost o hk hc _ x f g).mpr ⟨t, rfl, h⟩
    exact ⟨_, f, g, (ha _ x f g).mpr ⟨_, rfl, h1⟩⟩
theorem none_iff {N : Net} {ks : Kds} {R : List C4} (hR : Losses N ks R) (x : Nat) : noneB R x = true ↔ ¬ ∃ t f g, LostAt N ks t x f g := by
  unfold noneB
  rw [List.all_eq_true]
  constructor
  · rintro h ⟨t, f, g, hl⟩
    have hc : ((t : Int), x, f, g) ∈ R := (hR.iff _).mpr ⟨t, rfl, hl⟩
    have := h _ (List.mem_map.mpr ⟨_, hc, rfl⟩)
    simp at this
  · rintro h b hb
    obtain ⟨c, hc, rfl⟩ := List.mem_map.mp hb
    obtain ⟨t, _, hl⟩ := (hR.iff _).mp hc
    show (!(((c.2.1 : Nat) : Int) == ((x : Nat) : Int))) = true
    rw [Bool.not_eq_true', beq_eq_false_iff_ne]
    intro e
    have e : c.2.1 = x := by omega
    rw [e] at hl
    exact h ⟨t, _, _, hl⟩
theorem bool_lay (b : Bool) : (PyData.bool b).canLay0 = true := rfl
theorem bool_depth (b : Bool) : (PyData.bool b).depth ≤ 7 := Nat.zero_le _
def lampW : Em.Row → Nat
  | .ended _ k _ | .lit _ k _ | .lost _ k _ _ => k
def spLaw (TB TB2 TB3 TB4 : Addr) : Sp := fun vs H Q _ => ∃ (l : Addr) (ns : List Int), vs = [.ref l] ∧ SqL K H l (ns.map V.int) ∧ ns.length ≤ 63 ∧ GxR.TabG H TB ∧ GxR.TabG H TB2 ∧ GxR.TabG H TB3 ∧ GxR.TabG H TB4 ∧ ∀ H', Q (.bl true) H'
theorem ok_law (T : Tx K mg a) (TB : GxR.TabB base mg a.cd_is_net a.tb_is_net) (TB2 : GxR.TabB base mg a.cd_lights_of a.tb_lights_of) (TB3 : GxR.TabB base mg a.cd_are_kindlings a.tb_are_kindlings) (TB4 : GxR.TabB base mg a.cd_none_lost_at a.tb_none_lost_at) : FnG P w K mg base CX0 17 a.a_law a.f_law ["script"] (spLaw (K := K) a.tb_is_net a.tb_lights_of a.tb_are_kindlings a.tb_none_lost_at) := by
  have G_law_jar := ok_law_jar (P := P) (w := w) (base := base) T
  have G_law_dip := ok_law_dip (P := P) (w := w) (base := base) T
  have G_law_land := ok_law_land (P := P) (w := w) (base := base) T
  have G_law_sparks := ok_law_sparks (P := P) (w := w) (base := base) T
  have G_law_walk := ok_law_walk (P := P) (w := w) (base := base) T
  have G_law_times := ok_law_times (P := P) (w := w) (base := base) T
  have G_law_great := ok_law_great (P := P) (w := w) (base := base) T
  have G_none_lost_at := ok_none_lost_at (P := P) (w := w) (base := base) T TB TB2 TB3 TB4
  refine okG0 T.law.F sc_law (fun vs H Q E h => ?_) (fun cdv A outer s H vs Q E hG hr h => ?_)
  · obtain ⟨l, ns, rfl, _⟩ := h
    rfl
  obtain ⟨l, ns, rfl, hl8, hn, ht_3, ht2_3, ht3_3, ht4_3, q⟩ := h
  have hu := hu_of hr
  refine ⟨_, (pss_cons (ps_for PassesOwn.never rfl (pi_range1 (by rfl) T.n_range (pa_cons (pe_callB (call_max2 rfl) (by rfl) T.n_max (by decide +kernel) (pa_cons pe_int (pa_cons (pe_callB (call_min2 rfl) (by rfl) T.n_min (by decide +kernel) (pa_cons pe_int (pa_cons (pe_callB call_len_seq (by rfl) T.n_len (by decide +kernel) (pa_cons (pv 0) pa_nil)) pa_nil))) pa_nil))) pa_nil)) (pg_name (i := 1) sc_law.nd rfl (by first | exact .inl rfl | exact .inr rfl)) (pss_cons (ps_set (i := 2) sc_law.nd rfl (by first | exact .inl rfl | exact .inr rfl) (pe_call G_law_jar (hr.mono (by decide)) (by rfl) T.law_jar.g T.law_jar.F.kp T.law_jar.b .nil pass0 (pa_cons (pv 0) (pa_cons (pv 1) pa_nil))))
      (pss_cons (ps_set (i := 3) sc_law.nd rfl (by first | exact .inl rfl | exact .inr rfl) (pe_call G_law_land (hr.mono (by decide)) (by rfl) T.law_land.g T.law_land.F.kp T.law_land.b .nil pass0 (pa_cons (pv 2) (pa_cons pe_int (pa_cons pe_int pa_nil)))))
      (pss_cons (ps_set (i := 4) sc_law.nd rfl (by first | exact .inl rfl | exact .inr rfl) (pe_call G_law_sparks (hr.mono (by decide)) (by rfl) T.law_sparks.g T.law_sparks.F.kp T.law_sparks.b .nil pass0 (pa_cons (pv 2) (pa_cons (pv 3) (pa_cons (pe_ifExp (PW.pt (pw_and (pt_cmpR op_eq (pv 1) pe_int (nomark _)) (pw_and1 (pt_cmpR op_eq (pe_call G_law_dip (hr.mono (by decide)) (by rfl) T.law_dip.g T.law_dip.F.kp T.law_dip.b .nil pass0 (pa_cons (pv 2) (pa_cons pe_int pa_nil))) pe_int (nomark _))))) pe_int pe_int) pa_nil)))))
      (pss_cons (ps_setLc (i := 5) (own := [("beat", 6), ("spot", 7), ("ember", 8), ("other", 9)]) (g := gTup K 4 (gCons (gName 6) (gCons (gName 7) (gCons (gName 8) (gCons (gName 9) (gNil)))))) (by rfl) sc_law.nd rfl rfl (sw_true rfl rfl rfl (by decide +kernel)) (pi_list (pe_ix ix_tup (pe_call G_law_walk (hr.mono (by decide)) (by rfl) T.law_walk.g T.law_walk.F.kp T.law_walk.b .nil pass0 (pa_cons (pv 3) (pa_cons (pv 4) pa_nil))) pe_int (fun _ _ => rfl))) (blkOk_by (own := [("beat", 6), ("spot", 7), ("ember", 8), ("other", 9)]) (N := s_law_N) (sc := defScope s_law) (by decide +kernel)) (fun _ _ _ _ _ => (pg_tupK (K := K) rfl (by rfl) (pgs_cons (pg_name (i := 6) sc_law.nd rfl (by first | exact .inl rfl | exact .inr rfl)) (pgs_cons (pg_name (i := 7) sc_law.nd rfl (by first | exact .inl rfl | exact .inr rfl)) (pgs_cons (pg_name (i := 8) sc_law.nd rfl (by first | exact .inl rfl | exact .inr rfl)) (pgs_cons (pg_name (i := 9) sc_law.nd rfl (by first | exact .inl rfl | exact .inr rfl)) pgs_nil)))))) (fun _ _ _ _ _ => pts_nil) (fun _ _ _ _ _ => (pv 7)))
      (pss_cons (ps_asg (pe_call G_law_times (hr.mono (by decide)) (by rfl) T.law_times.g T.law_times.F.kp T.law_times.b .nil pass0 (pa_cons (pv 2) pa_nil)) (pg_tup (by rfl) (pgs_cons (pg_name (i := 10) sc_law.nd rfl (by first | exact .inl rfl | exact .inr rfl)) (pgs_cons (pg_name (i := 11) sc_law.nd rfl (by first | exact .inl rfl | exact .inr rfl)) pgs_nil))))
      (pss_cons (ps_asg (pe_call G_law_great (hr.mono (by decide)) (by rfl) T.law_great.g T.law_great.F.kp T.law_great.b .nil pass0 (pa_cons (pv 3) (pa_cons (pv 4) (pa_cons (pv 10) (pa_cons (pv 11) pa_nil))))) (pg_tup (by rfl) (pgs_cons (pg_name (i := 12) sc_law.nd rfl (by first | exact .inl rfl | exact .inr rfl)) (pgs_cons (pg_name (i := 13) sc_law.nd rfl (by first | exact .inl rfl | exact .inr rfl)) pgs_nil))))
      (pss_cons (ps_set (i := 14) sc_law.nd rfl (by first | exact .inl rfl | exact .inr rfl) (pe_callB (call_repr hG hr) (by rfl) T.n_repr (by decide +kernel) (pa_cons (pe_lst (pa_cons (pv 12) (pa_cons (pv 13) pa_nil))) pa_nil)))
      (pss_one (ps_for PassesOwn.never rfl (pi_range1 (by rfl) T.n_range (pa_cons (pe_callB call_len_seq (by rfl) T.n_len (by decide +kernel) (pa_cons (pv 3) pa_nil)) pa_nil)) (pg_name (i := 7) sc_law.nd rfl (by first | exact .inl rfl | exact .inr rfl)) (pss_cons (ps_set (i := 15) sc_law.nd rfl (by first | exact .inl rfl | exact .inr rfl) (pe_cmpR op_notIn_seq (pv 7) (pv 5) (by rfl)))
      (pss_cons (ps_set (i := 16) sc_law.nd rfl (by first | exact .inl rfl | exact .inr rfl) (pe_lst (pa_cons (pe_call G_none_lost_at (hr.mono (by decide)) (by rfl) T.none_lost_at.g T.none_lost_at.F.kp T.none_lost_at.b .nil pass0 (pa_cons (pv 12) (pa_cons (pv 13) (pa_cons (pv 7) pa_nil)))) (pa_cons (pe_kwG (FnG.of G_none_lost_at) hG (hr.mono (by decide)) (by rfl) T.none_lost_at.g T.none_lost_at.F.kp (kb_none_lost_at_lamp_kindlings_net T) pass0 (pk_cons (pv 7) (pk_cons (pv 13) (pk_cons (pv 12) pk_nil)))) pa_nil))))
      (pss_cons (ps_if (PW.pt (pw_or (pt_cmpR (op_neD hr.units) (pv 16) (pe_lst (pa_cons (pv 15) (pa_cons (pv 15) pa_nil))) (nomark _)) (pw_or1 (pt_cmpR (op_neD hr.units) (pe_lc (own := [("one", 17)]) (g := gName 17) (by rfl) sc_law.nd (pi_list (pv 16)) (blkOk_by (own := [("one", 17)]) (N := s_law_N) (sc := defScope s_law) (by decide +kernel)) (fun _ _ _ _ _ => (pg_name (i := 17) sc_law.nd rfl (by first | exact .inl rfl | exact .inr rfl))) (fun _ _ _ _ _ => (pts_one (pt_not (pt_val (pe_callB (call_isiK (K := K) rfl) (by rfl) T.n_isinstance (by decide +kernel) (pa_cons (pv 17) (pa_cons (pe_bltn (v := .ty "bool") (by rfl) T.n_bool (by decide +kernel) rfl) pa_nil))))))) (fun _ _ _ _ _ => (pv 17))) (pe_lst pa_nil) (nomark _))))) (pss_one (ps_ret pe_bl)) pss_nil)
      (pss_one (ps_if (pt_cmpR op_ne (pe_callB (call_repr hG hr) (by rfl) T.n_repr (by decide +kernel) (pa_cons (pe_lst (pa_cons (pv 12) (pa_cons (pv 13) pa_nil))) pa_nil)) (pv 14) (nomark _)) (pss_one (ps_ret pe_bl)) pss_nil)))))))))))))))
      (pss_one (ps_ret pe_bl))), ?_⟩
  obtain ⟨nn, en, hnn⟩ : ∃ nn : Nat, (if (if ((ns.map V.int).length : Int) < 4 then ((ns.map V.int).length : Int) else 4) > 1 then (if ((ns.map V.int).length : Int) < 4 then ((ns.map V.int).length : Int) else 4) else 1) = (nn : Nat) ∧ nn ≤ 4 := by
    rw [List.length_map]
    refine ⟨max 1 (min 4 ns.length), ?_, by omega⟩
    split <;> split <;> omega
  refine ⟨.ref l, rfl, l, _, rfl, .inl hl8, _, _, rfl, _, _, rfl, (nn : Int), congrArg (fun i => [V.int i]) en, by omega, by omega, for_range (n := nn) (fun i σ H' => ∃ (o1 o2 o3 o4 o5 o6 o7 o8 o9 o10 o11 o12 o13 o14 o15 o16 o17 : Option V), σ = [some (.ref l), o1, o2, o3, o4, o5, o6, o7, o8, o9, o10, o11, o12, o13, o14, o15, o16, o17] ∧ Kp [] H H') ⟨none, none, none, none, none, none, none, none, none, none, none, none, none, none, none, none, none, rfl, .rfl'⟩ (fun i σ H1 hi hP => ?_) (fun σ H1 hP => ?_)⟩
  · obtain ⟨o1, o2, o3, o4, o5, o6, o7, o8, o9, o10, o11, o12, o13, o14, o15, o16, o17, rfl, k0⟩ := hP
    rw [Int.zero_add]
    -- jar, land, sparks
    refine ⟨.ref l, rfl, .int i, rfl, l, ns, i, rfl, k0.seq (by simp) hl8, hn, by omega, fun p np H2 k1 j1 => ?_⟩
    refine ⟨.ref p, rfl, p, 1, 10, 0, rfl, j1, by omega, by omega, by omega, by omega, fun v H3 N ok hN1 hN8 h9 hn3 k2 j2 => ?_⟩
    -- 40 if k == 0 and .. else 10
    have key : ∀ (σ : L2.St) (X : V → Hp → Prop), σ[1]? = some (some (V.int (i : Nat))) → σ[2]? = some (some (V.ref p)) → (∀ (mo n : Nat) (Hx : Hp), mo ≤ 40 → n ≤ 100 → Sack Hx p n → Kp [p] H3 Hx → X (.int (mo : Nat)) Hx) →
        tIf (tAnd (tTest (tOp rEq (tVar 1) (tC (V.int 0)))) (tTest (tOp rEq (tCall spDip [] E0 (tCons (tVar 2) (tCons (tC (V.int 4)) tNil))) (tC (V.int 3))))) (tC (V.int 40)) (tC (V.int 10)) σ H3 X := fun σ X s1 s2 hX => by
      refine ⟨.int i, s1, rfl, _, rfl, ?_⟩
      by_cases hi0 : (V.int (i : Nat)) = V.int 0
      · rw [decide_eq_true hi0]
        refine iteT ⟨.ref p, s2, p, 4, _, rfl, by decide, by decide, j2, by omega, fun r Hx a1 b1 kx jx => ⟨rfl, _, rfl, ?_⟩⟩
        by_cases hr3 : (V.int r) = V.int 3
        · rw [decide_eq_true hr3]
          exact iteT (hX 40 _ Hx (by omega) (by omega) jx kx)
        · rw [decide_eq_false hr3]
          exact iteF (hX 10 _ Hx (by omega) (by omega) jx kx)
      · rw [decide_eq_false hi0]
        exact iteF (hX 10 _ H3 (by omega) (by omega) j2 .rfl')
    refine ⟨.ref p, rfl, v, rfl, key _ _ rfl rfl fun mo n4 H4 hmo hn4 j4 k3' => ?_⟩
    have hn4' := hn3.kt (k3'.kt j2.nt)
    refine ⟨p, v, N, mo, n4, rfl, j4, by omega, hn4', ok, hmo, fun kl H5 ks nkl hkl5 hks hkl k4 j5 => ?_⟩
    have hk : KdsOk N ks := fun z hz => (hks z hz).1
    have h39 : ∀ z ∈ ks, z.1 ≤ 39 := fun z hz => (hks z hz).2
    have h40 : ks.length ≤ 40 := by omega
    have hn5 := hn4'.kt (k4.kt j4.nt)
    -- places
    refine ⟨v, rfl, .ref kl, rfl, v, N, kl, ks, rfl, hn5, ok, h9, hkl5, hk, h39, h40, fun tp lo li en' H6 M hM5 hM htp hlo _ _ k5 => ?_⟩
    obtain ⟨lw, hlw, hlt⟩ := hlo
    obtain ⟨L, eL⟩ : ∃ L, L = (allW N ks M).filter isLost := ⟨_, rfl⟩
    have hLr : ∀ r ∈ L, ∃ t x f g, t < M ∧ r = .lost t x f g ∧ LostAt N ks t x f g := fun r hr => all_lost ok hk (eL ▸ hr)
    have hLlen : L.length ≤ 40 := by
      have hp := lost_pw ok hk M
      rw [← eL] at hp
      have nd : (L.map flameR).Nodup := by
        unfold List.Nodup
        rw [List.pairwise_map]
        exact hp
      have h1 := nd.length_le_of_subset (l₂ := List.range ks.length) fun f hf => by
        obtain ⟨r, hr, rfl⟩ := List.mem_map.mp hf
        obtain ⟨t, x, f, g, _, rfl, hl⟩ := hLr r hr
        exact List.mem_range.mpr (lost_lt ok hk hl).1
      rw [List.length_map, List.length_range] at h1
      omega
    rw [← eL] at hlt
    refine ⟨tp, _, 0, .ref lo, rfl, rfl, SqT.of htp, rfl, lo, rfl, ⟨_, SqL.of hlw⟩, fun D1 nD1 => lcm_list L rowT (fun n : Nat => PyData.int (n : Int)) lampW hlw hlt nD1 (by omega) (fun u z x H' Q' R' hz hx hzt k qq => ?_) (fun ws7 H7 hD7 hws7 k7 => ?_)⟩
    · obtain ⟨t, x1, f, g, _, rfl, _⟩ := hLr z (List.mem_of_getElem? hz)
      obtain ⟨tz, rfl, htz⟩ := row_tup hzt
      exact ⟨tz, _, rfl, SqT.of htz, rfl, _, _, rfl, _, _, rfl, _, _, rfl, _, _, rfl, rfl, rfl, .int x1, rfl, qq _ _ .rfl' (.int _)⟩
    rw [tu_nat hws7] at hD7
    have k57 := k5.tr k7
    have j8 := j5.kp k57 (by simp)
    -- times, later
    refine ⟨.ref p, rfl, p, _, rfl, j8, by omega, fun tq H9 c d hc1 hc2 hd2 htq k9' j9 => ⟨tq, _, rfl, SqT.of htq, rfl, _, _, rfl, _, _, rfl, rfl, ?_⟩⟩
    have nklp : kl ≠ p := fun e => j4.tr (e ▸ nkl)
    have t59 : Kt H5 H9 := k57.kt0.tr (k9'.kt j8.nt)
    have hkl9 := (hkl5.kp0 k57).kp k9' (k9'.kt j8.nt) (by simpa using nklp)
    have hn9 := hn5.kt t59
    have c200 : c < 2 ^ 200 := Nat.lt_of_le_of_lt hc2 (by decide)
    have d200 : d < 2 ^ 200 := Nat.lt_trans hd2 (by decide)
    refine ⟨v, rfl, .ref kl, rfl, .int c, rfl, .int d, rfl, v, N, kl, ks, c, d, rfl, hn9, ok, h9, hkl9, h39, h40, hc1, c200, d200, fun tr v' wl H10 htr hw9 hwl9 nwl k8' => ⟨tr, _, rfl, SqT.of htr, rfl, _, _, rfl, _, _, rfl, rfl, ?_⟩⟩
    have okW := tmN_ok (N := N) ok hc1
    have hkW : KdsOk (tmN N c) (shK d (tmK ks c)) := la_kok (E := []) (tmK_ok hk)
    have lW : (shK d (tmK ks c)).length = ks.length := by unfold shK tmK; rw [List.length_map, List.length_map]
    have h40W : (shK d (tmK ks c)).length ≤ 40 := by omega
    have sW : Short (tmN N c) := fun z hz => by
      obtain ⟨y, hy, rfl⟩ := List.mem_map.mp hz
      have h1 := h9 y hy
      have h2 := ok.len y hy
      have h3 : y.1 * (c : Int) ≤ 9 * (c : Int) := Int.mul_le_mul_of_nonneg_right h1 (by omega)
      have h4 : (c : Int) ≤ 10 ^ 57 := by
        have : ((10 ^ 57 : Nat) : Int) = 10 ^ 57 := by decide
        omega
      have h5 : (9 : Int) * 10 ^ 57 < 10 ^ 60 := by decide
      show y.1 * (c : Int) < 10 ^ 60
      omega
    have h60 : ∀ z ∈ shK d (tmK ks c), z.1 < 10 ^ 60 := fun z hz => by
      obtain ⟨y, hy, rfl⟩ := List.mem_map.mp hz
      obtain ⟨x, hx, rfl⟩ := List.mem_map.mp hy
      have h1 := h39 x hx
      have h3 : x.1 * c ≤ 39 * 10 ^ 57 := Nat.mul_le_mul h1 hc2
      have h5 : 39 * 10 ^ 57 + 10 ^ 59 < 10 ^ 60 := by decide
      show x.1 * c + d < 10 ^ 60
      omega
    obtain ⟨N', eN'⟩ : ∃ N', N' = tmN N c := ⟨_, rfl⟩
    obtain ⟨ks', eks'⟩ : ∃ ks', ks' = shK d (tmK ks c) := ⟨_, rfl⟩
    rw [← eN'] at hw9 okW sW hkW
    rw [← eks'] at hwl9 hkW h60 h40W lW
    obtain ⟨sh1, sh2, sh3, sh4⟩ := both_shows okW sW hkW h60 h40W
    have nod := nodict (f := kdD) kd_lay ks'
    have dpb : ∀ {Hx : Hp} {l : Addr}, Tu Hx v' (netD N') → LstOf Hx wl (ks'.map kdD) → Hx l = some (.lst [v', .ref wl]) → Dp K Hx (.ref l) (.list [netD N', .list (ks'.map kdD)]) := fun {Hx l} a ⟨us, b, c⟩ d =>
      .lst (SqL.of d) (.cons (a.dx0.dp (net_noDict N')) (.cons (.lst (SqL.of b) (c.dpl nod)) .nil))
    -- kept
    refine ⟨v', rfl, .ref wl, rfl, by show 2 ≤ sizeLine; decide, fun rl nrl => ?_⟩
    have k9 : Kp [] H10 (upd H10 rl (.lst [v', .ref wl])) := Kp.new nrl
    have hrl : upd H10 rl (.lst [v', .ref wl]) rl = some (.lst [v', .ref wl]) := upd_same
    generalize upd H10 rl (.lst [v', .ref wl]) = H11 at k9 hrl ⊢
    have hw10 := hw9.kt k9.kt0
    have hwl10 := hwl9.kp0 k9
    refine ⟨.ref rl, _, rfl, dpb hw10 hwl10 hrl, sh1, sh2, sh3, sh4, ⟨rl, rfl⟩, ?_⟩
    obtain ⟨tx, etx⟩ : ∃ tx, tx = (PyData.list [netD N', .list (ks'.map kdD)]).shown := ⟨_, rfl⟩
    rw [← etx]
    have k911 := k8'.tr k9
    have hn11 := hn9.kt k911.kt0
    have nD1p : D1 ≠ p := fun e => by
      have := j5.kp k5 (by simp)
      rw [e] at nD1
      exact this.tr nD1
    have hD11 : H11 D1 = some (.lst (natV (L.map lampW))) := k911.lst (by simp) (k9'.lst (by simpa using nD1p) hD7)
    obtain ⟨ad, xn, rfl, hxn11, hln, _⟩ := tnet_at hn11
    have h12 := ok.hi
    have kp11 : Kp [p] H2 H11 := (k2.tr k3').tr (k4.tr (k57.of0.tr (k9'.tr k911.of0)))
    have npH : H p = none := by
      cases z : H p with
      | none => rfl
      | some o => exact absurd np (k0.tr_ p (by rw [z]; exact fun y => by cases y))
    have kH11 : Kp [] H H11 := k0.tr (Kp.drop np (k1.of0.tr kp11))
    have pl : ∀ x, x ∈ L.map lampW ↔ ∃ t f g, LostAt N ks t x f g := fun x => by
      rw [List.mem_map]
      constructor
      · rintro ⟨r, hr, rfl⟩
        obtain ⟨t, x1, f, g, _, rfl, hl⟩ := hLr r hr
        exact ⟨t, f, g, hl⟩
      · rintro ⟨t, f, g, hl⟩
        have htM : t < M := by
          have hM0 : ∀ p ∈ ks, (p.1 : Int) ≤ (M : Int) - 1 - 2 * totN N := fun p hp => by have := hM p hp; omega
          have := lost_le ok hk hl hM0
          omega
        exact ⟨.lost t x f g, by rw [eL]; exact List.mem_filter.mpr ⟨allW_mem.mpr ⟨t, htM, hl⟩, rfl⟩, rfl⟩
    -- for spot in range(len(land))
    refine ⟨.ref ad, rfl, ad, xn, rfl, .inr (SqT.of hxn11), N.length, by rw [hln], by omega, by omega, for_range (n := N.length) (fun u σ H' => ∃ (o7 o15 o16 o17 : Option V), σ = [some (.ref l), some (.int (i : Nat)), some (.ref p), some (.ref ad), some (.ref kl), some (.ref D1), o6, o7, o8, o9, some (.int (c : Nat)), some (.int (d : Nat)), some v', some (.ref wl), some (.str tx), o15, o16, o17] ∧ Kp [] H11 H') ⟨_, _, _, _, rfl, .rfl'⟩ (fun u σ H12 hul hP => ?_) (fun σ H12 hP => ?_)⟩
    · obtain ⟨o7, o15, o16, o17, rfl, k12⟩ := hP
      rw [show (0 + (u : Int)) = (u : Int) by omega]
      have hD12 := k12.lst (by simp) hD11
      obtain ⟨due, edue⟩ : ∃ due : Bool, due = !decide (u ∈ L.map lampW) := ⟨_, rfl⟩
      refine ⟨.int u, rfl, .ref D1, rfl, D1, natV (L.map lampW), rfl, .inl (SqL.of hD12), rfl, natV_flat _, ?_⟩
      show gName 15 (V.bl (!inV (.int ((u : Nat) : Int)) (natV (L.map lampW)))) _ _ _
      rw [inV_natV, ← edue]
      have kH12 := kH11.tr k12
      have w12 := hw10.kt k12.kt0
      have wl12 := hwl10.kp0 k12
      have lN' : N'.length = N.length := by rw [eN']; exact tmN_len
      have due_of : ∀ R, Losses N' ks' R → noneB R u = due := fun R hR => by
        rw [edue, Bool.eq_iff_iff, none_iff hR, eN', eks', lx_great ok hk hc1, Bool.not_eq_true', decide_eq_false_iff_not, pl]
      -- told
      refine ⟨v', rfl, .ref wl, rfl, .int u, rfl, v', N', wl, ks', u, rfl, w12, okW, wl12, hkW, h40W, by omega, kH12.tab _ ht_3, kH12.tab _ ht2_3, kH12.tab _ ht3_3, kH12.tab _ ht4_3, fun H13 R1 hR1 k13 => ?_⟩
      rw [due_of R1 hR1]
      have kH13 := kH12.tr k13
      refine ⟨.int u, rfl, .ref wl, rfl, v', rfl, v', N', wl, ks', u, rfl, w12.kt k13.kt0, okW, wl12.kp0 k13, hkW, h40W, by omega, kH13.tab _ ht_3, kH13.tab _ ht2_3, kH13.tab _ ht3_3, kH13.tab _ ht4_3, fun H14 R2 hR2 k14 => ?_⟩
      rw [due_of R2 hR2]
      refine ⟨by show 2 ≤ sizeLine; decide, fun tl ntl => ?_⟩
      generalize e15 : upd H14 tl _ = H15
      have k15 : Kp [] H14 H15 := by rw [← e15]; exact Kp.new ntl
      have htl : H15 tl = some (.lst [.bl due, .bl due]) := by rw [← e15]; exact upd_same
      -- if told != [due, due] or ..
      refine ⟨.ref tl, rfl, .bl due, rfl, .bl due, rfl, by show 2 ≤ sizeLine; decide, fun dl ndl => ?_⟩
      generalize e16 : upd H15 dl _ = H16
      have k16 : Kp [] H15 H16 := by rw [← e16]; exact Kp.new ndl
      have hdl : H16 dl = some (.lst [.bl due, .bl due]) := by rw [← e16]; exact upd_same
      have htl16 := k16.lst (by simp) htl
      have dpt : ∀ {Hx : Hp} {y : Addr}, Hx y = some (.lst [.bl due, .bl due]) → Dp K Hx (.ref y) (.list [.bool due, .bool due]) := fun {Hx y} h => .lst (SqL.of h) (.cons (.bl _) (.cons (.bl _) .nil))
      refine ⟨_, _, dpt htl16, dpt hdl, by cases due <;> rfl, by cases due <;> rfl, _, rfl, ?_⟩
      rw [SeqAt.eqv_refl _ (by cases due <;> rfl)]
      refine iteF ?_
      refine ⟨.ref tl, rfl, tl, rfl, ⟨_, SqL.of htl16⟩, fun D3 nD3 => lcf_list [due, due] PyData.bool PyData.bool (fun _ => none) htl16 (.cons (.bl _) (.cons (.bl _) .nil)) nD3 (by show 2 ≤ 1000000; decide) (fun y z x H' Q' R' hz hx hzt k qq nn => ?_) (fun ws17 H17 hD17 hws17 k17 => ?_)⟩
      · cases hzt
        exact ⟨rfl, .bl z, rfl, .bl z, .ty "bool", _, _, _, rfl, .ty _, tyx_of (show Dx [] H' (.bl z) (.bool z) from .bl _), kit_data (d := .bool z) (by decide), _, rfl, iteF (nn _ rfl .rfl')⟩
      have e0 : [due, due].filterMap (fun _ => (none : Option Bool)) = [] := List.filterMap_eq_nil_iff.mpr fun _ _ => rfl
      rw [e0] at hws17
      cases hws17
      refine ⟨Nat.zero_le _, fun eb neb => ?_⟩
      generalize e18 : upd H17 eb _ = H18
      have k18 : Kp [] H17 H18 := by rw [← e18]; exact Kp.new neb
      have heb : H18 eb = some (.lst []) := by rw [← e18]; exact upd_same
      refine ⟨.list [], .list [], .lst (SqL.of (k18.lst (by simp) hD17)) .nil, .lst (SqL.of heb) .nil, by decide, by decide, _, rfl, ?_⟩
      rw [eqv_nil]
      refine iteF ?_
      -- if repr(..) != kept
      have k1218 := k13.tr (k14.tr (k15.tr (k16.tr (k17.tr k18))))
      refine ⟨v', rfl, .ref wl, rfl, by show 2 ≤ sizeLine; decide, fun rl2 nrl2 => ?_⟩
      generalize e19 : upd H18 rl2 _ = H19
      have k19 : Kp [] H18 H19 := by rw [← e19]; exact Kp.new nrl2
      have hrl2 : H19 rl2 = some (.lst [v', .ref wl]) := by rw [← e19]; exact upd_same
      have k1219 := k1218.tr k19
      refine ⟨.ref rl2, _, rfl, dpb (w12.kt k1219.kt0) (wl12.kp0 k1219) hrl2, sh1, sh2, sh3, sh4, ⟨rl2, rfl⟩, ?_⟩
      rw [← etx]
      refine ⟨.str tx, rfl, rfl, _, rfl, ?_⟩
      rw [decide_eq_true (Eq.refl _)]
      exact iteF ⟨_, _, _, _, rfl, k12.tr k1219⟩
    · obtain ⟨o7, o15, o16, o17, rfl, k12⟩ := hP
      exact ⟨_, _, _, _, _, _, _, _, _, _, _, _, _, _, _, _, _, rfl, kH11.tr k12⟩
  · obtain ⟨o1, o2, o3, o4, o5, o6, o7, o8, o9, o10, o11, o12, o13, o14, o15, o16, o17, rfl, k0⟩ := hP
    exact q H1
end

/-! ### the head -/
def hex (_ : PySem.W.Frag) : Bool := true
def hd_is_whole : He.DefD := ⟨("is_whole", none), "is_whole", "is_whole", defArgs s_is_whole, defBody s_is_whole, defScope s_is_whole, [], []⟩
def hd_is_pair : He.DefD := ⟨("is_pair", none), "is_pair", "is_pair", defArgs s_is_pair, defBody s_is_pair, defScope s_is_pair, [], []⟩
def hd_is_number_of_many : He.DefD := ⟨("is_number_of_many", none), "is_number_of_many", "is_number_of_many", defArgs s_is_number_of_many, defBody s_is_number_of_many, defScope s_is_number_of_many, [], []⟩
def hd_is_lamp_of_many : He.DefD := ⟨("is_lamp_of_many", none), "is_lamp_of_many", "is_lamp_of_many", defArgs s_is_lamp_of_many, defBody s_is_lamp_of_many, defScope s_is_lamp_of_many, [], []⟩
def hd_is_net : He.DefD := ⟨("is_net", none), "is_net", "is_net", defArgs s_is_net, defBody s_is_net, defScope s_is_net, [], []⟩
def hd_need_net : He.DefD := ⟨("need_net", none), "need_net", "need_net", defArgs s_need_net, defBody s_need_net, defScope s_need_net, [], []⟩
def hd_need_lamp : He.DefD := ⟨("need_lamp", none), "need_lamp", "need_lamp", defArgs s_need_lamp, defBody s_need_lamp, defScope s_need_lamp, [], []⟩
def hd_is_kindling_of_many : He.DefD := ⟨("is_kindling_of_many", none), "is_kindling_of_many", "is_kindling_of_many", defArgs s_is_kindling_of_many, defBody s_is_kindling_of_many, defScope s_is_kindling_of_many, [], []⟩
def hd_are_kindlings : He.DefD := ⟨("are_kindlings", none), "are_kindlings", "are_kindlings", defArgs s_are_kindlings, defBody s_are_kindlings, defScope s_are_kindlings, [], []⟩
def hd_way_of : He.DefD := ⟨("way_of", none), "way_of", "way_of", defArgs s_way_of, defBody s_way_of, defScope s_way_of, [], []⟩
def hd_need_kindlings : He.DefD := ⟨("need_kindlings", none), "need_kindlings", "need_kindlings", defArgs s_need_kindlings, defBody s_need_kindlings, defScope s_need_kindlings, [], []⟩
def hd_lights_of : He.DefD := ⟨("lights_of", none), "lights_of", "lights_of", defArgs s_lights_of, defBody s_lights_of, defScope s_lights_of, [], []⟩
def hd_clash_on_lamp : He.DefD := ⟨("clash_on_lamp", none), "clash_on_lamp", "clash_on_lamp", defArgs s_clash_on_lamp, defBody s_clash_on_lamp, defScope s_clash_on_lamp, [], []⟩
def hd_first_clash : He.DefD := ⟨("first_clash", none), "first_clash", "first_clash", defArgs s_first_clash, defBody s_first_clash, defScope s_first_clash, [], []⟩
def hd_first_clashes : He.DefD := ⟨("first_clashes", none), "first_clashes", "first_clashes", defArgs s_first_clashes, defBody s_first_clashes, defScope s_first_clashes, [], []⟩
def hd_losses_by_lights : He.DefD := ⟨("losses_by_lights", none), "losses_by_lights", "losses_by_lights", defArgs s_losses_by_lights, defBody s_losses_by_lights, defScope s_losses_by_lights, [], []⟩
def hd_lights_of_all : He.DefD := ⟨("lights_of_all", none), "lights_of_all", "lights_of_all", defArgs s_lights_of_all, defBody s_lights_of_all, defScope s_lights_of_all, [], []⟩
def hd_losses : He.DefD := ⟨("losses", none), "losses", "losses", defArgs s_losses, defBody s_losses, defScope s_losses, [], []⟩
def hd_none_lost_at : He.DefD := ⟨("none_lost_at", none), "none_lost_at", "none_lost_at", defArgs s_none_lost_at, defBody s_none_lost_at, defScope s_none_lost_at, [], []⟩
def hd_law_jar : He.DefD := ⟨("_law_jar", none), "_law_jar", "_law_jar", defArgs s_law_jar, defBody s_law_jar, defScope s_law_jar, [], []⟩
def hd_law_dip : He.DefD := ⟨("_law_dip", none), "_law_dip", "_law_dip", defArgs s_law_dip, defBody s_law_dip, defScope s_law_dip, [], []⟩
def hd_law_lengths : He.DefD := ⟨("_law_lengths", none), "_law_lengths", "_law_lengths", defArgs s_law_lengths, defBody s_law_lengths, defScope s_law_lengths, [], []⟩
def hd_law_land : He.DefD := ⟨("_law_land", none), "_law_land", "_law_land", defArgs s_law_land, defBody s_law_land, defScope s_law_land, [], []⟩
def hd_law_sparks : He.DefD := ⟨("_law_sparks", none), "_law_sparks", "_law_sparks", defArgs s_law_sparks, defBody s_law_sparks, defScope s_law_sparks, [], []⟩
def hd_law_arrivals : He.DefD := ⟨("_law_arrivals", none), "_law_arrivals", "_law_arrivals", defArgs s_law_arrivals, defBody s_law_arrivals, defScope s_law_arrivals, [], []⟩
def hd_law_walk : He.DefD := ⟨("_law_walk", none), "_law_walk", "_law_walk", defArgs s_law_walk, defBody s_law_walk, defScope s_law_walk, [], []⟩
def hd_law_times : He.DefD := ⟨("_law_times", none), "_law_times", "_law_times", defArgs s_law_times, defBody s_law_times, defScope s_law_times, [], []⟩
def hd_law_great : He.DefD := ⟨("_law_great", none), "_law_great", "_law_great", defArgs s_law_great, defBody s_law_great, defScope s_law_great, [], []⟩
def hd_law : He.DefD := ⟨("law", none), "law", "law", defArgs s_law, defBody s_law, defScope s_law, [], []⟩
def hfn : List He.DefD := [hd_is_whole, hd_is_pair, hd_is_number_of_many, hd_is_lamp_of_many, hd_is_net, hd_need_net, hd_need_lamp, hd_is_kindling_of_many, hd_are_kindlings, hd_way_of, hd_need_kindlings, hd_lights_of, hd_clash_on_lamp, hd_first_clash, hd_first_clashes, hd_losses_by_lights, hd_lights_of_all, hd_losses, hd_none_lost_at, hd_law_jar, hd_law_dip, hd_law_lengths, hd_law_land, hd_law_sparks, hd_law_arrivals, hd_law_walk, hd_law_times, hd_law_great, hd_law]
def hfa : List He.Fa := [.glo "is_whole", .glo "is_pair", .glo "is_number_of_many", .glo "is_lamp_of_many", .glo "is_net", .glo "need_net", .glo "need_lamp", .glo "is_kindling_of_many", .glo "are_kindlings", .glo "way_of", .glo "need_kindlings", .glo "lights_of", .glo "clash_on_lamp", .glo "first_clash", .glo "first_clashes", .glo "losses_by_lights", .glo "lights_of_all", .glo "losses", .glo "none_lost_at", .glo "_law_jar", .glo "_law_dip", .glo "_law_lengths", .glo "_law_land", .glo "_law_sparks", .glo "_law_arrivals", .glo "_law_walk", .glo "_law_times", .glo "_law_great", .glo "law", .free "all", .free "bool", .free "enumerate", .free "int", .free "isinstance", .free "len", .free "list", .free "max", .free "min", .free "range", .free "repr", .free "sorted", .free "sum", .free "tuple", .int "MOST_LAMPS" 12, .int "MOST_KINDLINGS" 40, .glo "EmberError", .glo "NoNet", .glo "NoKindlings", .glo "NoLamp"]
def htf : List (Str × Option Str) := [("none_lost_at", none), ("is_net", none), ("lights_of", none), ("are_kindlings", none)]
abbrev hR : PySem.W.OpenRow := PySem.W.OpenLaw.row PySem.Challenge.rw_emberlane_k57_where_none_is_lost
abbrev hk : PySem.W.Hook := He.hookX 5 hfa hfn [] htf hex
def hob (s : PySem.W.SharedT) : He.AlX := He.obsX 5 hfa hfn [] htf hex (HandSHeadRun.getT s)
theorem hob_eq (s : PySem.W.SharedT) : hob s = hk.obs s.abs := He.obsX_eq (HandSHeadRun.getT_eq s)
def hloose : List PySem.Str := [("EmberError" : PySem.Str), ("MOST_KINDLINGS" : PySem.Str), ("MOST_LAMPS" : PySem.Str), ("NoKindlings" : PySem.Str), ("NoLamp" : PySem.Str), ("NoNet" : PySem.Str), ("_law_arrivals" : PySem.Str), ("_law_dip" : PySem.Str), ("_law_great" : PySem.Str), ("_law_jar" : PySem.Str), ("_law_land" : PySem.Str), ("_law_lengths" : PySem.Str), ("_law_sparks" : PySem.Str), ("_law_times" : PySem.Str), ("_law_walk" : PySem.Str), ("are_kindlings" : PySem.Str), ("clash_on_lamp" : PySem.Str), ("first_clash" : PySem.Str), ("first_clashes" : PySem.Str), ("is_kindling_of_many" : PySem.Str), ("is_lamp_of_many" : PySem.Str), ("is_net" : PySem.Str), ("is_number_of_many" : PySem.Str), ("is_pair" : PySem.Str), ("is_whole" : PySem.Str), ("lights_of" : PySem.Str), ("lights_of_all" : PySem.Str), ("losses" : PySem.Str), ("losses_by_lights" : PySem.Str), ("need_kindlings" : PySem.Str), ("need_lamp" : PySem.Str), ("need_net" : PySem.Str), ("none_lost_at" : PySem.Str), ("way_of" : PySem.Str)]
theorem hrun (w : World) : HandSHeadRun.RunEq hR (PySem.W.view hR.prog [41]) hk hob 40000 hloose w := by
  intro os
  kernel_rfl
theorem hfacts {w : World} {K : PySem.W.Frag} {h : Heap} {mg : Str → Option Value} {f : Addr} (X : K.In h) (G : h.Ns mainGlobals mg) (hfa_ : mg ("law" : Str) = some (.ref f)) (c : He.SaysX hfa hfn [] htf hex w h K) :
    ∃ a : Ad, Tx K mg a ∧ a.a_law = f ∧ (a.cd_none_lost_at, a.tb_none_lost_at) = He.cT K ("none_lost_at", none) ∧ (a.cd_is_net, a.tb_is_net) = He.cT K ("is_net", none) ∧ (a.cd_lights_of, a.tb_lights_of) = He.cT K ("lights_of", none) ∧ (a.cd_are_kindlings, a.tb_are_kindlings) = He.cT K ("are_kindlings", none) := by
  have cd : He.SaysD hfa hfn K := c.t.d
  obtain ⟨d0, F0⟩ := cd.def_ 0 (d := hd_is_whole) rfl
  obtain ⟨d1, F1⟩ := cd.def_ 1 (d := hd_is_pair) rfl
  obtain ⟨d2, F2⟩ := cd.def_ 2 (d := hd_is_number_of_many) rfl
  obtain ⟨d3, F3⟩ := cd.def_ 3 (d := hd_is_lamp_of_many) rfl
  obtain ⟨d4, F4⟩ := cd.def_ 4 (d := hd_is_net) rfl
  obtain ⟨d5, F5⟩ := cd.def_ 5 (d := hd_need_net) rfl
  obtain ⟨d6, F6⟩ := cd.def_ 6 (d := hd_need_lamp) rfl
  obtain ⟨d7, F7⟩ := cd.def_ 7 (d := hd_is_kindling_of_many) rfl
  obtain ⟨d8, F8⟩ := cd.def_ 8 (d := hd_are_kindlings) rfl
  obtain ⟨d9, F9⟩ := cd.def_ 9 (d := hd_way_of) rfl
  obtain ⟨d10, F10⟩ := cd.def_ 10 (d := hd_need_kindlings) rfl
  obtain ⟨d11, F11⟩ := cd.def_ 11 (d := hd_lights_of) rfl
  obtain ⟨d12, F12⟩ := cd.def_ 12 (d := hd_clash_on_lamp) rfl
  obtain ⟨d13, F13⟩ := cd.def_ 13 (d := hd_first_clash) rfl
  obtain ⟨d14, F14⟩ := cd.def_ 14 (d := hd_first_clashes) rfl
  obtain ⟨d15, F15⟩ := cd.def_ 15 (d := hd_losses_by_lights) rfl
  obtain ⟨d16, F16⟩ := cd.def_ 16 (d := hd_lights_of_all) rfl
  obtain ⟨d17, F17⟩ := cd.def_ 17 (d := hd_losses) rfl
  obtain ⟨d18, F18⟩ := cd.def_ 18 (d := hd_none_lost_at) rfl
  obtain ⟨d19, F19⟩ := cd.def_ 19 (d := hd_law_jar) rfl
  obtain ⟨d20, F20⟩ := cd.def_ 20 (d := hd_law_dip) rfl
  obtain ⟨d21, F21⟩ := cd.def_ 21 (d := hd_law_lengths) rfl
  obtain ⟨d22, F22⟩ := cd.def_ 22 (d := hd_law_land) rfl
  obtain ⟨d23, F23⟩ := cd.def_ 23 (d := hd_law_sparks) rfl
  obtain ⟨d24, F24⟩ := cd.def_ 24 (d := hd_law_arrivals) rfl
  obtain ⟨d25, F25⟩ := cd.def_ 25 (d := hd_law_walk) rfl
  obtain ⟨d26, F26⟩ := cd.def_ 26 (d := hd_law_times) rfl
  obtain ⟨d27, F27⟩ := cd.def_ 27 (d := hd_law_great) rfl
  obtain ⟨d28, F28⟩ := cd.def_ 28 (d := hd_law) rfl
  have e0 : f = He.ga K "law" := by
    have e := hfa_.symm.trans (He.glo_ok X G (cd.fact 28 (f := .glo "law") rfl))
    cases e
    rfl
  refine ⟨{ a_is_whole := He.fAd K hd_is_whole.at_, f_is_whole := d0, a_is_pair := He.fAd K hd_is_pair.at_, f_is_pair := d1, a_is_number_of_many := He.fAd K hd_is_number_of_many.at_, f_is_number_of_many := d2, a_is_lamp_of_many := He.fAd K hd_is_lamp_of_many.at_, f_is_lamp_of_many := d3, a_is_net := He.fAd K hd_is_net.at_, f_is_net := d4, a_need_net := He.fAd K hd_need_net.at_, f_need_net := d5, a_need_lamp := He.fAd K hd_need_lamp.at_, f_need_lamp := d6, a_is_kindling_of_many := He.fAd K hd_is_kindling_of_many.at_, f_is_kindling_of_many := d7, a_are_kindlings := He.fAd K hd_are_kindlings.at_, f_are_kindlings := d8, a_way_of := He.fAd K hd_way_of.at_, f_way_of := d9, a_need_kindlings := He.fAd K hd_need_kindlings.at_, f_need_kindlings := d10, a_lights_of := He.fAd K hd_lights_of.at_, f_lights_of := d11, a_clash_on_lamp := He.fAd K hd_clash_on_lamp.at_, f_clash_on_lamp := d12, a_first_clash := He.fAd K hd_first_clash.at_, f_first_clash := d13, a_first_clashes := He.fAd K hd_first_clashes.at_, f_first_clashes := d14, a_losses_by_lights := He.fAd K hd_losses_by_lights.at_, f_losses_by_lights := d15, a_lights_of_all := He.fAd K hd_lights_of_all.at_, f_lights_of_all := d16, a_losses := He.fAd K hd_losses.at_, f_losses := d17, a_none_lost_at := He.fAd K hd_none_lost_at.at_, f_none_lost_at := d18, a_law_jar := He.fAd K hd_law_jar.at_, f_law_jar := d19, a_law_dip := He.fAd K hd_law_dip.at_, f_law_dip := d20, a_law_lengths := He.fAd K hd_law_lengths.at_, f_law_lengths := d21, a_law_land := He.fAd K hd_law_land.at_, f_law_land := d22, a_law_sparks := He.fAd K hd_law_sparks.at_, f_law_sparks := d23, a_law_arrivals := He.fAd K hd_law_arrivals.at_, f_law_arrivals := d24, a_law_walk := He.fAd K hd_law_walk.at_, f_law_walk := d25, a_law_times := He.fAd K hd_law_times.at_, f_law_times := d26, a_law_great := He.fAd K hd_law_great.at_, f_law_great := d27, a_law := He.fAd K hd_law.at_, f_law := d28, c_EmberError := He.ga K "EmberError", c_NoNet := He.ga K "NoNet", c_NoKindlings := He.ga K "NoKindlings", c_NoLamp := He.ga K "NoLamp", cd_none_lost_at := He.codeOf K ("none_lost_at", none), tb_none_lost_at := (He.cT K ("none_lost_at", none)).2, cd_is_net := He.codeOf K ("is_net", none), tb_is_net := (He.cT K ("is_net", none)).2, cd_lights_of := He.codeOf K ("lights_of", none), tb_lights_of := (He.cT K ("lights_of", none)).2, cd_are_kindlings := He.codeOf K ("are_kindlings", none), tb_are_kindlings := (He.cT K ("are_kindlings", none)).2 }, ?_, e0.symm, rfl, rfl, rfl, rfl⟩
  exact ⟨Df.mk' F0 (He.glo_ok X G (cd.fact 0 (f := .glo "is_whole") rfl)) (fun _ _ _ _ _ _ us hl => match us, hl with | [_], _ => rfl),
    Df.mk' F1 (He.glo_ok X G (cd.fact 1 (f := .glo "is_pair") rfl)) (fun _ _ _ _ _ _ us hl => match us, hl with | [_], _ => rfl),
    Df.mk' F2 (He.glo_ok X G (cd.fact 2 (f := .glo "is_number_of_many") rfl)) (fun _ _ _ _ _ _ us hl => match us, hl with | [_, _], _ => rfl),
    Df.mk' F3 (He.glo_ok X G (cd.fact 3 (f := .glo "is_lamp_of_many") rfl)) (fun _ _ _ _ _ _ us hl => match us, hl with | [_, _], _ => rfl),
    Df.mk' F4 (He.glo_ok X G (cd.fact 4 (f := .glo "is_net") rfl)) (fun _ _ _ _ _ _ us hl => match us, hl with | [_], _ => rfl),
    Df.mk' F5 (He.glo_ok X G (cd.fact 5 (f := .glo "need_net") rfl)) (fun _ _ _ _ _ _ us hl => match us, hl with | [_], _ => rfl),
    Df.mk' F6 (He.glo_ok X G (cd.fact 6 (f := .glo "need_lamp") rfl)) (fun _ _ _ _ _ _ us hl => match us, hl with | [_, _], _ => rfl),
    Df.mk' F7 (He.glo_ok X G (cd.fact 7 (f := .glo "is_kindling_of_many") rfl)) (fun _ _ _ _ _ _ us hl => match us, hl with | [_, _], _ => rfl),
    Df.mk' F8 (He.glo_ok X G (cd.fact 8 (f := .glo "are_kindlings") rfl)) (fun _ _ _ _ _ _ us hl => match us, hl with | [_, _], _ => rfl),
    Df.mk' F9 (He.glo_ok X G (cd.fact 9 (f := .glo "way_of") rfl)) (fun _ _ _ _ _ _ us hl => match us, hl with | [_, _], _ => rfl),
    Df.mk' F10 (He.glo_ok X G (cd.fact 10 (f := .glo "need_kindlings") rfl)) (fun _ _ _ _ _ _ us hl => match us, hl with | [_, _], _ => rfl),
    Df.mk' F11 (He.glo_ok X G (cd.fact 11 (f := .glo "lights_of") rfl)) (fun _ _ _ _ _ _ us hl => match us, hl with | [_, _], _ => rfl),
    Df.mk' F12 (He.glo_ok X G (cd.fact 12 (f := .glo "clash_on_lamp") rfl)) (fun _ _ _ _ _ _ us hl => match us, hl with | [_, _, _, _], _ => rfl),
    Df.mk' F13 (He.glo_ok X G (cd.fact 13 (f := .glo "first_clash") rfl)) (fun _ _ _ _ _ _ us hl => match us, hl with | [_, _, _, _], _ => rfl),
    Df.mk' F14 (He.glo_ok X G (cd.fact 14 (f := .glo "first_clashes") rfl)) (fun _ _ _ _ _ _ us hl => match us, hl with | [_, _], _ => rfl),
    Df.mk' F15 (He.glo_ok X G (cd.fact 15 (f := .glo "losses_by_lights") rfl)) (fun _ _ _ _ _ _ us hl => match us, hl with | [_, _], _ => rfl),
    Df.mk' F16 (He.glo_ok X G (cd.fact 16 (f := .glo "lights_of_all") rfl)) (fun _ _ _ _ _ _ us hl => match us, hl with | [_, _], _ => rfl),
    Df.mk' F17 (He.glo_ok X G (cd.fact 17 (f := .glo "losses") rfl)) (fun _ _ _ _ _ _ us hl => match us, hl with | [_, _], _ => rfl),
    Df.mk' F18 (He.glo_ok X G (cd.fact 18 (f := .glo "none_lost_at") rfl)) (fun _ _ _ _ _ _ us hl => match us, hl with | [_, _, _], _ => rfl),
    Df.mk' F19 (He.glo_ok X G (cd.fact 19 (f := .glo "_law_jar") rfl)) (fun _ _ _ _ _ _ us hl => match us, hl with | [_, _], _ => rfl),
    Df.mk' F20 (He.glo_ok X G (cd.fact 20 (f := .glo "_law_dip") rfl)) (fun _ _ _ _ _ _ us hl => match us, hl with | [_, _], _ => rfl),
    Df.mk' F21 (He.glo_ok X G (cd.fact 21 (f := .glo "_law_lengths") rfl)) (fun _ _ _ _ _ _ us hl => match us, hl with | [_, _], _ => rfl),
    Df.mk' F22 (He.glo_ok X G (cd.fact 22 (f := .glo "_law_land") rfl)) (fun _ _ _ _ _ _ us hl => match us, hl with | [_, _, _], _ => rfl),
    Df.mk' F23 (He.glo_ok X G (cd.fact 23 (f := .glo "_law_sparks") rfl)) (fun _ _ _ _ _ _ us hl => match us, hl with | [_, _, _], _ => rfl),
    Df.mk' F24 (He.glo_ok X G (cd.fact 24 (f := .glo "_law_arrivals") rfl)) (fun _ _ _ _ _ _ us hl => match us, hl with | [_, _, _, _], _ => rfl),
    Df.mk' F25 (He.glo_ok X G (cd.fact 25 (f := .glo "_law_walk") rfl)) (fun _ _ _ _ _ _ us hl => match us, hl with | [_, _], _ => rfl),
    Df.mk' F26 (He.glo_ok X G (cd.fact 26 (f := .glo "_law_times") rfl)) (fun _ _ _ _ _ _ us hl => match us, hl with | [_], _ => rfl),
    Df.mk' F27 (He.glo_ok X G (cd.fact 27 (f := .glo "_law_great") rfl)) (fun _ _ _ _ _ _ us hl => match us, hl with | [_, _, _, _], _ => rfl),
    Df.mk' F28 (He.glo_ok X G (cd.fact 28 (f := .glo "law") rfl)) (fun _ _ _ _ _ _ us hl => match us, hl with | [_], _ => rfl),
    He.free_ok X G (cd.fact 29 (f := .free "all") rfl),
    He.free_ok X G (cd.fact 30 (f := .free "bool") rfl),
    He.free_ok X G (cd.fact 31 (f := .free "enumerate") rfl),
    He.free_ok X G (cd.fact 32 (f := .free "int") rfl),
    He.free_ok X G (cd.fact 33 (f := .free "isinstance") rfl),
    He.free_ok X G (cd.fact 34 (f := .free "len") rfl),
    He.free_ok X G (cd.fact 35 (f := .free "list") rfl),
    He.free_ok X G (cd.fact 36 (f := .free "max") rfl),
    He.free_ok X G (cd.fact 37 (f := .free "min") rfl),
    He.free_ok X G (cd.fact 38 (f := .free "range") rfl),
    He.free_ok X G (cd.fact 39 (f := .free "repr") rfl),
    He.free_ok X G (cd.fact 40 (f := .free "sorted") rfl),
    He.free_ok X G (cd.fact 41 (f := .free "sum") rfl),
    He.free_ok X G (cd.fact 42 (f := .free "tuple") rfl),
    He.int_ok X G (cd.fact 43 (f := .int "MOST_LAMPS" 12) rfl),
    He.int_ok X G (cd.fact 44 (f := .int "MOST_KINDLINGS" 40) rfl),
    codeIs_of (p := hd_none_lost_at.at_) (x := "none_lost_at") (qual := "none_lost_at") (st := s_none_lost_at) (funOf F18),
    codeIs_of (p := hd_is_net.at_) (x := "is_net") (qual := "is_net") (st := s_is_net) (funOf F4),
    codeIs_of (p := hd_lights_of.at_) (x := "lights_of") (qual := "lights_of") (st := s_lights_of) (funOf F11),
    codeIs_of (p := hd_are_kindlings.at_) (x := "are_kindlings") (qual := "are_kindlings") (st := s_are_kindlings) (funOf F8),
    He.glo_ok X G (cd.fact 45 (f := .glo "EmberError") rfl),
    He.glo_ok X G (cd.fact 46 (f := .glo "NoNet") rfl),
    He.glo_ok X G (cd.fact 47 (f := .glo "NoKindlings") rfl),
    He.glo_ok X G (cd.fact 48 (f := .glo "NoLamp") rfl)⟩
theorem law_all {w : World} {K : PySem.W.Frag} {h : Heap} {mg : Str → Option Value} {f : Addr} (X : K.In h) (G : h.Ns mainGlobals mg) (hm : mg ("law" : Str) = some (.ref f)) (c : He.SaysX hfa hfn [] htf hex w h K) : LawG PySem.Challenge.rw_emberlane_k57_where_none_is_lost w K 17 63 "script" mg f h := by
  obtain ⟨a, T, rfl, ec4, ec, ec2, ec3⟩ := hfacts X G hm c
  have m : (("is_net", none) : Str × Option Str) ∈ htf := by simp [htf]
  have m2 : (("lights_of", none) : Str × Option Str) ∈ htf := by simp [htf]
  have m3 : (("are_kindlings", none) : Str × Option Str) ∈ htf := by simp [htf]
  have m4 : (("none_lost_at", none) : Str × Option Str) ∈ htf := by simp [htf]
  refine ⟨a.f_law, [(a.cd_is_net, a.tb_is_net), (a.cd_lights_of, a.tb_lights_of), (a.cd_are_kindlings, a.tb_are_kindlings), (a.cd_none_lost_at, a.tb_none_lost_at)], spLaw (K := K) a.tb_is_net a.tb_lights_of a.tb_are_kindlings a.tb_none_lost_at, fun p hp => ?_, fun s u => ?_, fun H b ns hn _ hT hS => ?_, fun base XB GB TB => id (ok_law T (TB (a.cd_is_net, a.tb_is_net) (by simp)) (TB (a.cd_lights_of, a.tb_lights_of) (by simp)) (TB (a.cd_are_kindlings, a.tb_are_kindlings) (by simp)) (TB (a.cd_none_lost_at, a.tb_none_lost_at) (by simp)))⟩
  · simp only [List.mem_cons, List.not_mem_nil, or_false] at hp
    rcases hp with rfl | rfl | rfl | rfl
    · rw [ec]
      exact ⟨c.empty _ m, c.out _ m, PySem.W.codeHd_of_K X (c.hd _ m)⟩
    · rw [ec2]
      exact ⟨c.empty _ m2, c.out _ m2, PySem.W.codeHd_of_K X (c.hd _ m2)⟩
    · rw [ec3]
      exact ⟨c.empty _ m3, c.out _ m3, PySem.W.codeHd_of_K X (c.hd _ m3)⟩
    · rw [ec4]
      exact ⟨c.empty _ m4, c.out _ m4, PySem.W.codeHd_of_K X (c.hd _ m4)⟩
  · obtain ⟨oc, od, kV, doc, pm, an, cdv, ct, osl, e, lk, hcd⟩ := T.law.F.ex
    rw [e]
    exact BindsTo.of_eq rfl
  · exact ⟨b, ns, rfl, hS, hn, ⟨#[], hT (a.cd_is_net, a.tb_is_net) (by simp), by simp [TriplesOk]⟩, ⟨#[], hT (a.cd_lights_of, a.tb_lights_of) (by simp), by simp [TriplesOk]⟩, ⟨#[], hT (a.cd_are_kindlings, a.tb_are_kindlings) (by simp), by simp [TriplesOk]⟩, ⟨#[], hT (a.cd_none_lost_at, a.tb_none_lost_at) (by simp), by simp [TriplesOk]⟩, fun H' => rfl⟩
end K57
open PySem PySem.W PySem.Calls PyProof.Rows
set_option maxRecDepth 100000 in
set_option maxHeartbeats 0 in
theorem PySem.Challenge.cw_emberlane_k57_where_none_is_lost_holds : PySem.Challenge.rw_emberlane_k57_where_none_is_lost.Holds := by
  w_on; o_law
  refine HandSHeadRun.head_any (r := OpenLaw.row PySem.Challenge.rw_emberlane_k57_where_none_is_lost) (q := view (OpenLaw.row PySem.Challenge.rw_emberlane_k57_where_none_is_lost).prog [41]) (H := K57.hk) (ob := K57.hob) (M := 40000) (loose := K57.hloose) (d := HandSHeadRun.topDef (OpenLaw.row PySem.Challenge.rw_emberlane_k57_where_none_is_lost).prog 41) (kwd := []) K57.hob_eq
    (by kernel_rfl) (fun s => by kernel_rfl) K57.hrun (by kernel_rfl) (by kernel_rfl) (by kernel_rfl) (by rfl) (by first | assumption | decide +kernel) (by decide +kernel) ⟨rfl, rfl, rfl, rfl, rfl, by decide +kernel⟩ ?hw ?hc
  case hw => w_witness2
  case hc =>
    refine Em.walkG (l := PySem.Challenge.rw_emberlane_k57_where_none_is_lost) (n := 63) (k := 17) (x := "script") rfl (by decide) (by kernel_rfl) ⟨rfl, by decide, by decide⟩ ?F
    intro w mg fa h Y G hmg0
    obtain ⟨K, KX, c⟩ := Y
    have hmg : mg ("law" : PySem.Str) = some (.ref fa) := by
      have e : (HandSHeadRun.topDef (OpenLaw.row PySem.Challenge.rw_emberlane_k57_where_none_is_lost).prog 41).name = ("law" : PySem.Str) := by kernel_rfl
      rw [← e]
      exact hmg0
    exact ⟨K, KX, K57.law_all KX G hmg c⟩


