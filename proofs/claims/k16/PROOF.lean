import PyProof.Rows.All
import Wide.All
import OpenK.AllK
import Wide.FinOn
import HandS.ForMost
import HandS.ForExc
import HandS.IsInst
import HandS.AnyAll
import HandS.Nested
import HandS.Wide
import HandS.TupAny
import HandS.Flow
import HandS.Conv
import HandS.HeadHook4
import HandS.HeadWalk
import HandS.EndTab
import HandS.Walk
import HandS.Zip
import HandS.Iter
import KE.GoesEnum
import KE.GoesMore
import HandS.Codes
import HandS.Evl
import HandS.Defaults
import HandS.SortInts
import HandS.Head0
import HandS.Head1
import HandS.Head2
import PySem.Challenge.RW_emberlane_k16_what_burns
set_option Elab.async false
set_option linter.all false
set_option maxRecDepth 100000
set_option maxHeartbeats 4000000
/-! Quiet code: small defs that only read, so that a generator expression may call them. -/
namespace Qt
open PySem PySem.Spec PyProof.Rows L2

abbrev Up (h g : Heap) : Prop := ∀ b o, h.get? b = some o → g.get? b = some o
theorem Up.rfl' {h : Heap} : Up h h := fun _ _ e => e
theorem Up.tr {h g k : Heap} (a : Up h g) (b : Up g k) : Up h k := fun c o e => b c o (a c o e)
theorem up_lt {h g : Heap} (a : Up h g) {L : Addr} (hL : g.objs.size ≤ L) : h.get? L = none := by
  cases q : h.get? L with
  | none => rfl
  | some o => exact absurd (Nat.lt_of_lt_of_le (Heap.lt_size (a _ _ q)) hL) (Nat.lt_irrefl _)

/-- where quiet code stands: the program, the written part, the things that are read, a heap that stays -/
structure Qc where
  prog : Program
  w : World
  K : PySem.W.Frag
  mg : Str → Option Value
  H : Hp
  hd : Heap

structure Qc.Ok (c : Qc) : Prop where
  kin : c.K.In c.hd
  glo : c.hd.Ns mainGlobals c.mg
  bui : ∃ mb, c.hd.Ns builtinsNs mb ∧ ∀ x : Str, x ≠ "__name__" → mb x = bootBuiltins x
  lim : c.hd.NoLimit
  hok : HOk c.prog c.w c.H c.hd

/-- the names of a frame -/
abbrev Nm := List (Str × V)
structure At (c : Qc) (env : Env) (N : Nm) (h : Heap) : Prop where
  up : Up c.hd h
  kd : env.scope.kind = .function
  gl : env.globals = mainGlobals
  bl : env.builtins = builtinsNs
  nm : ∃ m, h.Ns env.locals m ∧ ∀ x v, N.lookup x = some v → ∃ u, RelV v u ∧ Look env h m x u
theorem look_up {env : Env} {h g : Heap} {m : Str → Option Value} {x : Str} {u : Value} (k : Up h g) (l : Look env h m x u) : Look env g m x u := by
  rcases l with l | ⟨l, a, e, i⟩
  · exact .inl l
  · exact .inr ⟨l, a, e, i.keeps k⟩
theorem At.more {c : Qc} {env : Env} {N : Nm} {h g : Heap} (a : At c env N h) (k : Up h g) : At c env N g :=
  ⟨a.up.tr k, a.kd, a.gl, a.bl, let ⟨m, n, q⟩ := a.nm; ⟨m, n.keeps k, fun x v e => let ⟨u, r, l⟩ := q x v e; ⟨u, r, look_up k l⟩⟩⟩

structure Rm (k : Nat) (A : Around) : Prop where
  hd : A.handled = none
  dp : A.depth + k < recursionLimit
theorem Rm.mono {j k : Nat} {A : Around} (r : Rm k A) (h : j ≤ k) : Rm j A := ⟨r.hd, by have := r.dp; omega⟩
theorem Rm.deeper {k : Nat} {A : Around} (r : Rm (k + 1) A) (env : Env) : Rm k (A.deeper env) := ⟨r.hd, by have := r.dp; show A.depth + 1 + k < _; omega⟩

section
variable (c : Qc) (k : Nat) (env : Env) (N : Nm)
/-- an expression that gives v and leaves all as it was -/
def QE (e : Expr) (v : V) : Prop := ∀ (A : Around) (E : Value → Shared → Prop) (Q : Value → Shared → Prop) (s : Shared), Rm k A → At c env N s.heap →
  (∀ u g tk, RelV v u → Up s.heap g → Q u { s with heap := g, toks := tk }) → wpAny (model c.prog c.w) A (eval e env) Q E s
/-- a test -/
def QT (e : Expr) (b : Bool) : Prop := ∀ (A : Around) (E : Value → Shared → Prop) (Q : Bool → Shared → Prop) (s : Shared), Rm k A → At c env N s.heap →
  (∀ g tk, Up s.heap g → Q b { s with heap := g, toks := tk }) → wpAny (model c.prog c.w) A (isTrue e env (eval e env)) Q E s
/-- arguments -/
def QA (es : List Expr) (vs : List V) : Prop := ∀ (pos : Pos) (A : Around) (E : Value → Shared → Prop) (Q : List Value → Shared → Prop) (s : Shared), Rm k A → At c env N s.heap →
  (∀ us g tk, Vals vs us → Up s.heap g → Q us { s with heap := g, toks := tk }) → wpAny (model c.prog c.w) A (spliced (backTo pos (starEach es env))) Q E s
/-- a block that returns v -/
def QB (st : List Stmt) (v : V) : Prop := ∀ (A : Around) (E : Value → Shared → Prop) (Q : Flow → Shared → Prop) (s : Shared), Rm k A → At c env N s.heap → c.hd.get? env.locals = none →
  (∀ u g tk, RelV v u → (∀ b o, b ≠ env.locals → s.heap.get? b = some o → g.get? b = some o) → Q (.ret u) { s with heap := g, toks := tk }) → wpAny (model c.prog c.w) A (execs st env) Q E s
end
/-- a def called -/
def QF (c : Qc) (k : Nat) (f : Addr) (fd : FuncData) (ps : List Str) (vs : List V) (v : V) : Prop := ∀ (A : Around) (R : Result → Shared → Prop) (args : Args) (us : List Value) (s : Shared), Rm k A → Up c.hd s.heap → BindsTo s fd args (ps.zip us) → Vals vs us →
  (∀ u g tk, RelV v u → Up s.heap g → R (.ok (.ret u)) { s with heap := g, toks := tk }) → codeAny (model c.prog c.w) A (.call (.ref f) args) R s

section
variable {c : Qc} {k : Nat} {env : Env} {N : Nm} {x : Str} {v : V} {e a b : Expr} {es : List Expr} {pos p : Pos}

theorem q_name (hN : N.lookup x = some v) (hd : (x == ("__debug__" : Str)) = false := by decide) (hcd : (x == ("__classdict__" : Str)) = false := by decide) : QE c k env N (.Name x pos) v := by
  intro A E Q s r i h
  obtain ⟨m, n, q⟩ := i.nm
  obtain ⟨u, ru, l⟩ := q x v hN
  have fin : Q u s := h u s.heap s.toks ru Up.rfl'
  rcases l with ⟨l1, l2⟩ | ⟨l1 | l1, ad, l2, l3⟩
  · exact wpAny_Name (wpAny_loadName_local i.kd l1 n l2 fin) hd
  · exact wpAny_Name (wpAny_loadName_cell i.kd l1 l2 l3 fin) hd
  · exact wpAny_Name (wpAny_loadName_free i.kd l1 l2 l3 fin hcd) hd
theorem q_int {i : Int} {j : Nat} : QE c k env N (.Constant (.int i) j pos) (.int i) := fun A E Q s r _ h =>
  wpAny_Constant_int (h _ s.heap _ ⟨_, rfl⟩ Up.rfl')
theorem q_bool {t : Bool} {j : Nat} : QE c k env N (.Constant (.bool t) j pos) (.bl t) := fun A E Q s r _ h =>
  Constant_bool (h _ s.heap s.toks rfl Up.rfl')
theorem q_none {j : Nat} : QE c k env N (.Constant .none j pos) .non := fun A E Q s r _ h =>
  Constant_none (h _ s.heap s.toks rfl Up.rfl')
/-- a module's own name, a built-in's name -/
theorem q_glob {u : Value} (O : c.Ok) (hg : env.kindOf x = some .globalImplicit) (hm : c.mg x = some u) (r : RelV v u) (hd : (x == ("__debug__" : Str)) = false := by decide) : QE c k env N (.Name x pos) v := fun A E Q s _ i h =>
  Calls.Name_function_global i.kd hg (Calls.loadGlobal_global (by rw [i.gl]; exact O.glo.keeps i.up) hm (h u s.heap s.toks r Up.rfl')) hd
theorem ld_b {A : Around} {E : Value → Shared → Prop} {Q : Value → Shared → Prop} {s : Shared} {u : Value} (O : c.Ok) (i : At c env N s.heap) (hg : env.kindOf x = some .globalImplicit) (hm : c.mg x = none) (hv : bootBuiltins x = some u) (h : Q u s)
    (hn : x ≠ "__name__") (hd : (x == ("__debug__" : Str)) = false) : wpAny (model c.prog c.w) A (eval (.Name x pos) env) Q E s := by
  obtain ⟨mb, n1, n2⟩ := O.bui
  exact Calls.Name_function_global i.kd hg (Calls.loadGlobal_builtin (by rw [i.gl]; exact O.glo.keeps i.up) hm (by rw [i.bl]; exact n1.keeps i.up) ((n2 x hn).trans hv) h) hd
theorem q_blt {u : Value} (O : c.Ok) (hg : env.kindOf x = some .globalImplicit) (hm : c.mg x = none) (hv : bootBuiltins x = some u) (r : RelV v u) (hn : x ≠ "__name__" := by decide) (hd : (x == ("__debug__" : Str)) = false := by decide) :
    QE c k env N (.Name x pos) v := fun A E Q s _ i h => ld_b O i hg hm hv (h u s.heap s.toks r Up.rfl') hn hd

/-! ### arguments, calls -/
theorem qa_nil : QA c k env N [] [] := fun _ _ _ _ s _ _ h => Calls.spliced_nil (h _ s.heap s.toks .nil Up.rfl')
theorem qa_cons {vs : List V} (he : QE c k env N e v) (hs : QA c k env N es vs) (st : starEach (e :: es) env = (false, eval e env) :: starEach es env := by rfl) : QA c k env N (e :: es) (v :: vs) := by
  intro pos A E Q s r i h
  rw [st]
  show wpAny _ A (spliced ((false, eval e env) :: backTo pos (starEach es env))) Q E s
  refine Calls.spliced_cons (he A E _ s r i fun u g tk ru up => ?_)
  exact hs pos A E _ _ r (i.more up) fun us g2 tk2 rus up2 => h (u :: us) g2 tk2 (.cons ru rus) (up.tr up2)

/-- a built-in function that reads -/
def QC (c : Qc) (id : String) (vs : List V) (v : V) : Prop := ∀ (A : Around) (E : Value → Shared → Prop) (Q : Value → Shared → Prop) (us : List Value) (s : Shared), Up c.hd s.heap → Vals vs us →
  (∀ u g tk, RelV v u → Up s.heap g → Q u { s with heap := g, toks := tk }) → wpAny (model c.prog c.w) A (call (.builtin id) us) Q E s
theorem q_callB {id : String} {vs : List V} (O : c.Ok) (hc : QC c id vs v) (hg : env.kindOf x = some .globalImplicit) (hm : c.mg x = none) (hv : bootBuiltins x = some (.builtin id)) (ha : QA c k env N (e :: es) vs)
    (hn : x ≠ "__name__" := by decide) (hd : (x == ("__debug__" : Str)) = false := by decide) (st : starEach (e :: es) env = (false, eval e env) :: starEach es env := by rfl) (hpl : (backTo pos (starEach es env)).any (·.1) = false := by rfl) :
    QE c k env N (.Call (.Name x p) (e :: es) [] pos) v := by
  intro A E Q s r i h
  refine wpAny_Call_Name_kw (ld_b O i hg hm hv ?_ hn hd)
  refine PyProof.Rows.callWith_builtin1 (ha pos A E _ s r i fun us g tk rus up => ?_) st hpl
  exact hc A E Q us _ (i.up.tr up) rus fun u g2 tk2 ru up2 => h u g2 tk2 ru (up.tr up2)
theorem q_call {f : Addr} {fd : FuncData} {ps : List Str} {vs : List V} (O : c.Ok) (F : QF c k f fd ps vs v) (hbd : Binds c.K fd ps []) (hl : vs.length = ps.length) (hg : env.kindOf x = some .globalImplicit) (hm : c.mg x = some (.ref f)) (hk : PySem.W.keepIn c.K (.ref f) = true) (ha : QA c k env N (e :: es) vs)
    (hd : (x == ("__debug__" : Str)) = false := by decide) (st : starEach (e :: es) env = (false, eval e env) :: starEach es env := by rfl) (hpl : (backTo pos (starEach es env)).any (·.1) = false := by rfl) :
    QE c k env N (.Call (.Name x p) (e :: es) [] pos) v := by
  intro A E Q s r i h
  refine wpAny_Call_Name_kw (Calls.Name_function_global i.kd hg (Calls.loadGlobal_global (by rw [i.gl]; exact O.glo.keeps i.up) hm ?_) hd)
  refine PySem.W.callWith_K (h₀ := c.hd) O.kin hk (ha pos A E _ s r i fun us g tk rus up => ⟨O.kin.keeps (i.up.tr up), ?_⟩) st hpl
  refine wpAny_call (F A _ ⟨us, []⟩ us _ r (i.up.tr up) (by simpa using hbd _ us (O.kin.keeps (i.up.tr up)) (by simpa [rus.length] using hl)) rus fun u g2 tk2 ru up2 => ?_)
  exact h u g2 tk2 ru (up.tr up2)

/-! ### and, or, not, comparisons -/
theorem q_andF {rest : List Expr} (ha : QE c k env N a (.bl false)) : QE c k env N (.BoolOp .And (a :: b :: rest) pos) (.bl false) := by
  intro A E Q s r i h
  refine BoolOp_and (ha A E _ s r i fun u g tk ru up => ?_)
  cases ru
  exact wpAny_truthy_bool (h _ g tk rfl up)
theorem q_andT {rest : List Expr} (ha : QE c k env N a (.bl true)) (hb : QE c k env N (.BoolOp .And (b :: rest) p) v) : QE c k env N (.BoolOp .And (a :: b :: rest) p) v := by
  intro A E Q s r i h
  refine BoolOp_and (ha A E _ s r i fun u g tk ru up => ?_)
  cases ru
  exact wpAny_truthy_bool (hb A E Q _ r (i.more up) fun u2 g2 tk2 r2 up2 => h u2 g2 tk2 r2 (up.tr up2))
theorem q_orT {rest : List Expr} (ha : QE c k env N a (.bl true)) : QE c k env N (.BoolOp .Or (a :: b :: rest) pos) (.bl true) := by
  intro A E Q s r i h
  refine BoolOp_or (ha A E _ s r i fun u g tk ru up => ?_)
  cases ru
  exact wpAny_truthy_bool (h _ g tk rfl up)
theorem q_orF {rest : List Expr} (ha : QE c k env N a (.bl false)) (hb : QE c k env N (.BoolOp .Or (b :: rest) p) v) : QE c k env N (.BoolOp .Or (a :: b :: rest) p) v := by
  intro A E Q s r i h
  refine BoolOp_or (ha A E _ s r i fun u g tk ru up => ?_)
  cases ru
  exact wpAny_truthy_bool (hb A E Q _ r (i.more up) fun u2 g2 tk2 r2 up2 => h u2 g2 tk2 r2 (up.tr up2))
theorem q_one {op : BoolOp} (ha : QE c k env N a v) : QE c k env N (.BoolOp op [a] pos) v := fun A E Q s r i h => BoolOp_one (ha A E Q s r i h)
theorem q_and2 {p1 p2 : Bool} (ha : QE c k env N a (.bl p1)) (hb : p1 = true → QE c k env N b (.bl p2)) : QE c k env N (.BoolOp .And [a, b] pos) (.bl (p1 && p2)) := by
  cases p1 with
  | false => exact q_andF ha
  | true => exact q_andT ha (q_one (hb rfl))
theorem q_or2 {p1 p2 : Bool} (ha : QE c k env N a (.bl p1)) (hb : p1 = false → QE c k env N b (.bl p2)) : QE c k env N (.BoolOp .Or [a, b] pos) (.bl (p1 || p2)) := by
  cases p1 with
  | true => exact q_orT ha
  | false => exact q_orF ha (q_one (hb rfl))
theorem q_not {t : Bool} (ha : QE c k env N a (.bl t)) : QE c k env N (.UnaryOp .Not a pos) (.bl (!t)) := by
  intro A E Q s r i h
  refine UnaryOp_ (ha A E _ s r i fun u g tk ru up => ?_)
  cases ru
  exact PyProof.Rows.not_of (wpAny_truthy_bool (h _ g tk rfl up))
/-- an operator on two ints -/
def QO (c : Qc) (op : CmpOp) (p : Int → Int → Bool) : Prop := ∀ (A : Around) (E : Value → Shared → Prop) (Q : Value → Shared → Prop) (i j : Int) (t u : Tok) (s : Shared), Q (.bool (p i j)) s → wpAny (model c.prog c.w) A (compareOp op (.int i t) (.int j u)) Q E s
theorem qo_lt : QO c .Lt fun i j => decide (i < j) := fun A E Q i j t u s h => PyProof.Rows.lt_int h
theorem qo_le : QO c .LtE fun i j => decide (i ≤ j) := fun A E Q i j t u s h => PyProof.Rows.le_int h
theorem qo_gt : QO c .Gt fun i j => decide (j < i) := fun A E Q i j t u s h => PyProof.Rows.gt_int h
theorem qo_ge : QO c .GtE fun i j => decide (j ≤ i) := fun A E Q i j t u s h => PyProof.Rows.ge_int h
theorem qo_eq : QO c .Eq fun i j => i == j := fun A E Q i j t u s h => PyProof.Rows.eq_int h
theorem q_cmp {op : CmpOp} {pr : Int → Int → Bool} {i j : Int} (ho : QO c op pr) (ha : QE c k env N a (.int i)) (hb : QE c k env N b (.int j)) (hm : behindInMarks op b = false) : QE c k env N (.Compare a [op] [b] pos) (.bl (pr i j)) := by
  intro A E Q s r i0 h
  refine wpAny_Compare1 (ha A E _ s r i0 fun u g tk ru up => hb A E _ _ r (i0.more up) fun u2 g2 tk2 r2 up2 => ?_) hm
  obtain ⟨t1, rfl⟩ := ru
  obtain ⟨t2, rfl⟩ := r2
  exact ho A E Q i j t1 t2 _ (h _ g2 tk2 rfl (up.tr up2))
theorem q_isN (ha : QE c k env N a v) {j : Nat} {p2 : Pos} : QE c k env N (.Compare a [.Is] [.Constant .none j p2] pos) (.bl (decide (v = .non))) := by
  intro A E Q s r i0 h
  refine wpAny_Compare1 (ha A E _ s r i0 fun u g tk ru up => Constant_none (PyProof.Rows.is_none_gen ?_)) rfl
  refine h _ g tk ?_ up
  show Value.bool (u == .none) = Value.bool (decide (v = .non))
  cases v <;> first
    | (cases ru; rfl)
    | (obtain ⟨t, rfl⟩ := ru; rfl)
/-- a < b < c on ints -/
theorem q_chain {op op' : CmpOp} {pr pr' : Int → Int → Bool} {i j m : Int} {d : Expr} (ho : QO c op pr) (ho' : QO c op' pr') (ha : QE c k env N a (.int i)) (hb : QE c k env N b (.int j)) (hd : QE c k env N d (.int m))
    (hm : lastMarks [op, op'] [b, d] = false := by with_unfolding_all rfl) : QE c k env N (.Compare a [op, op'] [b, d] pos) (.bl (pr i j && pr' j m)) := by
  intro A E Q s r i0 h
  refine Compare_chain (ha A E _ s r i0 fun u g tk ru up => chain_link (hb A E _ _ r (i0.more up) fun u2 g2 tk2 r2 up2 => ?_)) hm
  obtain ⟨t1, rfl⟩ := ru
  obtain ⟨t2, rfl⟩ := r2
  refine ho A E _ i j t1 t2 _ (wpAny_truthy_bool ?_)
  cases q : pr i j with
  | false =>
    rw [q] at h
    exact ite_ff (h _ g2 tk2 rfl (up.tr up2))
  | true =>
    rw [q] at h
    refine ite_tt (chain_last (hd A E _ _ r (i0.more (up.tr up2)) fun u3 g3 tk3 r3 up3 => ?_))
    obtain ⟨t3, rfl⟩ := r3
    refine ho' A E Q j m t2 t3 _ ?_
    have := h (.bool (pr' j m)) g3 tk3 rfl ((up.tr up2).tr up3)
    exact this

/-! ### tests -/
theorem qt_val {t : Bool} (ha : QE c k env N a (.bl t)) (he : ∀ whole, isTrue a env whole = (do let v ← whole; standAt a.pos; holding [v] (truthy v)) := by intro _; rfl) : QT c k env N a t := by
  intro A E Q s r i h
  refine isTrue_plain (ha A E _ s r i fun u g tk ru up => ?_) (he _)
  cases ru
  exact wpAny_truthy_bool (h g tk up)
theorem qt_cmp {op : CmpOp} {pr : Int → Int → Bool} {i j : Int} (ho : QO c op pr) (ha : QE c k env N a (.int i)) (hb : QE c k env N b (.int j)) (hm : behindInMarks op b = false) : QT c k env N (.Compare a [op] [b] pos) (pr i j) := by
  intro A E Q s r i0 h
  refine wpAny_isTrue_Compare1 (ha A E _ s r i0 fun u g tk ru up => hb A E _ _ r (i0.more up) fun u2 g2 tk2 r2 up2 => ?_) hm
  obtain ⟨t1, rfl⟩ := ru
  obtain ⟨t2, rfl⟩ := r2
  exact ho A E _ i j t1 t2 _ (wpAny_truthy_bool (h g2 tk2 (up.tr up2)))
theorem qt_not {t : Bool} (ha : QT c k env N a t) : QT c k env N (.UnaryOp .Not a pos) (!t) := fun A E Q s r i h =>
  isTrue_not (ha A E _ s r i fun g tk up => h g tk up)
theorem qt_orT {rest : List Expr} (ha : QT c k env N a true) : QT c k env N (.BoolOp .Or (a :: rest) pos) true := fun A E Q s r i h =>
  isTrue_or (ha A E _ s r i fun g tk up => ite_tt (h g tk up))
theorem qt_or2 {t : Bool} (ha : QT c k env N a false) (hb : QT c k env N b t) : QT c k env N (.BoolOp .Or [a, b] pos) t := fun A E Q s r i h => by
  refine isTrue_or (ha A E _ s r i fun g tk up => ite_ff ?_)
  refine isTrue_or (hb A E _ _ r (i.more up) fun g2 tk2 up2 => ?_)
  cases t with
  | true => exact ite_tt (h g2 tk2 (up.tr up2))
  | false => exact ite_ff (isTrue_or_nil (h g2 tk2 (up.tr up2)))
theorem qt_andF {rest : List Expr} (ha : QT c k env N a false) : QT c k env N (.BoolOp .And (a :: rest) pos) false := fun A E Q s r i h =>
  isTrue_and (ha A E _ s r i fun g tk up => ite_ff (h g tk up))
theorem qt_and2 {t : Bool} (ha : QT c k env N a true) (hb : QT c k env N b t) : QT c k env N (.BoolOp .And [a, b] pos) t := fun A E Q s r i h => by
  refine isTrue_and (ha A E _ s r i fun g tk up => ite_tt ?_)
  refine isTrue_and (hb A E _ _ r (i.more up) fun g2 tk2 up2 => ?_)
  cases t with
  | true => exact ite_tt (isTrue_and_nil (h g2 tk2 (up.tr up2)))
  | false => exact ite_ff (h g2 tk2 (up.tr up2))

/-! ### blocks -/
theorem qb_ret {rest : List Stmt} (he : QE c k env N e v) : QB c k env N (.Return (some e) pos :: rest) v := by
  intro A E Q s r i _ h
  refine wpAny_execs_cons (wpAny_Return_some (he A E _ s r i fun u g tk ru up => ?_))
  exact h u g tk ru fun b o _ q => up b o q
theorem qb_ifT {body orelse rest : List Stmt} (ht : QT c k env N e true) (hb : QB c k env N body v) : QB c k env N (.If e body orelse pos :: rest) v := by
  intro A E Q s r i hL h
  refine wpAny_execs_cons (wpAny_If (ht A E _ s r i fun g tk up => ite_tt ?_))
  refine hb A E _ _ r (i.more up) hL fun u g2 tk2 ru k2 => ?_
  exact h u g2 tk2 ru fun b o nb q => k2 b o nb (up b o q)
theorem qb_ifF {body rest : List Stmt} (ht : QT c k env N e false) (hb : QB c k env N rest v) : QB c k env N (.If e body [] pos :: rest) v := by
  intro A E Q s r i hL h
  refine wpAny_execs_cons (wpAny_If (ht A E _ s r i fun g tk up => ite_ff (wpAny_execs_nil ?_)))
  refine hb A E _ _ r (i.more up) hL fun u g2 tk2 ru k2 => ?_
  exact h u g2 tk2 ru fun b o nb q => k2 b o nb (up b o q)
end
end Qt

namespace Qt
open PySem PySem.Spec PyProof.Rows L2

/-! ### kinds, sizes -/
/-- the class of a thing that is read -/
inductive Knd (c : Qc) : V → String → Prop where
  | non : Knd c .non "NoneType"
  | bl (b : Bool) : Knd c (.bl b) "bool"
  | int (i : Int) : Knd c (.int i) "int"
  | str (z : Str) : Knd c (.str z) "str"
  | lst {a : Addr} (h : PySem.W.KitAt a "list" c.hd) : Knd c (.ref a) "list"
  | tup {a : Addr} (h : PySem.W.KitAt a "tuple" c.hd) : Knd c (.ref a) "tuple"
  | dic {a : Addr} (h : PySem.W.KitAt a "dict" c.hd) : Knd c (.ref a) "dict"
theorem kitAt_up {a : Addr} {T : String} {h g : Heap} (k : Up h g) (x : PySem.W.KitAt a T h) : PySem.W.KitAt a T g :=
  let ⟨o, e, q⟩ := x; ⟨o, k _ _ e, q⟩
theorem qc_isi {c : Qc} {x : V} {T C : String} {b : Bool} (O : c.Ok) (ky : Knd c x T) (e : PySem.W.kitOne c.K (.type T) (.type C) = some b) : QC c "isinstance" [x, .ty C] (.bl b) := by
  intro A E Q us s up r h
  cases r with
  | @cons _ u1 _ _ r1 r' =>
    cases r' with
    | @cons _ u2 _ _ r2 r'' =>
      cases r''
      obtain rfl : u2 = Value.type C := r2
      have fin : ∀ tk, Q (.bool b) { s with toks := tk } := fun tk => h _ s.heap tk rfl Up.rfl'
      have kin := O.kin.keeps up
      cases ky with
      | non => cases r1; exact PySem.W.kia_one PySem.W.kitx_none kin trivial e (fun z => by cases z) fin
      | bl y => cases r1; exact PySem.W.kia_one PySem.W.kitx_bool kin trivial e (fun z => by cases z) fin
      | int i => obtain ⟨t, rfl⟩ := r1; exact PySem.W.kia_one PySem.W.kitx_int kin trivial e (fun z => by cases z) fin
      | str z => obtain ⟨t, rfl⟩ := r1; exact PySem.W.kia_one PySem.W.kitx_str kin trivial e (fun z => by cases z) fin
      | lst p => cases r1; exact PySem.W.kia_one PySem.W.kitx_list kin (kitAt_up up p) e (fun z => by cases z) fin
      | tup p => cases r1; exact PySem.W.kia_one PySem.W.kitx_tuple kin (kitAt_up up p) e (fun z => by cases z) fin
      | dic p => cases r1; exact PySem.W.kia_one PySem.W.kitx_dict kin (kitAt_up up p) e (fun z => by cases z) fin
/-- a tuple that is read -/
def TupQ (c : Qc) (a : Addr) (xs : List V) : Prop := ∃ its : List Value, Vals xs its ∧ IsTup c.hd a its.toArray ∧ xs.length ≤ sizeLine
theorem TupQ.kit {c : Qc} {a : Addr} {xs : List V} (t : TupQ c a xs) : Knd c (.ref a) "tuple" := by
  obtain ⟨its, _, ⟨o, e, q, _⟩, _⟩ := t
  exact .tup ⟨o, e, q⟩
theorem isTup_up {h g : Heap} {a : Addr} {vs : Array Value} (k : Up h g) (t : IsTup h a vs) : IsTup g a vs :=
  let ⟨o, e, q⟩ := t; ⟨o, k _ _ e, q⟩
theorem qc_lenT {c : Qc} {a : Addr} {xs : List V} (t : TupQ c a xs) : QC c "len" [.ref a] (.int xs.length) := by
  intro A E Q us s up r h
  obtain ⟨its, rv, ht, hz⟩ := t
  cases r with
  | @cons _ u1 _ _ r1 r' =>
    cases r'
    obtain rfl : u1 = Value.ref a := r1
    have hl := rv.length
    have h63 := line63
    refine PyProof.Rows.len_tuple (isTup_up up ht) (by simp only [List.size_toArray]; omega) ?_
    exact h _ s.heap _ ⟨_, by rw [List.size_toArray, hl]⟩ Up.rfl'
/-! ### a, b = t -/
theorem qb_two {c : Qc} {k : Nat} {env : Env} {N : Nm} {x y : Str} {a : Addr} {v1 v2 v : V} {e : Expr} {rest : List Stmt} {pos p1 p2 p3 : Pos} {kt : Nat} (he : QE c k env N e (.ref a)) (ht : TupQ c a [v1, v2]) (hx : env.kindOf x = some .local) (hy : env.kindOf y = some .local)
    (hN : ∀ z, N.lookup z ≠ none → env.kindOf z = some .local) (hb : QB c k env ((y, v2) :: (x, v1) :: N) rest v)
    (hs : swapsWithSole [.Tuple [.Name x p1, .Name y p2] kt p3] e pos.line env = pure false := by rfl) (hw : swappedStores [.Tuple [.Name x p1, .Name y p2] kt p3] e env = pure none := by rfl)
    (h1 : (assignEach [.Tuple [.Name x p1, .Name y p2] kt p3] env).map (·.2) = [assign (.Tuple [.Name x p1, .Name y p2] kt p3) env] := by rfl)
    (h2 : (assignEach [.Name x p1, .Name y p2] env).map (·.2) = [assign (.Name x p1) env, assign (.Name y p2) env] := by rfl)
    (hn : (assignEach [.Name x p1, .Name y p2] env).length = 2 := by rfl) (hst : (assignEach [.Name x p1, .Name y p2] env).findIdx? (·.1) = none := by rfl) :
    QB c k env N (.Assign [.Tuple [.Name x p1, .Name y p2] kt p3] e pos :: rest) v := by
  intro A E Q s r i hL h
  obtain ⟨its, rv, ht, hz⟩ := ht
  obtain ⟨w1, w2, rfl, r1, r2⟩ := vals2 rv
  have hpl : (env.scope.kind == .class || (env.scope.kind == .module && env.locals != env.globals)) = false := by rw [i.kd]; rfl
  refine wpAny_execs_cons (wpAny_Assign_stores (he A E _ s r i fun u g tk ru up => ?_) hs hw)
  obtain rfl : u = Value.ref a := ru
  have i1 := i.more up
  rw [h1]
  show wpAny _ A (assign (.Tuple [.Name x p1, .Name y p2] kt p3) env (.ref a)) _ _ _
  refine assign_Tuple_tuple r.hd (isTup_up i1.up ht) (by rw [hn]; rfl) hst fun g1 hx1 => ?_
  rw [h2]
  have up1 : Up g g1 := fun b o q => hx1 b o (Nat.ne_of_lt (Heap.lt_size q)) q
  have i2 := i1.more up1
  obtain ⟨m, n, q⟩ := i2.nm
  refine assignInOrder_cons (wpAny_assign_Name (wpAny_storeName_local hx n (fun g2 n2 sb2 => ?_) hpl))
  refine assignInOrder_cons (wpAny_assign_Name (wpAny_storeName_local hy n2 (fun g3 n3 sb3 => assignInOrder_nil ?_) hpl))
  have k13 : ∀ b o, b ≠ env.locals → g1.get? b = some o → g3.get? b = some o := fun b o nb q => sb3.extBut b o nb (sb2.extBut b o nb q)
  have nL : ∀ b o, c.hd.get? b = some o → b ≠ env.locals := fun b o q z => by
    rw [z, hL] at q
    cases q
  have i3 : At c env ((y, v2) :: (x, v1) :: N) g3 := by
    refine ⟨fun b o q => k13 b o (nL b o q) (i2.up b o q), i.kd, i.gl, i.bl, _, n3, fun z vz hz2 => ?_⟩
    by_cases ez : z = y
    · subst ez
      have e2 : v2 = vz := by simpa [List.lookup] using hz2
      exact ⟨w2, e2 ▸ r2, .inl ⟨hy, if_pos rfl⟩⟩
    · have ez' : (z == y) = false := by simpa using ez
      by_cases ex : z = x
      · subst ex
        have e2 : v1 = vz := by simpa [List.lookup, ez'] using hz2
        exact ⟨w1, e2 ▸ r1, .inl ⟨hx, by show (if z = y then _ else (if z = z then _ else _)) = _; rw [if_neg ez, if_pos rfl]⟩⟩
      · have ex' : (z == x) = false := by simpa using ex
        have e2 : N.lookup z = some vz := by simpa [List.lookup, ez', ex'] using hz2
        obtain ⟨u, ru, l⟩ := q z vz e2
        refine ⟨u, ru, .inl ?_⟩
        rcases l with ⟨l1, l2⟩ | ⟨l1, _⟩
        · exact ⟨l1, by show (if z = y then _ else (if z = x then _ else m z)) = _; rw [if_neg ez, if_neg ex]; exact l2⟩
        · have l3 := hN z (by rw [e2]; simp)
          rw [l3] at l1
          rcases l1 with l1 | l1 <;> cases l1
  refine hb A E Q _ r i3 hL fun u g4 tk4 ru k4 => ?_
  exact h u g4 tk4 ru fun b o nb q => k4 b o nb (k13 b o nb (up1 b o (up b o q)))

/-! ### a def entered -/
theorem zip_look {α : Type} {x : Str} {v : α} : ∀ {ps : List Str} {vs : List α}, (ps.zip vs).lookup x = some v → ∃ i : Nat, ps[i]? = some x ∧ vs[i]? = some v
  | [], _, h => by simp [List.lookup] at h
  | _ :: _, [], h => by simp [List.lookup] at h
  | p :: ps, w :: vs, h => by
    by_cases e : x = p
    · subst e
      refine ⟨0, rfl, ?_⟩
      simpa [List.lookup] using h
    · have e' : (x == p) = false := by simpa using e
      have h2 : (ps.zip vs).lookup x = some v := by simpa [List.lookup, e'] using h
      obtain ⟨i, h3, h4⟩ := zip_look h2
      exact ⟨i + 1, h3, h4⟩
theorem q_fun {c : Qc} {k : Nat} {x qual : Str} {st : Stmt} {f : Addr} {fd : FuncData} {N0 ps : List Str} {vs : List V} {v : V} (O : c.Ok) (F : Fun c.K x qual st f fd) (S : FnScope N0 ps (defScope st))
    (loc : ∀ p ∈ ps, (defScope st).names.lookup p = some .local) (hl : vs.length = ps.length) (body : ∀ (L : Addr) (cdv : Value), QB c k (envOfC qual (defScope st) L f cdv) (ps.zip vs) (defBody st) v) : QF c (k + 1) f fd ps vs v := by
  intro A R args us s r up bt rv h
  obtain ⟨oc, od, kV, doc, pm, an, cdv, ct, osl, e, lk, hcd⟩ := F.ex
  have kin := O.kin.keeps up
  have ndP : ps.Nodup := by rw [← S.pre]; exact S.nd.sublist (List.take_sublist _ _)
  rw [e] at bt lk
  refine Att.call_fn (binds := ps.zip us) kin (O.lim.keeps up) lk hcd (by have := r.dp; omega) bt ?_ (fun s1 IC => ?_) S.co S.gen S.kind
  · rw [List.all_eq_true]
    intro y hy
    have q := loc y.1 (List.of_mem_zip hy).1
    rw [q]
    rfl
  · obtain ⟨g, tk, rfl, hk⟩ := IC.done
    have hL : c.hd.get? s.heap.objs.size = none := up_lt up (Nat.le_refl _)
    have i : At c (envOfC qual (defScope st) s.heap.objs.size f cdv) (ps.zip vs) g := by
      refine ⟨up.tr hk, S.kind, rfl, rfl, _, IC.toInCall.ns, fun z vz hz => ?_⟩
      obtain ⟨j, h3, h4⟩ := zip_look hz
      obtain ⟨u, h5, h6⟩ := rv.get h4
      have kz := loc z (List.mem_of_getElem? h3)
      exact ⟨u, h6, .inl ⟨kz, bindL_get ndP h3 h5 kz⟩⟩
    refine body s.heap.objs.size cdv _ _ _ _ (r.deeper _) i hL fun u g2 tk2 ru k2 => ?_
    refine h u g2 tk2 ru fun b o q => k2 b o (Nat.ne_of_lt (Heap.lt_size q)) (hk b o q)
/-- a quiet def, called as any other -/
theorem fn_ofQ {P : Program} {w : World} {K : PySem.W.Frag} {mg : Str → Option Value} {base : Heap} {CX : CXT} {k : Nat} {f : Addr} {fd : FuncData} {ps : List Str} {sp : Sp} (len : ∀ vs H Q E, sp vs H Q E → vs.length = ps.length)
    (h : ∀ vs H Q E, sp vs H Q E → ∃ v, Q v H ∧ ∀ hd, (Qc.mk P w K mg H hd).Ok → QF ⟨P, w, K, mg, H, hd⟩ (3 * k) f fd ps vs v) : FnOk P w K mg base CX k f fd ps sp := by
  refine ⟨len, fun A outer s H args us vs Q E rm e0 bt rv hs => ?_⟩
  obtain ⟨v, q, hQ⟩ := h vs H Q E hs
  have up0 : ∀ b o, base.get? b = some o → s.heap.get? b = some o := fun b o e => (e0.bs b o e).1
  have OK : (Qc.mk P w K mg H s.heap).Ok := ⟨e0.mod.kin.keeps up0, e0.mod.glob.keeps up0, let ⟨mb, q1, q2⟩ := e0.mod.blt; ⟨mb, q1.keeps up0, q2⟩, e0.mod.nolimit.keeps up0, e0.hok⟩
  have hd := rm.dp
  refine hQ s.heap OK A _ args us s ⟨rm.hd, by omega⟩ Up.rfl' bt rv fun u g tk ru up => ?_
  exact ⟨v, H, rfl, e0.bare, Un.kept up, e0.hok.kept up, ru, q⟩
end Qt

namespace Qt
open PySem PySem.Spec PyProof.Rows L2

/-- what is held, the tables of code left out -/
def wipe (H : Hp) (P : Addr) : Hp := fun a => if a = P then none else H a
theorem wipe_of {H : Hp} {P a : Addr} {o : HO} (h : wipe H P a = some o) : a ≠ P ∧ H a = some o := by
  unfold wipe at h
  by_cases e : a = P
  · rw [if_pos e] at h
    cases h
  · rw [if_neg e] at h
    exact ⟨e, h⟩
theorem wipe_at {H : Hp} {P a : Addr} {o : HO} (e : a ≠ P) (h : H a = some o) : wipe H P a = some o := by
  unfold wipe
  rw [if_neg e]
  exact h
/-- a thing that a generator goes over: a tuple or a list, of the values its -/
structure Src (pr : Program) (w : World) (h1 : Heap) (ad : Addr) (its : Array Value) (o : Obj) (St : Addr → Nat → Heap → Prop) : Prop where
  lt : ad < h1.objs.size
  iter : ∀ (A : Around) (E Q : Value → Shared → Prop) (s : Shared), s.heap = h1 → Q (.ref h1.objs.size) { s with heap := h1.push o } → wpAny (model pr w) A (pyIter (.ref ad)) Q E s
  walks : ∀ (A : Around) (I : Addr), A.handled = none → ad ≠ I → Walks pr w A I [I, ad] [I] its.size (fun i v => its[i]? = some v) (St I)
  st0 : ∀ g : Heap, (∀ b u, (b = ad ∨ b = h1.objs.size) → (h1.push o).get? b = some u → g.get? b = some u) → St h1.objs.size 0 g
theorem src_list {pr : Program} {w : World} {h1 : Heap} {ad : Addr} {its : Array Value} (hl : h1.IsList ad its) :
    Src pr w h1 ad its { cls := .type "list_iterator", data := .fields #[.ref ad, .int 0 0] } (fun I i h => h.IsListIter I ad i ∧ h.IsList ad its) where
  lt := by
    obtain ⟨_, e, _⟩ := id hl
    exact Heap.lt_size e
  iter := fun A E Q s es h => by
    subst es
    exact wpAny_pyIter_list hl h
  walks := fun A I hh ne => Walks.list hh I ad ne its
  st0 := fun g k => ⟨⟨_, k _ _ (.inr rfl) (Heap.get?_push_size _ rfl), rfl, rfl⟩, by
    obtain ⟨ob, e, r⟩ := id hl
    exact ⟨ob, k _ _ (.inl rfl) (Heap.get?_push_of_some _ e), r⟩⟩
theorem src_tup {pr : Program} {w : World} {h1 : Heap} {ad : Addr} {its : Array Value} (hl : IsTup h1 ad its) :
    Src pr w h1 ad its { cls := .type "tuple_iterator", data := .fields #[.ref ad, .int 0 0] } (fun I i h => h.IsTupleIter I ad i ∧ h.IsTuple ad its) where
  lt := by
    obtain ⟨_, e, _⟩ := id hl
    exact Heap.lt_size e
  iter := fun A E Q s es h => by
    subst es
    exact wpAny_pyIter_tuple hl h
  walks := fun A I hh ne => Walks.tuple hh I ad ne its
  st0 := fun g k => ⟨⟨_, k _ _ (.inr rfl) (Heap.get?_push_size _ rfl), rfl, rfl⟩, by
    obtain ⟨ob, e, r⟩ := id hl
    exact ⟨ob, k _ _ (.inl rfl) (Heap.get?_push_of_some _ e), r⟩⟩

section
variable {X : Cx} {pins : List (Addr × Obj)} {σ : L2.St} {H : Hp} {s : Shared}
theorem seq_src (I : Inv X pins σ H s) {ad : Addr} {xs : List V} (h : SqT X.K H ad xs ∨ SqL X.K H ad xs) :
    ∃ (its : List Value) (o : Obj) (St : Addr → Nat → Heap → Prop), Vals xs its ∧ Src X.prog X.w s.heap ad its.toArray o St ∧ (∀ ps, o.data ≠ .fields ps ∨ o.cls ≠ .none) := by
  rcases h with h | h
  · obtain ⟨its, rv, ht, _⟩ := I.tuple h
    exact ⟨its, _, _, rv, src_tup ht, fun ps => .inr fun z => by cases z⟩
  · obtain ⟨its, rv, hl, _⟩ := I.list h
    exact ⟨its, _, _, rv, src_list hl.isList, fun ps => .inr fun z => by cases z⟩

/-- what the element of a generator expression is, for the item xv: a truth -/
def Elt (X : Cx) (kk : Nat) (scope : Scope) (x : Str) (elt : Expr) (caps : Nm) (Hw : Hp) (xs : List V) (bs : List Bool) : Prop :=
  bs.length = xs.length ∧ ∀ (hd : Heap) (env : Env), (Qc.mk X.prog X.w X.K X.mg Hw hd).Ok → env.scope = scope → ∀ (j : Nat) (xv : V) (b : Bool), xs[j]? = some xv → bs[j]? = some b → QE ⟨X.prog, X.w, X.K, X.mg, Hw, hd⟩ kk env ((x, xv) :: caps) elt (.bl b)
/-- the captured names' values -/
def Caps (X : Cx) (scope : Scope) (x : Str) (σ : L2.St) (caps : Nm) : Prop := ∀ y v, caps.lookup y = some v → y ≠ x ∧ (y, NameKind.free) ∈ scope.names ∧ scope.names.lookup y = some .free ∧ ∃ i : Nat, X.N[i]? = some y ∧ σ[i]? = some (some v) ∧ X.env.scope.names.lookup y = some .cell

/-- the truth at place j -/
def trB (bs : List Bool) (j : Nat) : Bool := bs.getD j false
theorem trB_some {bs : List Bool} {j : Nat} {b : Bool} (h : bs[j]? = some b) : trB bs j = b := by
  unfold trB
  rw [List.getD_eq_getElem?_getD, h]
  rfl
theorem trB_all (bs : List Bool) : (List.range bs.length).all (trB bs) = bs.all id := by
  rw [Bool.eq_iff_iff, List.all_eq_true, List.all_eq_true]
  refine ⟨fun h b hb => ?_, fun h j hj => ?_⟩
  · obtain ⟨j, hj, e⟩ := List.getElem_of_mem hb
    have q := h j (List.mem_range.mpr hj)
    rwa [trB_some (List.getElem?_eq_getElem hj), e] at q
  · have hj' := List.mem_range.mp hj
    rw [trB_some (List.getElem?_eq_getElem hj')]
    exact h _ (List.getElem_mem hj')
theorem trB_any (bs : List Bool) : (List.range bs.length).any (trB bs) = bs.any id := by
  rw [Bool.eq_iff_iff, List.any_eq_true, List.any_eq_true]
  refine ⟨fun ⟨j, hj, h⟩ => ?_, fun ⟨b, hb, h⟩ => ?_⟩
  · have hj' := List.mem_range.mp hj
    rw [trB_some (List.getElem?_eq_getElem hj')] at h
    exact ⟨_, List.getElem_mem hj', h⟩
  · obtain ⟨j, hj, e⟩ := List.getElem_of_mem hb
    exact ⟨j, List.mem_range.mpr hj, by rw [trB_some (List.getElem?_eq_getElem hj), e]; exact h⟩

/-- the generator g is made, to be gone through -/
def Made (X : Cx) (pins : List (Addr × Obj)) (σ : L2.St) (H1 : Hp) (P : Addr) (xs : List V) (bs : List Bool) (g : Addr) (s5 : Shared) : Prop :=
  ∃ (fp wr : List Addr) (G : Array GenState → Array GenState → Prop) (F : Nat → Value → Prop) (St : Nat → Shared → Prop),
    WalksS X.prog X.w X.A.in1 g fp wr G bs.length F St ∧ St 0 s5 ∧ TruthOf X.prog X.w X.A.in1 F (trB bs) ∧ ∀ s', Moved wr G s5 s' → ∃ H2, GxR.Tabbed P H1 H2 ∧ Inv X pins σ H2 s'

theorem gen_made {c P : Addr} {elt iter : Expr} {x : Str} {px gpos : Pos} {scope : Scope} {te : TE} {k : Nat} {Z : Value → Shared → Prop} {R : List V → List Bool → Hp → Prop}
    (rm : Room (k + 2) X.A) (TB : GxR.TabB X.base X.mg c P) (hcode : X.env.code = .ref c) (GS : GxR.GenS X.env scope x) (hi : PE X iter te)
    (hs : ∀ v, genFold iter X.env v = pure v) (I : Inv X pins σ H s)
    (h : te σ H fun v H1 => ∃ (ad : Addr) (xs : List V) (bs : List Bool) (caps : Nm), v = .ref ad ∧ (SqT X.K H1 ad xs ∨ SqL X.K H1 ad xs) ∧ GxR.TabG H1 P ∧ Caps X scope x σ caps ∧ Elt X (3 * k) scope x elt caps (wipe H1 P) xs bs ∧ R xs bs H1)
    (hZ : ∀ xs bs H1 g s5, R xs bs H1 → Made X pins σ H1 P xs bs g s5 → Z (.ref g) s5) :
    wpAny (model X.prog X.w) X.A (eval (.GeneratorExp elt [⟨.Name x px, iter, [], 0⟩] scope gpos) X.env) Z X.xe s := by
  have hdp := rm.dp
  refine wpAny_GeneratorExp_walksQD rm.hd GS.co (closure_ok GS.free) GS.cell GS.dot GS.loc GS.kind rm.depth ?_ hs
  refine thn (hi.run pins s σ H _ I h) fun xv s1 hx => ?_
  obtain ⟨v, H1, I1, r1, ad, xs, bs, caps, ev, hsq, ⟨ps, hP, htr⟩, hcap, hel, hR⟩ := hx
  subst ev
  obtain rfl : xv = Value.ref ad := r1
  obtain ⟨its, o, St, rv, S, hno⟩ := seq_src I1 hsq
  have hlen : its.length = xs.length := rv.length.symm
  have hPs : s1.heap.get? P = some { cls := .none, data := .fields ps } := I1.hok P _ hP
  have hPlt : P < s1.heap.objs.size := Heap.lt_size hPs
  have adP : ad ≠ P := by
    rintro rfl
    rcases hsq with hq | hq
    · obtain ⟨_, _, ⟨ob, e, ec, _⟩, _⟩ := I1.tuple hq
      rw [hPs] at e
      cases e
      cases ec
    · obtain ⟨_, _, hl, _⟩ := I1.list hq
      obtain ⟨ob, _, e, ec, _⟩ := id hl
      rw [hPs] at e
      cases e
      cases ec
  refine S.iter _ _ _ _ rfl ?_
  have push_ok : ∀ b u, s1.heap.get? b = some u → (s1.heap.push o).get? b = some u := fun b u e => Heap.get?_push_of_some _ e
  have hPo := push_ok P _ hPs
  have lim2 : (s1.heap.push o).NoLimit := I1.nolimit.push o
  have cd : PySem.W.CodeHd (s1.heap.push o) c P := TB.code.keeps fun b u e => push_ok b u (I1.bk b u e)
  have go : ∀ (code : Value) (h3 : Heap) (tk : Nat) (ps' : Array Value), Heap.ExtBut P (s1.heap.push o) h3 → (s1.heap.push o).objs.size ≤ h3.objs.size → h3.get? P = some { cls := .none, data := .fields ps' } → (∃ more, ps' = ps ++ more) → TriplesOk ps'.toList →
      wpAny (model X.prog X.w) X.A (builtinsFor X.env.globals X.env.builtins) (fun bi s₄ =>
        ∃ Ia fp wr n₀ Pf St₀ pz F, Value.ref s1.heap.objs.size = .ref Ia ∧ (∀ A' : Around, A'.handled = none → Walks X.prog X.w A' Ia fp wr n₀ Pf St₀) ∧ St₀ 0 s₄.heap ∧ (∀ b ∈ fp, b < s₄.heap.objs.size) ∧ s₄.heap.NoLimit ∧ cStatics ∉ wr ∧
          (∀ hr : Heap, (∀ b u, s₄.heap.get? b = some u → hr.get? b = some u) →
            QuietGenD X.prog X.w (genEnv scope (cloFrom X.env.cells scope.names []) s₄.heap.objs.size code bi X.env) x [] elt (List.range s₄.heap.objs.size) wr Pf pz F hr (X.A.depth + 1) (X.A.units + 8)) ∧
          (∀ a h₅ tk gs, gs.bare = true → s₄.heap.objs.size < a → h₅.objs.size = a + 1 → (∀ b u, s₄.heap.get? b = some u → h₅.get? b = some u) →
            WalksS X.prog X.w X.A.in4 a (a :: s₄.heap.objs.size :: List.range s₄.heap.objs.size) (s₄.heap.objs.size :: wr) (GenOnlyQ s₄.gens.size) (passing pz n₀ 0).length
              (fun j y => ∃ i, (passing pz n₀ 0)[j]? = some i ∧ F i y) (GenAt X.prog X.w X.A.in4 a s₄.gens.size s₄.heap.objs.size (List.range s₄.heap.objs.size) wr pz n₀ F) →
            GenAt X.prog X.w X.A.in4 a s₄.gens.size s₄.heap.objs.size (List.range s₄.heap.objs.size) wr pz n₀ F 0 { s₄ with gens := s₄.gens.push gs, toks := tk, heap := h₅ } →
            Z (.ref a) { s₄ with gens := s₄.gens.push gs, toks := tk, heap := h₅ })) X.xe { s1 with heap := h3, toks := tk } := by
    intro code h3 tk ps' hx hsz hP3 hmore ht3
    obtain ⟨bm, ob, e1, e2, e3, e4, e5, e6, e7, e8⟩ := TB.bm
    have szo : (s1.heap.push o).objs.size = s1.heap.objs.size + 1 := Heap.size_push ..
    have k3 : ∀ b u, b ≠ P → s1.heap.get? b = some u → h3.get? b = some u := fun b u hb e => hx b u hb (push_ok b u e)
    have hcP : cStatics ≠ P := by
      rintro rfl
      obtain ⟨_, hns, _⟩ := I1.nolimit
      obtain ⟨o', es, ep, ho, hd, _⟩ := hns
      rw [hPs] at ho
      cases ho
      cases hd
    have hcl : cStatics < s1.heap.objs.size := let ⟨_, hns, _⟩ := I1.nolimit; hns.lt
    refine wpAny_builtinsFor (m := X.mg) (by rw [I1.ok.glob]; exact ((I1.mod.glob.keeps I1.bk).push o).extBut hx TB.gP) e1 e2 (k3 _ _ e4 (I1.bk _ _ e5)) e6 e7 e8 ?_
    have hi3 : s1.heap.objs.size < h3.objs.size := by omega
    refine ⟨s1.heap.objs.size, [s1.heap.objs.size, ad], [s1.heap.objs.size], its.toArray.size, (fun i v => its.toArray[i]? = some v), St s1.heap.objs.size, (fun _ => true), (fun i y => ∃ b, bs[i]? = some b ∧ y = .bool b), rfl,
      fun A' hA => S.walks A' _ hA (Nat.ne_of_lt S.lt), ?_, ?_, lim2.extBut hx hcP, ?_, ?_, ?_⟩
    · refine S.st0 h3 fun b u hb e => hx b u (fun z => ?_) e
      rcases hb with hb | hb
      · exact adP (hb.symm.trans z)
      · exact Nat.ne_of_gt hPlt (hb.symm.trans z)
    · intro b hb
      simp only [List.mem_cons, List.not_mem_nil, or_false] at hb
      rcases hb with hb | hb
      · rw [hb]; exact hi3
      · rw [hb]; exact Nat.lt_trans S.lt hi3
    · intro z
      simp only [List.mem_cons, List.not_mem_nil, or_false] at z
      exact Nat.ne_of_lt hcl z
    · intro hr hhr
      obtain ⟨hd, g1, g2⟩ := restrict h3 fun b => decide (b ≠ s1.heap.objs.size)
      have old : ∀ b u, b ≠ P → s1.heap.get? b = some u → hd.get? b = some u := fun b u nb e => by
        rw [g1 b (decide_eq_true (Nat.ne_of_lt (Heap.lt_size e)))]
        exact k3 b u nb e
      have up3 : Up hd h3 := fun b u e => by
        by_cases hb : b = s1.heap.objs.size
        · rw [g2 b (by simp [hb])] at e
          cases e
        · rw [g1 b (decide_eq_true hb)] at e
          exact e
      have bP : ∀ b u, X.base.get? b = some u → b ≠ P := fun b u e z => by
        have q := (I1.bs b u e).2
        rw [z, hP] at q
        cases q
      have bup : ∀ b u, X.base.get? b = some u → hd.get? b = some u := fun b u e => old b u (bP b u e) (I1.bk b u e)
      have OK : (Qc.mk X.prog X.w X.K X.mg (wipe H1 P) hd).Ok := by
        obtain ⟨mb, q1, q2⟩ := I1.mod.blt
        refine ⟨I1.mod.kin.keeps bup, I1.mod.glob.keeps bup, ⟨mb, q1.keeps bup, q2⟩, I1.mod.nolimit.keeps bup, fun a u e => ?_⟩
        obtain ⟨na, e⟩ := wipe_of e
        have noP : ∀ b, H1 b = some (.own a) → b ≠ P := fun b q z => by
          rw [z, hP] at q
          cases q
        refine (I1.hok a u e).stay (fun b u' hb q => old b u' ?_ q) (fun b q => wipe_at (noP b q) q) (fun b ys q => wipe_at (fun z => ?_) q)
        · rcases hb with hb | hb
          · rw [hb]; exact na
          · exact noP b hb
        · rw [z, hP] at q
          cases q
      have seen : ∀ s₂ : Shared, (∀ b ∈ List.range h3.objs.size, b ∉ [s1.heap.objs.size] → ∀ u, hr.get? b = some u → s₂.heap.get? b = some u) → Up hd s₂.heap := fun s₂ hk b u e => by
        have h3e := up3 b u e
        refine hk b (List.mem_range.mpr (Heap.lt_size h3e)) (fun z => ?_) u (hhr b u h3e)
        have hb : b = s1.heap.objs.size := by simpa using z
        rw [g2 b (by simp [hb])] at e
        cases e
      refine ⟨fun A' E' i v s₂ m₂ hA _ _ hPv hn hm hk => ?_, fun A' E' i v s₂ m₂ hA hAd _ hPv hp hn hm hk => ?_⟩
      · simp only [List.forIn_nil]
        exact wpAny_pure ⟨rfl, GxR.keeps_refl _⟩
      · have hv2 : its[i]? = some v := by simpa using hPv
        have hix : i < xs.length := by rw [← hlen]; exact (List.getElem?_eq_some_iff.mp hv2).1
        obtain ⟨xv, hxv⟩ : ∃ xv, xs[i]? = some xv := ⟨xs[i], List.getElem?_eq_getElem hix⟩
        obtain ⟨u, hu, ru⟩ := rv.get hxv
        rw [hv2] at hu
        cases hu
        have at2 : At ⟨X.prog, X.w, X.K, X.mg, wipe H1 P, hd⟩ (genEnv scope (cloFrom X.env.cells scope.names []) h3.objs.size code builtinsNs X.env) ((x, xv) :: caps) s₂.heap := by
          have upS := seen s₂ hk
          refine ⟨upS, GS.kind, I1.ok.glob, rfl, m₂, hn, fun y vy hy => ?_⟩
          by_cases ey : y = x
          · subst ey
            have e9 : xv = vy := by simpa [List.lookup] using hy
            exact ⟨v, e9 ▸ ru, .inl ⟨GS.loc, hm⟩⟩
          · have ey' : (y == x) = false := by simpa using ey
            have hy2 : caps.lookup y = some vy := by simpa [List.lookup, ey'] using hy
            obtain ⟨_, hmem, hfr, j, hj, hσ, hcl2⟩ := hcap y vy hy2
            obtain ⟨m1, hn1, hloc⟩ := I1.loc
            obtain ⟨u9, r9, l9⟩ := hloc j y vy hj hσ (.inr (.inl hcl2))
            refine ⟨u9, r9, .inr ⟨.inr hfr, ?_⟩⟩
            rcases l9 with ⟨l9, _⟩ | ⟨_, ca, hca, hic⟩
            · have l8 : X.env.scope.names.lookup y = some .local := l9
              rw [hcl2] at l8
              cases l8
            · refine ⟨ca, NdefX.clo_has GS.free hmem hca, ?_⟩
              obtain ⟨oc, ec, rc⟩ := hic
              have nP : ca ≠ P := fun z => by
                have q := I1.freeC y ca hca
                rw [z, hP] at q
                cases q
              exact ⟨oc, upS _ _ (old _ _ nP ec), rc⟩
        obtain ⟨b, hb⟩ : ∃ b, bs[i]? = some b := ⟨bs[i]'(by rw [hel.1]; exact hix), List.getElem?_eq_getElem _⟩
        refine hel.2 hd _ OK rfl i xv b hxv hb A' E' _ s₂ ⟨hA, by omega⟩ at2 fun u9 g9 tk9 r9 up9 => ?_
        exact ⟨⟨b, hb, r9⟩, g9, tk9, rfl, up9⟩
    · intro g h5 tk5 gs hgb hag hsz5 hk5 W5 hgat
      simp only [GxR.passing_true, List.length_range] at W5
      have hn5 : its.toArray.size = bs.length := by rw [List.size_toArray, hlen, hel.1]
      rw [hn5] at W5 hgat
      refine hZ xs bs H1 g _ hR ⟨_, _, _, _, _, W5.in4_1, hgat, ?_, fun s' hm => ?_⟩
      · intro j y sj Qj Ej hy hQj
        obtain ⟨i, hij, b, hxv, rfl⟩ := hy
        obtain ⟨hj, ej⟩ := List.getElem?_eq_some_iff.mp hij
        rw [List.getElem_range] at ej
        subst ej
        have hQ2 : Qj (trB bs j) sj := hQj
        rw [trB_some hxv] at hQ2
        exact wpAny_truthy_bool hQ2
      · obtain ⟨more, em⟩ := hmore
        have nwr : ∀ b u, s1.heap.get? b = some u → b ∉ h3.objs.size :: [s1.heap.objs.size] := fun b u e hb => by
          have hl := Heap.lt_size e
          simp only [List.mem_cons, List.not_mem_nil, or_false] at hb
          rcases hb with hb | hb
          · rw [hb] at hl
            exact absurd (Nat.lt_trans hl hi3) (Nat.lt_irrefl _)
          · rw [hb] at hl
            exact Nat.lt_irrefl _ hl
        have J := GxR.inv_tab (more := more) (h' := s'.heap) (g' := s'.gens) (d' := s'.drawn) (t' := s'.toks) I1 hP (fun b u hb e => hm.heap b u (nwr b u e) (hk5 b u (k3 b u hb e)))
          (by rw [← em]; exact hm.heap P _ (nwr P _ hPs) (hk5 P _ hP3)) (AllBare.movedS (I1.bare.push hgb) hm)
        rw [GxR.sh_eta s1 s' hm.os] at J
        exact ⟨upd H1 P (.tbl (ps ++ more)), ⟨⟨ps ++ more, upd_same, by rw [← em]; exact ht3⟩, fun b hb => upd_ne hb⟩, J⟩
  refine ⟨lim2, ?_⟩
  cases hf : codeAmong gpos ps.toList with
  | none =>
    refine wpAny_genexprCodeX hcode (cd.code hPo htr) (cd.tab hPo) hf fun c' h' tk hx hge hlt hco' _ htab' _ => ?_
    obtain ⟨_, _, _, _, _, _, _, _, _, _, _, _, _, _, _, _, _, _, _, htr', _⟩ := hco'
    exact go _ h' tk _ hx (Nat.le_trans hge (Nat.le_of_lt hlt)) htab'.2 ⟨_, rfl⟩ htr'
  | some cv =>
    refine wpAny_genexprCode_hit hcode (cd.code hPo htr) hf ?_
    exact go cv (s1.heap.push o) s1.toks ps (Heap.ExtBut.refl _ _) (Nat.le_refl _) hPo ⟨#[], by simp⟩ htr

/-- all(.. for x in e), e a tuple or a list, the element a quiet truth -/
def tAllQ (X : Cx) (P : Addr) (k : Nat) (scope : Scope) (x : Str) (elt : Expr) (te : TE) : TE := fun σ H Q => te σ H fun v H1 => ∃ (ad : Addr) (xs : List V) (bs : List Bool) (caps : Nm), v = .ref ad ∧ (SqT X.K H1 ad xs ∨ SqL X.K H1 ad xs) ∧
  GxR.TabG H1 P ∧ Caps X scope x σ caps ∧ Elt X (3 * k) scope x elt caps (wipe H1 P) xs bs ∧ ∀ H2, GxR.Tabbed P H1 H2 → Q (.bl (bs.all id)) H2
theorem pe_allQ {c P : Addr} {elt iter : Expr} {x : Str} {px p pos gpos : Pos} {scope : Scope} {te : TE} {k : Nat}
    (rm : Room (k + 2) X.A) (hg : Gl X "all") (hm : X.mg "all" = none) (TB : GxR.TabB X.base X.mg c P) (hcode : X.env.code = .ref c) (GS : GxR.GenS X.env scope x) (hi : PE X iter te)
    (hs : ∀ v, genFold iter X.env v = pure v) (hb : bootBuiltins "all" = some (.builtin "all") := by decide +kernel)
    (he : starEach [.GeneratorExp elt [⟨.Name x px, iter, [], 0⟩] scope gpos] X.env = (false, eval (.GeneratorExp elt [⟨.Name x px, iter, [], 0⟩] scope gpos) X.env) :: starEach [] X.env := by rfl) :
    PE X (.Call (.Name "all" p) [.GeneratorExp elt [⟨.Name x px, iter, [], 0⟩] scope gpos] [] pos) (tAllQ X P k scope x elt te) := by
  refine ⟨fun pins s σ H Q I h => ?_⟩
  refine wpAny_Call_Name_kw (ld_blt I hg hm hb (PyProof.Rows.callWith_builtin1 ?_ he (by rfl)))
  rw [he]
  show wpAny _ X.A (spliced ((false, eval (.GeneratorExp elt [⟨.Name x px, iter, [], 0⟩] scope gpos) X.env) :: backTo pos (starEach [] X.env))) _ X.xe s
  refine Calls.spliced_cons (gen_made (R := fun xs bs H1 => ∀ H2, GxR.Tabbed P H1 H2 → Q (.bl (bs.all id)) H2) rm TB hcode GS hi hs I h fun xs bs H1 g s5 hR hG => Calls.spliced_nil ?_)
  obtain ⟨fp, wr, G, F, St, W, hst, htr, hI⟩ := hG
  refine call_all_walkS (W.self 0 _ _ _ hst ⟨g, fp, wr, G, _, F, St, _, rfl, W, hst, htr, fun s' hmv => ?_⟩)
  obtain ⟨H2, hT, J⟩ := hI s' hmv
  exact ⟨.bl _, H2, J, rfl, by rw [trB_all bs]; exact hR H2 hT⟩
end
end Qt

namespace Em
open PySem PySem.Spec PyProof.Rows L2 Qt

/-! ### defs that may show things: nothing is being shown around them -/
structure FnG (P : Program) (w : World) (K : PySem.W.Frag) (mg : Str → Option Value) (base : Heap) (CX : CXT) (k : Nat) (f : Addr) (fd : FuncData) (ps : List Str) (sp : Sp) : Prop where
  len : ∀ vs H Q E, sp vs H Q E → vs.length = ps.length
  go : ∀ (A : Around) (outer : List Env) (s : Shared) (H : Hp) (args : Args) (us : List Value) (vs : List V) (Q : VK) (E : XK), A.guards = some [] → Room k A → Env0 P w K mg base A outer s H → BindsTo s fd args (ps.zip us) → Vals vs us → sp vs H Q E →
    codeAny (model P w) A (.call (.ref f) args) (CR CX outer P w H s Q E) s
section
variable {P : Program} {w : World} {K : PySem.W.Frag} {mg : Str → Option Value} {base : Heap} {CX : CXT} {k : Nat} {f : Addr} {fd : FuncData} {ps : List Str} {sp : Sp}
theorem FnG.of (F : FnOk P w K mg base CX k f fd ps sp) : FnG P w K mg base CX k f fd ps sp := ⟨F.len, fun A o s H a us vs Q E _ => F.run A o s H a us vs Q E⟩
theorem FnG.mono {j : Nat} (F : FnG P w K mg base CX j f fd ps sp) (h : j ≤ k) : FnG P w K mg base CX k f fd ps sp := ⟨F.len, fun A o s H a us vs Q E hg hr => F.go A o s H a us vs Q E hg (hr.mono h)⟩
/-- a def's body, nothing being shown around it -/
theorem okG {x qual : Str} {st : Stmt} {N : List Str} (F : Fun K x qual st f fd) (S : FnScope N ps (defScope st)) (len : ∀ vs H Q E, sp vs H Q E → vs.length = ps.length)
    (hbody : ∀ (cdv : Value) (A : Around) (outer : List Env) (s : Shared) (H : Hp) (vs : List V) (Q : VK) (E : XK), (A.deeper (envOfC qual (defScope st) s.heap.objs.size f cdv)).guards = some [] → Room k (A.deeper (envOfC qual (defScope st) s.heap.objs.size f cdv)) → sp vs H Q E →
      ∃ t, PSs (cxOf CX P w K mg base N qual (defScope st) f cdv A outer s H E) (defBody st) t ∧ t { nx := fun _ H' => Q .non H', rt := Q } (start N vs) H) : FnG P w K mg base CX (k + 1) f fd ps sp := by
  refine ⟨len, fun A outer s H args us vs Q E hg hr e0 hb rv hs => ?_⟩
  -- the same def, told of a promise that holds of this call alone
  obtain ⟨oc, od, kV, doc, pm, an, cdv, ct, osl, rfl, lk, hcd⟩ := F.ex
  have KX : K.In s.heap := e0.mod.kin.keeps fun b o e => (e0.bs b o e).1
  have LX : s.heap.NoLimit := e0.mod.nolimit.keeps fun b o e => (e0.bs b o e).1
  have hkind : ∀ y ∈ ps.zip us, (defScope st).names.lookup y.1 = some .local ∨ ((defScope st).names.lookup y.1 = some .cell ∧ ((cellsFrom (s.heap.objs.size + 1) (defScope st).names []).lookup y.1).isSome = true) := fun y hy => by
    rcases S.par y.1 (List.of_mem_zip hy).1 with q | q
    · exact .inl q
    · exact .inr ⟨q, PySem.W.cellsFrom_some _ _ _ (.inl q)⟩
  refine codeAny_call_function hr.depth (KX _ _ lk) rfl S.co S.gen rfl (PySem.W.codeRec_of KX hcd) (hb _ _ _ _ (wpAny_newFunctionEnv_cells S.kind hkind fun env he s1 x => ?_))
  subst he
  refine ⟨LX.keeps x.toInCall.keep, codeAny_func ?_⟩
  obtain ⟨t, ht, hq⟩ := hbody cdv A outer s H vs Q E hg (hr.deeper _) hs
  have I := inv_start (CX := CX) (E := E) S hr.hd e0 (len _ _ _ _ hs) rv x
  refine wpAny_mono (ht.run [] s1 (start N vs) H _ I hq) (fun fl s' z => ?_) fun e s' z => z
  cases fl with
  | ret u =>
    obtain ⟨v, σ', H', J, r1, q⟩ := z
    exact ⟨v, H', J.os, J.bare, J.base, J.hok, r1, q⟩
  | next =>
    obtain ⟨σ', H', J, q⟩ := z
    exact ⟨V.non, H', J.os, J.bare, J.base, J.hok, rfl, q⟩
  | brk =>
    obtain ⟨_, _, _, q⟩ := z
    exact q.elim
  | cont =>
    obtain ⟨_, _, _, q⟩ := z
    exact q.elim
theorem okG0 {x qual : Str} {st : Stmt} {N : List Str} (F : Fun K x qual st f fd) (S : FnScope N ps (defScope st)) (len : ∀ vs H Q E, sp vs H Q E → vs.length = ps.length)
    (hbody : ∀ (cdv : Value) (A : Around) (outer : List Env) (s : Shared) (H : Hp) (vs : List V) (Q : VK) (E : XK), (A.deeper (envOfC qual (defScope st) s.heap.objs.size f cdv)).guards = some [] → Room k (A.deeper (envOfC qual (defScope st) s.heap.objs.size f cdv)) → sp vs H Q E →
      ∃ t, PSs (cxOf CX0 P w K mg base N qual (defScope st) f cdv A outer s H E).nox (defBody st) t ∧ t { nx := fun _ H' => Q .non H', rt := Q } (start N vs) H) : FnG P w K mg base CX0 (k + 1) f fd ps sp :=
  okG F S len fun cdv A outer s H vs Q E hg hr hs => let ⟨t, h, q⟩ := hbody cdv A outer s H vs Q E hg hr hs; ⟨t, h.nox, q⟩
end
section
variable {X : Cx} {CX : CXT} {k : Nat} {f : Addr} {fd : FuncData} {ps ks : List Str} {sp : Sp} {dvs : List V} {ds : List Value} {E : XK} {x : Str} {p pos : Pos} {e : Expr} {es : List Expr} {kws : List Keyword} {t tk : TA}
  {g : List Value → List Value → List Value} {gV : List V → List V → List V}
theorem endG {pins : List (Addr × Obj)} {σ : L2.St} {H : Hp} {s : Shared} {Q : VK} {args : Args} (hx : Passes CX X E) (I : Inv X pins σ H s) (h : codeAny (model X.prog X.w) X.A (.call (.ref f) args) (CR CX X.stack X.prog X.w H s Q E) s) :
    codeAny (model X.prog X.w) X.A (.call (.ref f) args) (fun r s' => match r with
      | .ok (.ret u) => EP X pins σ Q u s'
      | .ok _ => False
      | .error e => X.xe e s') s :=
  codeAny_mono h fun r s' hq => by
    cases r with
    | error e => exact hx pins σ H s e s' I hq
    | ok fl => cases fl with
      | ret u => exact I.after hq
      | next => exact hq
      | brk => exact hq
      | cont => exact hq
theorem runG {pins : List (Addr × Obj)} {σ : L2.St} {H : Hp} {s : Shared} {Q : VK} {us : List Value} {vs : List V} (F : FnG X.prog X.w X.K X.mg X.base CX k f fd ps sp) (hG : X.A.guards = some []) (hr : Room k X.A) (hb : Binds X.K fd ps ds) (hd : Vals dvs ds) (hx : Passes CX X E)
    (I : Inv X pins σ H s) (r : Vals vs us) (h : sp (vs ++ dvs) H Q E) : wpAny (model X.prog X.w) X.A (call (.ref f) us) (EP X pins σ Q) X.xe s := by
  have r2 := r.append hd
  have hl : (us ++ ds).length = ps.length := r2.length.symm.trans (F.len _ _ _ _ h)
  refine wpAny_call (codeAny_mono (endG (Q := Q) hx I (F.go X.A X.stack s H ⟨us, []⟩ (us ++ ds) (vs ++ dvs) Q E hG hr I.env0 (hb s us I.kIn hl) r2 h)) fun r s' hq => ?_)
  cases r with
  | error e => exact hq
  | ok fl => cases fl with
    | ret u => exact hq
    | next => exact hq.elim
    | brk => exact hq.elim
    | cont => exact hq.elim
theorem pe_callG (F : FnG X.prog X.w X.K X.mg X.base CX k f fd ps sp) (hG : X.A.guards = some []) (hr : Room k X.A) (hg : Gl X x) (hm : X.mg x = some (.ref f)) (hk : PySem.W.keepIn X.K (.ref f) = true) (hb : Binds X.K fd ps ds) (hd : Vals dvs ds) (hx : Passes CX X E)
    (ha : PA X (e :: es) t) (hdb : (x == ("__debug__" : Str)) = false := by decide) (st : starEach (e :: es) X.env = (false, eval e X.env) :: starEach es X.env := by rfl) (pl : (backTo pos (starEach es X.env)).any (·.1) = false := by rfl) :
    PE X (.Call (.Name x p) (e :: es) [] pos) (tCall sp dvs E t) :=
  ⟨fun pins s σ H Q I h => wpAny_Call_Name_kw (ld_glob I hg hm (PySem.W.callWith_K (h₀ := X.base) I.ok.mod.kin hk (thn (ha.run pos pins s σ H _ I h) fun us s1 ⟨vs, H1, I1, r, q⟩ => ⟨I1.kIn, runG F hG hr hb hd hx I1 r q⟩) st pl) hdb)⟩
/-- f(k = v, ..), keywords alone; the promise is of the parameters in the def's order -/
theorem pe_kwG (F : FnG X.prog X.w X.K X.mg X.base CX k f fd ps sp) (hG : X.A.guards = some []) (hr : Room k X.A) (hg : Gl X x) (hm : X.mg x = some (.ref f)) (hk : PySem.W.keepIn X.K (.ref f) = true) (hb : KBinds X.K fd ps ks g gV) (hx : Passes CX X E)
    (hkw : PK X kws tk) (hall : (backToKw pos (keywordEach kws X.env)).all (·.1.isSome) = true := by rfl) (hks : (backToKw pos (keywordEach kws X.env)).filterMap (·.1) = ks := by rfl)
    (hdb : (x == ("__debug__" : Str)) = false := by decide) (pl : ((backTo pos (starEach [] X.env)).any (·.1) || (backToKw pos (keywordEach kws X.env)).any (·.1.isNone)) = false := by rfl) :
    PE X (.Call (.Name x p) [] kws pos) (tCallK sp gV E tNil tk) := by
  refine ⟨fun pins s σ H Q I h => wpAny_Call_Name_kw (ld_glob I hg hm ?_ hdb)⟩
  refine PySem.W.callWith_KW0 (h₀ := X.base) I.ok.mod.kin hk hall (thn (hkw.run pos pins s σ H _ I h) fun ws s1 ⟨zs, H1, I1, rz, q⟩ => ⟨I1.kIn, ?_⟩) pl
  rw [hks]
  have r2 := hb.rel .nil rz
  have hl : (g [] ws).length = ps.length := r2.length.symm.trans (F.len _ _ _ _ q)
  refine wpAny_call (codeAny_mono (endG (Q := Q) hx I1 (F.go X.A X.stack _ H1 ⟨[], ks.zip ws⟩ (g [] ws) (gV [] zs) Q E hG hr I1.env0 (hb.to _ [] ws I1.kIn hl) r2 q)) fun r s' hq => ?_)
  cases r with
  | error e => exact hq
  | ok fl => cases fl with
    | ret u => exact hq
    | next => exact hq.elim
    | brk => exact hq.elim
    | cont => exact hq.elim
end

/-! ### what a piece of code leaves as it was: all but the things in S; tables of code grow -/
structure Kp (S : List Addr) (H H' : Hp) : Prop where
  at_ : ∀ b o, b ∉ S → H b = some o → (∀ ps, o ≠ .tbl ps) → H' b = some o
  tab : ∀ b, GxR.TabG H b → GxR.TabG H' b
  tr_ : ∀ b, H b ≠ none → H' b ≠ none
theorem Kp.rfl' {S : List Addr} {H : Hp} : Kp S H H := ⟨fun _ _ _ h _ => h, fun _ h => h, fun _ h => h⟩
theorem Kp.tr {S : List Addr} {H H1 H2 : Hp} (a : Kp S H H1) (b : Kp S H1 H2) : Kp S H H2 := ⟨fun c o n h t => b.at_ c o n (a.at_ c o n h t) t, fun c h => b.tab c (a.tab c h), fun c h => b.tr_ c (a.tr_ c h)⟩
theorem Kp.wk {S S' : List Addr} {H H1 : Hp} (a : Kp S H H1) (h : ∀ x ∈ S, x ∈ S') : Kp S' H H1 := ⟨fun c o n q t => a.at_ c o (fun z => n (h c z)) q t, a.tab, a.tr_⟩
theorem Kp.of0 {S : List Addr} {H H1 : Hp} (a : Kp [] H H1) : Kp S H H1 := a.wk fun _ h => by cases h
theorem upd_tr {H : Hp} {p b : Addr} {o : HO} (h : H b ≠ none) : upd H p o b ≠ none := by
  by_cases e : b = p
  · rw [e, upd_same]; exact fun z => by cases z
  · rw [upd_ne e]; exact h
/-- a new thing -/
theorem Kp.new {S : List Addr} {H : Hp} {p : Addr} {o : HO} (n : H p = none) : Kp S H (upd H p o) :=
  ⟨fun b u _ h _ => by rw [upd_ne (ne_of_none h n)]; exact h, fun b ⟨ps, h, t⟩ => ⟨ps, by rw [upd_ne (ne_of_none h n)]; exact h, t⟩, fun b h => upd_tr h⟩
/-- a list (or another thing that is no table) of S is written -/
theorem Kp.put {S : List Addr} {H : Hp} {p : Addr} {o u : HO} (hp : p ∈ S) (h : H p = some u) (nt : ∀ ps, u ≠ .tbl ps) : Kp S H (upd H p o) :=
  ⟨fun b v n q _ => by rw [upd_ne (fun z => n (by rw [z]; exact hp))]; exact q, fun b ⟨ps, q, t⟩ => ⟨ps, by rw [upd_ne (fun z => by rw [z, h] at q; exact nt ps (Option.some.inj q))]; exact q, t⟩, fun b h => upd_tr h⟩
/-- a new thing that was written again is still new to what stood before -/
theorem Kp.drop {S : List Addr} {H H1 : Hp} {p : Addr} (n : H p = none) (k : Kp (p :: S) H H1) : Kp S H H1 :=
  ⟨fun b o nb h t => k.at_ b o (fun z => by
    rcases List.mem_cons.mp z with z | z
    · rw [z, n] at h; cases h
    · exact nb z) h t, k.tab, k.tr_⟩
theorem Kp.tabbed {S : List Addr} {H H1 : Hp} {P : Addr} (h0 : GxR.TabG H P) (h : GxR.Tabbed P H H1) : Kp S H H1 :=
  ⟨fun b o _ q t => by
    have nb : b ≠ P := fun z => by
      obtain ⟨ps, e, _⟩ := h0
      rw [z, e] at q
      exact t ps (Option.some.inj q).symm
    rw [h.2 b nb]
    exact q, fun b ⟨ps, q, t⟩ => by
    by_cases nb : b = P
    · rw [nb]; exact h.1
    · exact ⟨ps, by rw [h.2 b nb]; exact q, t⟩, fun b q => by
    by_cases nb : b = P
    · obtain ⟨ps, e, _⟩ := h.1
      rw [nb, e]; exact fun z => by cases z
    · rw [h.2 b nb]; exact q⟩
theorem Kp.lst {S : List Addr} {H H1 : Hp} (k : Kp S H H1) {b : Addr} {xs : List V} (nb : b ∉ S) (h : H b = some (.lst xs)) : H1 b = some (.lst xs) := k.at_ b _ nb h fun ps z => by cases z
theorem Kp.tup {S : List Addr} {H H1 : Hp} (k : Kp S H H1) {b : Addr} {xs : List V} (nb : b ∉ S) (h : H b = some (.tup xs)) : H1 b = some (.tup xs) := k.at_ b _ nb h fun ps z => by cases z
theorem Kp.ins {S : List Addr} {H H1 : Hp} (k : Kp S H H1) {b C dx : Addr} {fs : List (Str × V)} (nb : b ∉ S) (h : H b = some (.ins C dx fs)) : H1 b = some (.ins C dx fs) := k.at_ b _ nb h fun ps z => by cases z
theorem Kp.seq {S : List Addr} {K : PySem.W.Frag} {H H1 : Hp} (k : Kp S H H1) {b : Addr} {xs : List V} (nb : b ∉ S) (h : SqL K H b xs) : SqL K H1 b xs := by
  rcases h with (h | ⟨o, h⟩) | h
  · exact .inl (.inl (k.lst nb h))
  · exact .inl (.inr ⟨o, k.at_ b _ nb h fun ps z => by cases z⟩)
  · exact .inr h
theorem Kp.free {S : List Addr} {H H1 : Hp} (k : Kp S H H1) {b : Addr} (nb : b ∉ S) (h : H1 b = none) (ht : ¬ GxR.TabG H b) (hn : ∀ ps, H b ≠ some (.tbl ps)) : H b = none := by
  cases q : H b with
  | none => rfl
  | some o =>
    rw [k.at_ b o nb q (fun ps z => hn ps (by rw [q, z]))] at h
    cases h

/-! ### data in the heap, none of it in S -/
mutual
inductive Dx (S : List Addr) (H : Hp) : V → PyData → Prop
  | non : Dx S H .non .none
  | bl (b : Bool) : Dx S H (.bl b) (.bool b)
  | int (i : Int) : Dx S H (.int i) (.int i)
  | str (z : Str) : Dx S H (.str z) (.str z)
  | lst {a : Addr} {xs : List V} {ds : List PyData} (n : a ∉ S) (h : H a = some (.lst xs)) (r : DxA S H xs ds) : Dx S H (.ref a) (.list ds)
  | tup {a : Addr} {xs : List V} {ds : List PyData} (n : a ∉ S) (h : H a = some (.tup xs)) (r : DxA S H xs ds) : Dx S H (.ref a) (.tuple ds)
  | dic {a : Addr} (n : a ∉ S) (h : H a = some (.dK [])) : Dx S H (.ref a) (.dict [])
inductive DxA (S : List Addr) (H : Hp) : List V → List PyData → Prop
  | nil : DxA S H [] []
  | cons {v : V} {vs : List V} {d : PyData} {ds : List PyData} (h : Dx S H v d) (t : DxA S H vs ds) : DxA S H (v :: vs) (d :: ds)
end
mutual
theorem Dx.kp {S S' : List Addr} {H H1 : Hp} (k : Kp S H H1) (hs : ∀ x ∈ S, x ∈ S') : ∀ {v : V} {d : PyData}, Dx S' H v d → Dx S' H1 v d
  | _, _, .non => .non
  | _, _, .bl b => .bl b
  | _, _, .int i => .int i
  | _, _, .str z => .str z
  | _, _, .lst n h r => .lst n (k.lst (fun z => n (hs _ z)) h) (DxA.kp k hs r)
  | _, _, .tup n h r => .tup n (k.tup (fun z => n (hs _ z)) h) (DxA.kp k hs r)
  | _, _, .dic n h => .dic n (k.at_ _ _ (fun z => n (hs _ z)) h fun ps z => by cases z)
theorem DxA.kp {S S' : List Addr} {H H1 : Hp} (k : Kp S H H1) (hs : ∀ x ∈ S, x ∈ S') : ∀ {v : List V} {d : List PyData}, DxA S' H v d → DxA S' H1 v d
  | _, _, .nil => .nil
  | _, _, .cons h t => .cons (Dx.kp k hs h) (DxA.kp k hs t)
end
mutual
/-- what is there is none of what is new -/
theorem Dx.ap {S : List Addr} {H : Hp} {p : Addr} (n : H p = none) : ∀ {v : V} {d : PyData}, Dx S H v d → Dx (p :: S) H v d
  | _, _, .non => .non
  | _, _, .bl b => .bl b
  | _, _, .int i => .int i
  | _, _, .str z => .str z
  | _, _, .lst m h r => .lst (by simpa using ⟨ne_of_none h n, m⟩) h (DxA.ap n r)
  | _, _, .tup m h r => .tup (by simpa using ⟨ne_of_none h n, m⟩) h (DxA.ap n r)
  | _, _, .dic m h => .dic (by simpa using ⟨ne_of_none h n, m⟩) h
theorem DxA.ap {S : List Addr} {H : Hp} {p : Addr} (n : H p = none) : ∀ {v : List V} {d : List PyData}, DxA S H v d → DxA (p :: S) H v d
  | _, _, .nil => .nil
  | _, _, .cons h t => .cons (Dx.ap n h) (DxA.ap n t)
end
mutual
theorem Dx.wk {S S' : List Addr} {H : Hp} (hs : ∀ x ∈ S', x ∈ S) : ∀ {v : V} {d : PyData}, Dx S H v d → Dx S' H v d
  | _, _, .non => .non
  | _, _, .bl b => .bl b
  | _, _, .int i => .int i
  | _, _, .str z => .str z
  | _, _, .lst m h r => .lst (fun z => m (hs _ z)) h (DxA.wk hs r)
  | _, _, .tup m h r => .tup (fun z => m (hs _ z)) h (DxA.wk hs r)
  | _, _, .dic m h => .dic (fun z => m (hs _ z)) h
theorem DxA.wk {S S' : List Addr} {H : Hp} (hs : ∀ x ∈ S', x ∈ S) : ∀ {v : List V} {d : List PyData}, DxA S H v d → DxA S' H v d
  | _, _, .nil => .nil
  | _, _, .cons h t => .cons (Dx.wk hs h) (DxA.wk hs t)
end
theorem DxA.len {S : List Addr} {H : Hp} : ∀ {vs : List V} {ds : List PyData}, DxA S H vs ds → vs.length = ds.length
  | _, _, .nil => rfl
  | _, _, .cons _ t => by rw [List.length_cons, List.length_cons, DxA.len t]
theorem DxA.get {S : List Addr} {H : Hp} : ∀ {vs : List V} {ds : List PyData} {i : Nat} {v : V}, DxA S H vs ds → vs[i]? = some v → ∃ d, ds[i]? = some d ∧ Dx S H v d
  | _, _, _, _, .nil, h => by cases h
  | _, _, 0, _, .cons a _, h => by cases h; exact ⟨_, rfl, a⟩
  | _, _, i + 1, _, .cons _ t, h => DxA.get (i := i) t (by simpa using h)
theorem DxA.get' {S : List Addr} {H : Hp} : ∀ {vs : List V} {ds : List PyData} {i : Nat} {d : PyData}, DxA S H vs ds → ds[i]? = some d → ∃ v, vs[i]? = some v ∧ Dx S H v d
  | _, _, _, _, .nil, h => by cases h
  | _, _, 0, _, .cons a _, h => by cases h; exact ⟨_, rfl, a⟩
  | _, _, i + 1, _, .cons _ t, h => DxA.get' (i := i) t (by simpa using h)
theorem DxA.app {S : List Addr} {H : Hp} : ∀ {vs ws : List V} {ds es : List PyData}, DxA S H vs ds → DxA S H ws es → DxA S H (vs ++ ws) (ds ++ es)
  | _, _, _, _, .nil, h => h
  | _, _, _, _, .cons a t, h => .cons a (DxA.app t h)
mutual
/-- what the layer calls data: no dict in it -/
theorem Dx.dp {S : List Addr} {K : PySem.W.Frag} {H : Hp} : ∀ {v : V} {d : PyData}, Dx S H v d → d.hasDict = false → Dp K H v d
  | _, _, .non, _ => .non
  | _, _, .bl b, _ => .bl b
  | _, _, .int i, _ => .int i
  | _, _, .str z, _ => .str z
  | _, _, .lst n h r, e => .lst (SqL.of h) (DxA.dp r (by simpa [PyData.hasDict] using e))
  | _, _, .tup n h r, e => .tup (SqT.of h) (DxA.dp r (by simpa [PyData.hasDict] using e))
  | _, _, .dic n h, e => by simp [PyData.hasDict] at e
theorem DxA.dp {S : List Addr} {K : PySem.W.Frag} {H : Hp} : ∀ {v : List V} {d : List PyData}, DxA S H v d → PyData.hasDictAll d = false → DpAll K H v d
  | _, _, .nil, _ => .nil
  | _, _, @DxA.cons _ _ v vs d ds h t, e => by
    have e2 : PyData.hasDict d = false ∧ PyData.hasDictAll ds = false := by simpa [PyData.hasDictAll] using e
    exact .cons (Dx.dp h e2.1) (DxA.dp t e2.2)
end

/-- new data: none of it stood in H -/
def Nw (H H' : Hp) (v : V) (d : PyData) : Prop := ∀ S : List Addr, (∀ s ∈ S, H s ≠ none) → Dx S H' v d
def NwA (H H' : Hp) (vs : List V) (ds : List PyData) : Prop := ∀ S : List Addr, (∀ s ∈ S, H s ≠ none) → DxA S H' vs ds
theorem Nw.tup {H H1 : Hp} {p : Addr} {xs : List V} {ds : List PyData} (k : ∀ b, H b ≠ none → H1 b ≠ none) (n : H1 p = none) (h : NwA H H1 xs ds) : Nw H (upd H1 p (.tup xs)) (.ref p) (.tuple ds) := fun S t =>
  .tup (fun z => k p (t p z) n) upd_same ((h S t).kp (Kp.new (S := []) n) fun _ z => by cases z)
theorem Nw.lst {H H1 : Hp} {p : Addr} {xs : List V} {ds : List PyData} (k : ∀ b, H b ≠ none → H1 b ≠ none) (n : H1 p = none) (h : NwA H H1 xs ds) : Nw H (upd H1 p (.lst xs)) (.ref p) (.list ds) := fun S t =>
  .lst (fun z => k p (t p z) n) upd_same ((h S t).kp (Kp.new (S := []) n) fun _ z => by cases z)
theorem NwA.nil {H H1 : Hp} : NwA H H1 [] [] := fun _ _ => .nil
theorem NwA.cons {H H1 : Hp} {v : V} {vs : List V} {d : PyData} {ds : List PyData} (h : Nw H H1 v d) (t : NwA H H1 vs ds) : NwA H H1 (v :: vs) (d :: ds) := fun S z => .cons (h S z) (t S z)
theorem Nw.int {H H1 : Hp} (i : Int) : Nw H H1 (.int i) (.int i) := fun _ _ => .int i
theorem Nw.non {H H1 : Hp} : Nw H H1 .non .none := fun _ _ => .non
theorem Nw.bl {H H1 : Hp} (b : Bool) : Nw H H1 (.bl b) (.bool b) := fun _ _ => .bl b
theorem Nw.str {H H1 : Hp} (z : Str) : Nw H H1 (.str z) (.str z) := fun _ _ => .str z
theorem Nw.kp {H H1 H2 : Hp} {v : V} {d : PyData} (h : Nw H H1 v d) (k : Kp [] H1 H2) : Nw H H2 v d := fun S t => (h S t).kp k fun _ z => by cases z
theorem NwA.kp {H H1 H2 : Hp} {v : List V} {d : List PyData} (h : NwA H H1 v d) (k : Kp [] H1 H2) : NwA H H2 v d := fun S t => (h S t).kp k fun _ z => by cases z
/-- what was written stood before -/
theorem Nw.kpS {H H1 H2 : Hp} {S0 : List Addr} {v : V} {d : PyData} (h : Nw H H1 v d) (k : Kp S0 H1 H2) (hs : ∀ s ∈ S0, H s ≠ none) : Nw H H2 v d := fun S t =>
  ((h (S0 ++ S) fun s z => by rcases List.mem_append.mp z with z | z <;> first | exact hs s z | exact t s z).kp k fun x z => List.mem_append_left _ z).wk fun x z => List.mem_append_right _ z
theorem NwA.kpS {H H1 H2 : Hp} {S0 : List Addr} {v : List V} {d : List PyData} (h : NwA H H1 v d) (k : Kp S0 H1 H2) (hs : ∀ s ∈ S0, H s ≠ none) : NwA H H2 v d := fun S t =>
  ((h (S0 ++ S) fun s z => by rcases List.mem_append.mp z with z | z <;> first | exact hs s z | exact t s z).kp k fun x z => List.mem_append_left _ z).wk fun x z => List.mem_append_right _ z
theorem Nw.old {H0 H H1 : Hp} {v : V} {d : PyData} (k : ∀ b, H0 b ≠ none → H b ≠ none) (h : Nw H H1 v d) : Nw H0 H1 v d := fun S t => h S fun s z => k s (t s z)
theorem NwA.old {H0 H H1 : Hp} {v : List V} {d : List PyData} (k : ∀ b, H0 b ≠ none → H b ≠ none) (h : NwA H H1 v d) : NwA H0 H1 v d := fun S t => h S fun s z => k s (t s z)
theorem NwA.app {H H1 : Hp} {v w : List V} {d e : List PyData} (h : NwA H H1 v d) (h2 : NwA H H1 w e) : NwA H H1 (v ++ w) (d ++ e) := fun S t => (h S t).app (h2 S t)
theorem NwA.ints {H H1 : Hp} : ∀ ns : List Int, NwA H H1 (ns.map V.int) (ns.map PyData.int)
  | [] => .nil
  | n :: r => .cons (.int n) (NwA.ints r)

/-! ### repr of data -/
section
variable {X : Cx}
theorem call_repr {j : Nat} (hG : X.A.guards = some []) (rm : Room j X.A) : CallR X (.builtin "repr") (fun xs H Q => ∃ (x : V) (d : PyData), xs = [x] ∧ Dp X.K H x d ∧ d.showable = true ∧ d.hasDict = false ∧ d.depth < 150 ∧ d.shown.length ≤ sizeLine ∧ (∃ a, x = .ref a) ∧ Q (.str d.shown) H) := by
  intro pins s σ H xs us Q I r h
  obtain ⟨x, d, rfl, hd, h1, h2, h3, h4, ⟨a, rfl⟩, q⟩ := h
  obtain ⟨u, rfl, ru⟩ := vals1 r
  obtain ⟨as, hr⟩ := hd.reads I d _ u ru
  obtain rfl : u = Value.ref a := ru
  have hu := rm.un
  refine repr_of_reads' hr h1 (fun e => by rw [h2] at e; cases e) hG (by omega) (fun _ _ e => e) (fun h' u tk hk => ?_) h4
  exact ⟨.str d.shown, H, I.kept (t' := tk) hk, ⟨u, rfl⟩, q⟩
/-- as call_isi, the written part told (in a comprehension's block it can't be read off) -/
theorem call_isiK {K : PySem.W.Frag} (h : X.K = K) : CallR X (.builtin "isinstance") (rIsi K) := h ▸ call_isi
theorem ix_tupK {K : PySem.W.Frag} (h : X.K = K) : IxR X (rIxT K) := h ▸ ix_tup
theorem ix_listK {K : PySem.W.Frag} (h : X.K = K) : IxR X (rIxL K) := h ▸ ix_list
/-! ### powers of great numbers; xs[i] op= e -/
def CPowW (i j : Int) : Prop := 0 ≤ j ∧ (Builtin.Int.intBits i : Int) * j ≤ 2 ^ 27
theorem op_powW : OpR X (binaryOp .Pow) (rI CPowW fun i j => .int (i ^ j.toNat)) := opI fun i j _ _ _ _ _ hc q => PyProof.Rows.pow_int hc.1 hc.2 q
def rCatL (K : PySem.W.Frag) : R2 := fun x y H Q => ∃ l b xs zs, x = .ref l ∧ y = .ref b ∧ SqL K H l xs ∧ SqL K H b zs ∧ xs.length + zs.length ≤ sizeLine ∧ ∀ p, H p = none → Q (.ref p) (upd H p (.lst (xs ++ zs)))
/-- list + list, also of a list that no one may write -/
theorem op_catL : OpR X (binaryOp .Add) (rCatL X.K) := by
  intro pins s σ H x y v u Q I rx ry h
  obtain ⟨l, b, xs, zs, rfl, rfl, hH, hB, hz, q⟩ := h
  cases rx
  cases ry
  obtain ⟨its, r, pl, _⟩ := I.list hH
  obtain ⟨its2, r2, pl2, _⟩ := I.list hB
  have hl := r.length
  have hl2 := r2.length
  obtain ⟨⟨cls, dd, data, sl⟩, ho, hc, n, hd⟩ := id pl.isList
  obtain ⟨⟨cls2, dd2, data2, sl2⟩, ho2, hc2, n2, hd2⟩ := id pl2.isList
  simp only at hc hd hc2 hd2
  subst hc hd hc2 hd2
  have e : its.toArray ++ its2.toArray = (its ++ its2).toArray := by simp
  refine concat_meets ⟨_, ho, rfl⟩ ⟨_, ho2, rfl⟩ noFill_list_add seq_list_add PySem.F.slot_list_add PySem.F.entry_list_add (PySem.F.args_list_add_2 _ _) (list_addW l b its.toArray its2.toArray n n2 dd dd2 sl sl2 (by rw [List.size_toArray, List.size_toArray]; omega)) ⟨ho, ho2, ?_⟩
  rw [e]
  exact ⟨.ref _, _, I.lnew (t' := s.toks) (r.append r2) (by rw [List.length_append]; omega), rfl, q _ I.fresh⟩
def rGetL (K : PySem.W.Frag) : V → V → Hp → VK → Prop := fun x y H Q => ∃ (p : Addr) (xs : List V) (j : Nat) (v : V), x = .ref p ∧ y = .int j ∧ SqL K H p xs ∧ xs[j]? = some v ∧ Q v H
theorem pget_list : PGet X (rGetL X.K) := by
  intro pins s σ H o i ov iv Q I r1 r2 h
  obtain ⟨p, xs, j, v, rfl, rfl, hq, hv, q⟩ := h
  obtain rfl : ov = Value.ref p := r1
  obtain ⟨t, rfl⟩ := r2
  obtain ⟨its, r, pl, hz⟩ := I.list hq
  obtain ⟨u, hu, ru⟩ := r.get hv
  have hj := (List.getElem?_eq_some_iff.mp hu).1
  have hl := r.length
  have h63 := line63
  exact getItem_listL pl.isList (by omega) (by omega) (by simpa using hu) ⟨v, H, I, ru, q⟩
end
theorem pow_ok {i : Int} {n e : Nat} (h : i.natAbs < 2 ^ n) (hn : 0 < n) (hz : n * e ≤ 2 ^ 27) : CPowW i (e : Int) := by
  refine ⟨by omega, ?_⟩
  have h1 : Builtin.Int.intBits i ≤ n := by
    have q := PySem.Flt.log2_lt_of hn h
    unfold Builtin.Int.intBits
    split <;> omega
  have h2 : Builtin.Int.intBits i * e ≤ n * e := Nat.mul_le_mul_right e h1
  have h3 : ((Builtin.Int.intBits i * e : Nat) : Int) ≤ ((2 ^ 27 : Nat) : Int) := Int.ofNat_le.mpr (Nat.le_trans h2 hz)
  rw [Int.natCast_mul] at h3
  exact h3
end Em

namespace Em
open PySem PySem.Spec PyProof.Rows L2 Qt

/-! ### a law's end: nothing is being shown around the law's call -/
def LawG (l : PySem.W.OpenLaw) (w : World) (K : PySem.W.Frag) (k n : Nat) (x : Str) (mg : Str → Option Value) (fa : Addr) (h : Heap) : Prop :=
  ∃ (fd : FuncData) (cs : List (Addr × Addr)) (sp : Sp), (∀ p ∈ cs, h.get? p.2 = some { cls := .none, data := .fields #[] } ∧ K.lookup p.2 = none ∧ PySem.W.CodeHd h p.1 p.2) ∧ (∀ (s : Shared) (u : Value), BindsTo s fd ⟨[u], []⟩ [(x, u)]) ∧
    (∀ (H : Hp) (a : Addr) (ns : List Int), ns.length ≤ n → (∀ z ∈ ns, Builtin.Int.intBits z ≤ 1048576) → (∀ p ∈ cs, H p.2 = some (.tbl #[])) → SqL K H a (ns.map V.int) → sp [.ref a] H (fun v _ => v = .bl true) fun _ _ _ => False) ∧
    ∀ base : Heap, K.In base → base.Ns mainGlobals mg → (∀ p ∈ cs, GxR.TabB base mg p.1 p.2) → FnG l.prog w K mg base CX0 k fa fd [x] sp

section
variable {P : Program} {w : World} {K : PySem.W.Frag} {mg mb : Str → Option Value} {k : Nat} {fa a : Addr} {cs : List (Addr × Addr)} {fd : FuncData} {x : Str} {sp : Sp} {s : Shared} {vs : List Value} {ns : List Int}
/-- what is tracked as the law begins: the tables, and the script if it is no written thing -/
def hp0 (K : PySem.W.Frag) (cs : List (Addr × Addr)) (a : Addr) (vs : List Value) (ns : List Int) : Hp := fun b =>
  if b ∈ cs.map (·.2) then some (.tbl #[]) else if b = a ∧ K.lookup a = none then some (.frz { cls := .type "list", data := .seq vs.toArray } (.lst (ns.map V.int))) else none
theorem hp0_tab {b : Addr} (h : b ∈ cs.map (·.2)) : hp0 K cs a vs ns b = some (.tbl #[]) := by unfold hp0; rw [if_pos h]
theorem hp0_scr (h : a ∉ cs.map (·.2)) (hk : K.lookup a = none) : hp0 K cs a vs ns a = some (.frz { cls := .type "list", data := .seq vs.toArray } (.lst (ns.map V.int))) := by
  unfold hp0; rw [if_neg h, if_pos ⟨rfl, hk⟩]
theorem hp0_cases {b : Addr} {o : HO} (h : hp0 K cs a vs ns b = some o) : (b ∈ cs.map (·.2) ∧ o = .tbl #[]) ∨ (b ∉ cs.map (·.2) ∧ b = a ∧ K.lookup a = none ∧ o = .frz { cls := .type "list", data := .seq vs.toArray } (.lst (ns.map V.int))) := by
  unfold hp0 at h
  by_cases h1 : b ∈ cs.map (·.2)
  · rw [if_pos h1] at h; exact .inl ⟨h1, (Option.some.inj h).symm⟩
  · rw [if_neg h1] at h
    by_cases h2 : b = a ∧ K.lookup a = none
    · rw [if_pos h2] at h; exact .inr ⟨h1, h2.1, h2.2, (Option.some.inj h).symm⟩
    · rw [if_neg h2] at h; cases h

theorem law_endG (KX : K.In s.heap) (n1 : s.heap.Ns mainGlobals mg) (n2 : s.heap.Ns builtinsNs mb) (n3 : ∀ x : Str, x ≠ "__name__" → mb x = bootBuiltins x) (lim : s.heap.NoLimit) (hg : s.gens = #[])
    (hT : ∀ p ∈ cs, s.heap.get? p.2 = some { cls := .none, data := .fields #[] } ∧ K.lookup p.2 = none ∧ PySem.W.CodeHd s.heap p.1 p.2)
    (hbm : ∃ (bm : Addr) (ob : Obj), mg "__builtins__" = some (.ref bm) ∧ bm ≠ builtinsNs ∧ s.heap.get? bm = some ob ∧ ob.cls = .type "module" ∧ ob.dict = some builtinsNs ∧ ob.data = .plain)
    (ha : s.heap.get? a = some { cls := .type "list", data := .seq vs.toArray }) (hi : IntsAre vs ns) (hl : ns.length ≤ sizeLine) (rm : Room k callerA)
    (F : ∀ base : Heap, K.In base → base.Ns mainGlobals mg → (∀ p ∈ cs, GxR.TabB base mg p.1 p.2) → FnG P w K mg base CX0 k fa fd [x] sp) (hb : ∀ (s : Shared) (u : Value), BindsTo s fd ⟨[u], []⟩ [(x, u)])
    (hsp : ∀ H : Hp, (∀ p ∈ cs, H p.2 = some (.tbl #[])) → SqL K H a (ns.map V.int) → sp [.ref a] H (fun v _ => v = .bl true) fun _ _ _ => False) :
    codeAny (model P w) callerA (.call (.ref fa) ⟨[.ref a], []⟩) (fun r s' => r = .ok (.ret (.bool true)) ∧ OldK s.heap s'.heap ∧ s'.os = s.os ∧ AllBare s'.gens) s := by
  have rv := vals_ints hi
  have lenV := hi.length
  obtain ⟨H, eH⟩ : ∃ H, H = hp0 K cs a vs ns := ⟨_, rfl⟩
  have memT : ∀ p ∈ cs, p.2 ∈ cs.map (·.2) := fun p hp => List.mem_map.mpr ⟨p, hp, rfl⟩
  have tabH : ∀ b, b ∈ cs.map (·.2) → s.heap.get? b = some { cls := .none, data := .fields #[] } ∧ K.lookup b = none := fun b hb => by
    obtain ⟨p, hp, e⟩ := List.mem_map.mp hb
    rw [← e]
    exact ⟨(hT p hp).1, (hT p hp).2.1⟩
  have aT : a ∉ cs.map (·.2) := fun z => by
    have q := (tabH a z).1
    rw [ha] at q
    have q2 : Data.seq vs.toArray _ = Data.fields #[] := congrArg Obj.data (Option.some.inj q)
    cases q2
  have hS : SqL K H a (ns.map V.int) := by
    cases hk : K.lookup a with
    | none => exact .inl (.inr ⟨_, by rw [eH]; exact hp0_scr aT hk⟩)
    | some o =>
      have e := KX a o hk
      rw [ha] at e
      cases e
      exact .inr ⟨_, vs.toArray, _, hk, rfl, rfl, rfl, by rw [List.size_toArray, lenV]; exact hl, by simpa using rv⟩
  have hH : ∀ p ∈ cs, H p.2 = some (.tbl #[]) := fun p hp => by rw [eH]; exact hp0_tab (memT p hp)
  have hok : HOk P w H s.heap := fun b o e => by
    rw [eH] at e
    rcases hp0_cases e with ⟨h1, rfl⟩ | ⟨h1, rfl, hk, rfl⟩
    · exact (tabH b h1).1
    · exact ⟨ha, by rw [List.length_map]; exact hl, vs, _, rv, ha⟩
  -- what is neither a sequence nor an empty table is untracked
  have out : ∀ {b : Addr} {o : Obj}, s.heap.get? b = some o → (∀ us n, o.data ≠ .seq us n) → o.data ≠ .fields #[] → H b = none := fun {b o} e h1 h2 => by
    cases q : H b with
    | none => rfl
    | some u =>
      rw [eH] at q
      rcases hp0_cases q with ⟨h3, _⟩ | ⟨_, h3, _⟩
      · rw [(tabH b h3).1] at e; cases e; exact absurd rfl h2
      · rw [h3, ha] at e; cases e; exact absurd rfl (h1 _ _)
  have keepB : ∀ {b : Addr} {o : Obj}, s.heap.get? b = some o → H b = none → (hidT s.heap H).get? b = some o := fun e n => hidT_get e n
  have nsB : ∀ {b : Addr} {m : Str → Option Value}, s.heap.Ns b m → (hidT s.heap H).Ns b m := fun {b m} ⟨o, es, ep, e, d, r⟩ =>
    ⟨o, es, ep, keepB e (out e (fun us n z => by rw [d] at z; cases z) fun z => by rw [d] at z; cases z), d, r⟩
  have KB : K.In (hidT s.heap H) := fun b o e => keepB (KX b o e) (by
    cases q : H b with
    | none => rfl
    | some u =>
      rw [eH] at q
      rcases hp0_cases q with ⟨h3, _⟩ | ⟨_, h3, h4, _⟩
      · rw [(tabH b h3).2] at e; cases e
      · rw [h3, h4] at e; cases e)
  have MB : L2.Mod K mg (hidT s.heap H) := ⟨KB, nsB n1, ⟨mb, nsB n2, n3⟩, let ⟨mc, h1, h2⟩ := lim; ⟨mc, nsB h1, h2⟩⟩
  have TB : ∀ p ∈ cs, GxR.TabB (hidT s.heap H) mg p.1 p.2 := fun p hp => by
    obtain ⟨t1, t2, o, us, file, tf, flags, tg, inF, text, tt, e1, r1, r2, r3, r4, r5, r6, r7, r8, hne⟩ := hT p hp
    obtain ⟨bm, ob, b1, b2, b3, b4, b5, b6⟩ := hbm
    refine ⟨⟨o, us, file, tf, flags, tg, inF, text, tt, keepB e1 (out e1 (fun vs n z => by rw [r2] at z; cases z) fun z => by rw [r2] at z; cases z; simp at r3), r1, r2, r3, r4, r5, r6, r7, r8, hne⟩,
      ⟨bm, ob, b1, b2, fun q => ?_, fun q => ?_, keepB b3 (out b3 (fun vs n z => by rw [b6] at z; cases z) fun z => by rw [b6] at z; cases z), b4, b5, b6⟩, fun z => ?_⟩
    · obtain ⟨o, es, ep, e, hd, _⟩ := n1
      rw [q, e] at b3; cases b3
      rw [hd] at b6; cases b6
    · rw [q, t1] at b3; cases b3; cases b6
    · obtain ⟨o, es, ep, e, hd, _⟩ := n1
      rw [z, t1] at e; cases e; cases hd
  have e0 : Env0 P w K mg (hidT s.heap H) callerA [] s H := ⟨rfl, MB, fun b o e => of_hidT e, Nat.le_of_eq (hidT_size _ _), trivial, fun b hb => absurd (show b ∈ ([] : List Addr) from hb) (by simp), hok, .of_eq hg⟩
  refine codeAny_mono ((F _ KB (nsB n1) TB).go callerA [] s H ⟨[.ref a], []⟩ [.ref a] [.ref a] _ _ rfl rm e0 (hb s (.ref a)) (.cons rfl .nil) (hsp H hH hS)) fun r s' h => ?_
  cases r with
  | error e => exact absurd (show False from h) (fun z => z)
  | ok fl =>
    cases fl with
    | next => exact absurd (show False from h) (fun z => z)
    | brk => exact absurd (show False from h) (fun z => z)
    | cont => exact absurd (show False from h) (fun z => z)
    | ret u =>
      obtain ⟨v, H', hos, bare, un, hok', r', q⟩ := h
      subst q
      obtain rfl : u = Value.bool true := r'
      have noA : ∀ b : Addr, b ∉ ([] : List Addr) := fun b => by simp
      have same : ∀ b o, b ∉ cs.map (·.2) → s.heap.get? b = some o → s'.heap.get? b = some o := fun b o nb e => by
        cases q : H b with
        | none => exact un.keep b o e q (fun z => absurd (show b ∈ ([] : List Addr) from z) (noA b)) (noA b)
        | some u =>
          have q0 := q
          rw [eH] at q
          rcases hp0_cases q with ⟨h3, _⟩ | ⟨_, h3, h4, rfl⟩
          · exact absurd h3 nb
          · obtain ⟨e1, _⟩ := hok b _ q0
            obtain ⟨e2, _⟩ := hok' b _ (un.frzs b _ _ q0)
            rw [e] at e1
            cases e1
            exact e2
      have more : ∀ b, b ∈ cs.map (·.2) → ∃ m : Array Value, s'.heap.get? b = some { cls := .none, data := .fields m } := fun b hb => by
        obtain ⟨p, hp, e⟩ := List.mem_map.mp hb
        obtain ⟨m, z⟩ := un.tbls p.2 #[] (hH p hp)
        rw [← e]
        exact ⟨_, hok' p.2 _ z⟩
      refine ⟨rfl, ⟨fun b o e => ?_, fun b o e => ?_⟩, hos, bare⟩
      · by_cases hb : b ∈ cs.map (·.2)
        · obtain ⟨m, hm⟩ := more b hb
          obtain ⟨p, hp, ep⟩ := List.mem_map.mp hb
          rw [(tabH b hb).1] at e
          cases e
          refine .inr (.inl ⟨?_, rfl, #[], m, rfl, by rw [Array.empty_append]; exact hm⟩)
          rw [← ep]
          exact ((hT p hp).2.2.tab (hT p hp).1).isCodeTable
        · exact .inl (same b o hb e)
      · by_cases hb : b ∈ cs.map (·.2)
        · obtain ⟨m, hm⟩ := more b hb
          exact ⟨_, hm⟩
        · exact ⟨o, same b o hb e⟩
end
theorem walkG {l : PySem.W.OpenLaw} {n k : Nat} {q : Program} {loose : List Str} {XP : (Str → Option Value) → Heap → Prop} {YP : World → Heap → Prop} {d : DefRec} {x : Str}
    (hn : l.most = some n) (hn2 : n ≤ sizeLine) (hdf : d.params.defaults = []) (rm : Room k callerA)
    (F : ∀ (w : World) (mg : Str → Option Value) (fa : Addr) (h : Heap), YP w h → h.Ns mainGlobals mg → mg d.name = some (.ref fa) → ∃ K : PySem.W.Frag, K.In h ∧ LawG l w K k n x mg fa h) :
    PySem.W.WalkO q loose XP YP l.row.toRowW d [] (fun f vs => PySem.call f vs) := by
  refine Att.attach_callB hn hdf fun w s0 s1 mg mb fa o pm cd doc a vs ns G Y ho hd hcd hmg hobj hints hlen hbits hg => ?_
  obtain ⟨K, KX, fd, cs, sp, hT, hb, hsp, hF⟩ := F w mg fa _ Y G.T.g hmg
  exact law_endG KX G.T.g G.T.b G.T.builtins G.T.nolimit hg hT G.T.bmain hobj hints (Nat.le_trans hlen hn2) rm hF hb fun H hH hS => hsp H a ns hlen hbits hH hS
/-! ### facts of the head -/
theorem funOf {K : PySem.W.Frag} {x qual : Str} {st : Stmt} {f : Addr} {fd : FuncData} (F : FunD K x qual (defArgs st) (defBody st) (defScope st) [] [] f fd) : Fun K x qual st f fd := by
  obtain ⟨oc, od, dV, kV, doc, pm, an, cdv, ct, osl, e, lk, hcd, hD, hK⟩ := F.ex
  rcases hD with ⟨_, rfl⟩ | ⟨z, _⟩
  · exact ⟨⟨oc, od, kV, doc, pm, an, cdv, ct, osl, e, lk, hcd⟩, F.kp⟩
  · exact absurd rfl z
/-- a def of the module: where it stands, how it is called -/
structure Df (K : PySem.W.Frag) (mg : Str → Option Value) (x : Str) (st : Stmt) (ps : List Str) (f : Addr) (fd : FuncData) : Prop where
  F : Fun K x x st f fd
  b : Binds K fd ps []
  g : mg x = some (.ref f)
/-- its code's object -/
def CodeIs (K : PySem.W.Frag) (f c : Addr) : Prop := ∀ oc od fd osl, K.lookup f = some ⟨oc, od, .func fd, osl⟩ → fd.code = .ref c
theorem codeIs_of {K : PySem.W.Frag} {x qual : Str} {st : Stmt} {p : Str × Option Str} {fd : FuncData} (F : Fun K x qual st (He.fAd K p) fd) : CodeIs K (He.fAd K p) (He.codeOf K p) := by
  obtain ⟨oc, od, kV, doc, pm, an, cdv, ct, osl, e, lk, hcd⟩ := F.ex
  obtain ⟨c, hc⟩ := He.codeIn_ref hcd
  have h1 : He.codeOf K p = c := He.codeOf_eq lk (by rw [e]; exact hc)
  intro oc2 od2 fd2 osl2 lk2
  rw [lk] at lk2
  cases lk2
  rw [h1, e]
  exact hc
theorem Df.mk' {K : PySem.W.Frag} {mg : Str → Option Value} {x : Str} {st : Stmt} {ps : List Str} {f : Addr} {fd : FuncData} (F : FunD K x x (defArgs st) (defBody st) (defScope st) [] [] f fd) (hm : mg x = some (.ref f))
    (h : ∀ (kV doc pm : Value) (an : Option Addr) (cdv ct : Value) (us : List Value), us.length = ps.length → bindArgs (PySem.W.fnOf x x (defArgs st) (defBody st) (defScope st) .none kV doc pm an cdv ct) ⟨us, []⟩ = pure (ps.zip us)) : Df K mg x st ps f fd :=
  ⟨funOf F, F.bindsN h, hm⟩
/-- as Fun.ok, the code's object known -/
theorem okC {P : Program} {w : World} {K : PySem.W.Frag} {mg : Str → Option Value} {base : Heap} {k : Nat} {f c : Addr} {fd : FuncData} {ps : List Str} {sp : Sp} {x qual : Str} {st : Stmt} {N : List Str} (F : Fun K x qual st f fd) (hC : CodeIs K f c) (S : FnScope N ps (defScope st)) (len : ∀ vs H Q E, sp vs H Q E → vs.length = ps.length)
    (hbody : ∀ (A : Around) (outer : List Env) (s : Shared) (H : Hp) (vs : List V) (Q : VK) (E : XK), Room k (A.deeper (envOfC qual (defScope st) s.heap.objs.size f (.ref c))) → sp vs H Q E →
      ∃ t, PSs (cxOf CX0 P w K mg base N qual (defScope st) f (.ref c) A outer s H E).nox (defBody st) t ∧ t { nx := fun _ H' => Q .non H', rt := Q } (start N vs) H) : FnOk P w K mg base CX0 (k + 1) f fd ps sp := by
  obtain ⟨oc, od, kV, doc, pm, an, cdv, ct, osl, rfl, lk, hcd⟩ := F.ex
  have hc : cdv = .ref c := hC _ _ _ _ lk
  subst hc
  refine fn_of lk hcd S len fun A outer s H vs Q E hr hs => ?_
  obtain ⟨t, h, q⟩ := hbody A outer s H vs Q E hr hs
  exact ⟨t, h.nox, q⟩
end Em

namespace Em
open PySem PySem.Spec PyProof.Rows L2 Qt

/-! ### what a net is, of any data -/
def isW : PyData → Bool
  | .int _ => true
  | _ => false
def numB (m : Nat) : PyData → Bool
  | .int i => decide (0 ≤ i) && decide (i < (m : Int))
  | _ => false
def lenB : PyData → Bool
  | .int i => !decide (i < 1)
  | _ => false
def nxB (m : Nat) : PyData → Bool
  | .none => true
  | d => numB m d
def lampB (m : Nat) : PyData → Bool
  | .tuple [l, o] => lenB l && nxB m o
  | _ => false
def netB : PyData → Bool
  | .tuple ds => !decide ((ds.length : Int) < 1) && !decide ((12 : Int) < (ds.length : Int)) && (ds.map (lampB ds.length)).all id
  | _ => false

/-! ### the class of data -/
def kname : PyData → String
  | .none => "NoneType"
  | .bool _ => "bool"
  | .int _ => "int"
  | .str _ => "str"
  | .list _ => "list"
  | .tuple _ => "tuple"
  | .dict _ => "dict"
theorem knd_of {c : Qc} {S : List Addr} (O : c.Ok) : ∀ {v : V} {d : PyData}, Dx S c.H v d → Knd c v (kname d)
  | _, _, .non => .non
  | _, _, .bl b => .bl b
  | _, _, .int i => .int i
  | _, _, .str z => .str z
  | _, _, .lst n h r => by
    obtain ⟨_, its, m, _, e⟩ := O.hok _ _ h
    exact .lst ⟨_, e, rfl⟩
  | _, _, .tup n h r => by
    obtain ⟨_, its, _, o, e, ec, _⟩ := O.hok _ _ h
    exact .tup ⟨o, e, ec⟩
  | _, _, .dic n h => by
    obtain ⟨_, _, vs, _, o, es, ep, e, q, _⟩ := O.hok _ _ h
    exact .dic ⟨o, e, q.1⟩
theorem tupQ_of {c : Qc} (O : c.Ok) {a : Addr} {xs : List V} (h : c.H a = some (.tup xs)) : TupQ c a xs := by
  obtain ⟨hz, its, rv, ht⟩ := O.hok _ _ h
  exact ⟨its, rv, ht, hz⟩
/-- isinstance(x, C) of data -/
def kindS (k C : String) : Bool := k == C || (k == "bool" && C == "int")
def kindB (d : PyData) (C : String) : Bool := kindS (kname d) C
def kinds : List String := ["NoneType", "bool", "int", "str", "list", "tuple", "dict"]
theorem kname_mem (d : PyData) : kname d ∈ kinds := by cases d <;> simp [kname, kinds]
def cls4 : List String := ["int", "bool", "tuple", "list"]
theorem kits : ∀ C ∈ cls4, ∀ k ∈ kinds, kitB k C = some (kindS k C) := by decide +kernel
theorem kit_data {K : PySem.W.Frag} {d : PyData} {C : String} (hC : C ∈ cls4) : PySem.W.kitOne K (.type (kname d)) (.type C) = some (kindB d C) := kit_ty (kits C hC _ (kname_mem d))
theorem qe_isi {c : Qc} {k : Nat} {env : Env} {N : Nm} {S : List Addr} {v : V} {d : PyData} {C : String} {e : Expr} {p1 p2 pos : Pos} (O : c.Ok) (h : Dx S c.H v d) (he : QE c k env N e v) (hg : env.kindOf ("isinstance" : Str) = some .globalImplicit) (hm : c.mg "isinstance" = none)
    (hgC : env.kindOf (Str.ofString C) = some .globalImplicit) (hmC : c.mg (Str.ofString C) = none) (hvC : bootBuiltins (Str.ofString C) = some (.type C)) (hC : C ∈ cls4)
    (hn : (Str.ofString C) ≠ "__name__" := by decide) (hd : ((Str.ofString C) == ("__debug__" : Str)) = false := by decide)
    (s1 : starEach (e :: [.Name (Str.ofString C) p2]) env = (false, eval e env) :: starEach [.Name (Str.ofString C) p2] env := by rfl) (s2 : starEach (.Name (Str.ofString C) p2 :: []) env = (false, eval (.Name (Str.ofString C) p2) env) :: starEach [] env := by rfl)
    (hpl : (backTo pos (starEach [.Name (Str.ofString C) p2] env)).any (·.1) = false := by rfl) :
    QE c k env N (.Call (.Name "isinstance" p1) (e :: [.Name (Str.ofString C) p2]) [] pos) (.bl (kindB d C)) :=
  q_callB O (qc_isi O (knd_of O h) (kit_data hC)) hg hm (by decide +kernel) (qa_cons he (qa_cons (q_blt (v := .ty C) O hgC hmC hvC rfl hn hd) qa_nil s2) s1) (by decide) (by decide) s1 hpl
theorem tyx_of {K : PySem.W.Frag} {S : List Addr} {H : Hp} : ∀ {v : V} {d : PyData}, Dx S H v d → TyX K H v (.type (kname d))
  | _, _, .non => .base .non
  | _, _, .bl b => .base (.bl b)
  | _, _, .int i => .base (.int i)
  | _, _, .str z => .base (.str z)
  | _, _, .lst n h r => .base (.lst h)
  | _, _, .tup n h r => .base (.tup h)
  | _, _, .dic n h => .base (.dK h)
mutual
theorem Dx.wiped {S : List Addr} {H : Hp} {P : Addr} (t : GxR.TabG H P) : ∀ {v : V} {d : PyData}, Dx S H v d → Dx S (wipe H P) v d
  | _, _, .non => .non
  | _, _, .bl b => .bl b
  | _, _, .int i => .int i
  | _, _, .str z => .str z
  | _, _, .lst n h r => .lst n (wipe_at (fun z => by obtain ⟨ps, e, _⟩ := t; rw [z, e] at h; cases h) h) (DxA.wiped t r)
  | _, _, .tup n h r => .tup n (wipe_at (fun z => by obtain ⟨ps, e, _⟩ := t; rw [z, e] at h; cases h) h) (DxA.wiped t r)
  | _, _, .dic n h => .dic n (wipe_at (fun z => by obtain ⟨ps, e, _⟩ := t; rw [z, e] at h; cases h) h)
theorem DxA.wiped {S : List Addr} {H : Hp} {P : Addr} (t : GxR.TabG H P) : ∀ {v : List V} {d : List PyData}, DxA S H v d → DxA S (wipe H P) v d
  | _, _, .nil => .nil
  | _, _, .cons h r => .cons (Dx.wiped t h) (DxA.wiped t r)
end
theorem free_by {names : List (Str × NameKind)} {sc : Scope} {n : Nat} (h : names.all (fun y => y.2 != .free || sc.names.lookup y.1 == some .cell) = true) : ∀ y ∈ names, y.2 = .free → ∃ c, (cellsFrom n sc.names []).lookup y.1 = some c := fun y hy e => by
  have q := List.all_eq_true.mp h y hy
  rw [e] at q
  exact cell_has (by simpa using q)
end Em

namespace Em
open PySem PySem.Spec PyProof.Rows L2 Qt

/-! ### nets -/
abbrev Net := List (Int × Option Nat)
def nxD : Option Nat → PyData
  | none => .none
  | some n => .int n
def nxV : Option Nat → V
  | none => .non
  | some n => .int n
def lampD (p : Int × Option Nat) : PyData := .tuple [.int p.1, nxD p.2]
def netD (N : Net) : PyData := .tuple (N.map lampD)
structure NetOk (N : Net) : Prop where
  lo : 1 ≤ N.length
  hi : N.length ≤ 12
  len : ∀ p ∈ N, 1 ≤ p.1
  nx : ∀ p ∈ N, ∀ y, p.2 = some y → y < N.length
theorem netB_of {N : Net} (h : NetOk N) : netB (netD N) = true := by
  have h1 := h.lo
  have h2 := h.hi
  show (!decide (((N.map lampD).length : Int) < 1) && !decide ((12 : Int) < ((N.map lampD).length : Int)) && ((N.map lampD).map (lampB (N.map lampD).length)).all id) = true
  rw [List.length_map, decide_eq_false (by omega), decide_eq_false (by omega)]
  simp only [Bool.not_false, Bool.true_and, List.map_map, List.all_eq_true]
  intro b hb
  obtain ⟨p, hp, rfl⟩ := List.mem_map.mp hb
  have e1 := h.len p hp
  have e2 := h.nx p hp
  obtain ⟨l, o⟩ := p
  have h3 : ¬ l < 1 := by simp only at e1; omega
  show (!decide (l < 1) && nxB N.length (nxD o)) = true
  rw [decide_eq_false h3]
  cases o with
  | none => rfl
  | some y =>
    have := e2 y rfl
    show (decide ((0 : Int) ≤ (y : Int)) && decide ((y : Int) < (N.length : Int))) = true
    rw [decide_eq_true (by omega), decide_eq_true (by omega)]
    rfl
/-- the next lamp -/
def nxt (N : Net) (x : Nat) : Option Nat := (N.getD x (1, none)).2
theorem nxt_get {N : Net} {x : Nat} {p : Int × Option Nat} (h : N[x]? = some p) : nxt N x = p.2 := by
  unfold nxt
  rw [List.getD_eq_getElem?_getD, h]
  rfl
theorem nxt_lt {N : Net} (h : NetOk N) {x y : Nat} (e : nxt N x = some y) : y < N.length := by
  by_cases hx : x < N.length
  · have g := List.getElem?_eq_getElem hx
    rw [nxt_get g] at e
    exact h.nx _ (List.getElem_mem hx) y e
  · unfold nxt at e
    rw [List.getD_eq_getElem?_getD, List.getElem?_eq_none (by omega)] at e
    cases e

/-! ### the way from a lamp: one step more while there is a lamp that was not come by -/
def lastOf (g : List Nat) : Nat := g.getLastD 0
def step (N : Net) (g : List Nat) : List Nat := match nxt N (lastOf g) with
  | none => g
  | some y => if y ∈ g then g else g ++ [y]
def itr {α : Type} (f : α → α) : Nat → α → α
  | 0, a => a
  | n + 1, a => f (itr f n a)
def path (N : Net) (x : Nat) : List Nat := itr (step N) N.length [x]
/-- the way's two parts -/
def cutAt (N : Net) (g : List Nat) : Nat := match nxt N (lastOf g) with
  | none => g.length
  | some y => g.idxOf y
def wayA (N : Net) (x : Nat) : List Nat := (path N x).take (cutAt N (path N x))
def wayR (N : Net) (x : Nat) : List Nat := (path N x).drop (cutAt N (path N x))
def natsD (g : List Nat) : PyData := .tuple (g.map fun n : Nat => .int (n : Int))
def wayD (N : Net) (x : Nat) : PyData := .tuple [natsD (wayA N x), natsD (wayR N x)]
theorem itr_fix {α : Type} {f : α → α} {a : α} (h : f a = a) : ∀ n, itr f n a = a
  | 0 => rfl
  | n + 1 => by
    show f (itr f n a) = a
    rw [itr_fix h n, h]
theorem itr_add {α : Type} {f : α → α} {a : α} (m : Nat) : ∀ n, itr f (m + n) a = itr f n (itr f m a)
  | 0 => rfl
  | n + 1 => by
    show f (itr f (m + n) a) = f (itr f n (itr f m a))
    rw [itr_add m n]
theorem last_app (g : List Nat) (y : Nat) : lastOf (g ++ [y]) = y := by
  unfold lastOf
  rw [List.getLastD_eq_getLast?, List.getLast?_concat]
  rfl
/-- what is gone so far: i steps on the way -/
structure Gone (N : Net) (x i : Nat) (g : List Nat) : Prop where
  it : g = itr (step N) i [x]
  len : g.length = i + 1
  nd : g.Nodup
  lt : ∀ y ∈ g, y < N.length
theorem Gone.start {N : Net} {x : Nat} (h : x < N.length) : Gone N x 0 [x] := ⟨rfl, rfl, by simp, by simpa using h⟩
theorem Gone.more {N : Net} (o : NetOk N) {x i : Nat} {g : List Nat} (a : Gone N x i g) {y : Nat} (h : nxt N (lastOf g) = some y) (hn : y ∉ g) : Gone N x (i + 1) (g ++ [y]) := by
  refine ⟨?_, by rw [List.length_append, a.len]; rfl, ?_, fun z hz => ?_⟩
  · show g ++ [y] = step N (itr (step N) i [x])
    rw [← a.it]
    unfold step
    rw [h]
    simp only [hn, if_false]
  · rw [List.nodup_append]
    refine ⟨a.nd, by simp, fun b hb c hc => ?_⟩
    have : c = y := by simpa using hc
    subst this
    exact fun e => hn (e ▸ hb)
  · rcases List.mem_append.mp hz with hz | hz
    · exact a.lt z hz
    · have : z = y := by simpa using hz
      rw [this]
      exact nxt_lt o h
theorem nodup_le : ∀ {n : Nat} {g : List Nat}, g.Nodup → (∀ y ∈ g, y < n) → g.length ≤ n
  | 0, g, _, h2 => by
    cases g with
    | nil => exact Nat.le_refl _
    | cons y r => exact absurd (h2 y List.mem_cons_self) (Nat.not_lt_zero _)
  | n + 1, g, h1, h2 => by
    by_cases hn : n ∈ g
    · have h3 := nodup_le (n := n) (g := g.erase n) (h1.erase n) fun y hy => by
        have q := (h1.mem_erase_iff).mp hy
        have := h2 y q.2
        have := q.1
        omega
      rw [List.length_erase_of_mem hn] at h3
      omega
    · have h3 := nodup_le (n := n) h1 fun y hy => by
        have := h2 y hy
        have : y ≠ n := fun e => hn (e ▸ hy)
        omega
      omega
theorem Gone.le {N : Net} {x i : Nat} {g : List Nat} (a : Gone N x i g) : g.length ≤ N.length := nodup_le a.nd a.lt
/-- where no step is left, that is the whole path -/
theorem Gone.done {N : Net} {x i : Nat} {g : List Nat} (a : Gone N x i g) (h : step N g = g) : path N x = g := by
  have hl := a.le
  have e : N.length = i + (N.length - i) := by have := a.len; omega
  unfold path
  rw [e, itr_add, ← a.it]
  exact itr_fix h _
theorem step_none {N : Net} {g : List Nat} (h : nxt N (lastOf g) = none) : step N g = g := by unfold step; rw [h]
theorem step_in {N : Net} {g : List Nat} {y : Nat} (h : nxt N (lastOf g) = some y) (hy : y ∈ g) : step N g = g := by unfold step; rw [h]; simp only [hy, if_true]
/-! ### nets and numbers in the heap -/
def natV (g : List Nat) : List V := g.map fun n : Nat => V.int (n : Int)
theorem natV_app (g : List Nat) (y : Nat) : natV (g ++ [y]) = natV g ++ [.int y] := by unfold natV; rw [List.map_append]; rfl
theorem natV_len (g : List Nat) : (natV g).length = g.length := by unfold natV; rw [List.length_map]
theorem natV_get {g : List Nat} {i y : Nat} (h : g[i]? = some y) : (natV g)[i]? = some (.int y) := by unfold natV; rw [List.getElem?_map, h]; rfl
theorem natV_flat (g : List Nat) : (natV g).all flatV = true := by
  unfold natV
  rw [List.all_eq_true]
  intro v hv
  obtain ⟨n, _, rfl⟩ := List.mem_map.mp hv
  rfl
theorem inV_natV {x : Nat} (g : List Nat) : inV (.int x) (natV g) = decide (x ∈ g) := by
  rw [Bool.eq_iff_iff, decide_eq_true_iff]
  unfold inV natV
  rw [List.any_eq_true]
  constructor
  · rintro ⟨v, hv, e⟩
    obtain ⟨n, hn, rfl⟩ := List.mem_map.mp hv
    have e1 : ((n : Int) == (x : Int)) = true := e
    have e2 : n = x := by have := beq_iff_eq.mp e1; omega
    exact e2 ▸ hn
  · intro h
    exact ⟨_, List.mem_map.mpr ⟨x, h, rfl⟩, by show ((x : Int) == (x : Int)) = true; simp⟩
theorem nwA_natV {H H1 : Hp} : ∀ g : List Nat, NwA H H1 (natV g) (g.map fun n : Nat => PyData.int (n : Int))
  | [] => .nil
  | n :: r => .cons (.int _) (nwA_natV r)
theorem dx_nx {S : List Addr} {H : Hp} {v : V} {o : Option Nat} (h : Dx S H v (nxD o)) : v = nxV o := by
  cases o with
  | none => cases h; rfl
  | some n => cases h; rfl
theorem net_at {S : List Addr} {H : Hp} {v : V} {N : Net} (h : Dx S H v (netD N)) : ∃ (ad : Addr) (xs : List V), v = .ref ad ∧ ad ∉ S ∧ H ad = some (.tup xs) ∧ xs.length = N.length ∧
    ∀ (x : Nat) (p : Int × Option Nat), N[x]? = some p → ∃ la : Addr, xs[x]? = some (.ref la) ∧ la ∉ S ∧ H la = some (.tup [.int p.1, nxV p.2]) := by
  cases h with
  | @tup ad xs ds n h r =>
    refine ⟨ad, xs, rfl, n, h, by rw [r.len, List.length_map], fun x p hp => ?_⟩
    obtain ⟨w, hw, hx⟩ := r.get' (i := x) (d := lampD p) (by rw [List.getElem?_map, hp]; rfl)
    cases hx with
    | @tup la ys es m h2 r2 =>
      cases r2 with
      | cons a1 r3 =>
        cases r3 with
        | cons a2 r4 =>
          cases r4
          cases a1
          rw [dx_nx a2] at h2
          exact ⟨la, hw, m, h2⟩
theorem natV_cut0 {g : List Nat} {i : Nat} (h : i ≤ g.length) : cutV (natV g) none (some (i : Int)) = natV (g.take i) := by
  unfold cutV
  rw [show HT.sIx (natV g).length (natV g).length (some (i : Int)) = min i (natV g).length from HT.sIx_nat _ _ i, HT.sIx_none, natV_len, Nat.min_eq_left h, Nat.sub_zero, List.drop_zero]
  unfold natV
  rw [List.map_take]
theorem natV_cut1 {g : List Nat} {i : Nat} (h : i ≤ g.length) : cutV (natV g) (some (i : Int)) none = natV (g.drop i) := by
  unfold cutV
  rw [show HT.sIx (natV g).length 0 (some (i : Int)) = min i (natV g).length from HT.sIx_nat _ _ i, HT.sIx_none, natV_len, Nat.min_eq_left h]
  unfold natV
  rw [← List.map_drop, List.take_of_length_le (by rw [List.length_map, List.length_drop]; exact Nat.le_refl _)]
theorem idx_ne {g : List Nat} {j u y : Nat} (hj : j < g.idxOf y) (hu : g[j]? = some u) : u ≠ y := fun e => by
  have h := List.not_of_lt_findIdx (p := (· == y)) (xs := g) hj
  obtain ⟨h1, h2⟩ := List.getElem?_eq_some_iff.mp hu
  rw [h2, e] at h
  simp at h
theorem big_log {m : Int} (h : 0 < m) (h2 : m < 2 ^ 8000) : m.natAbs.log2 < 9000 := by
  have h3 : m.natAbs < 2 ^ 8000 := by
    have e : ((2 ^ 8000 : Nat) : Int) = (2 : Int) ^ 8000 := by rw [Int.natCast_pow]; rfl
    have : (m.natAbs : Int) < ((2 ^ 8000 : Nat) : Int) := by rw [e]; omega
    exact Int.ofNat_lt.mp this
  exact Nat.lt_of_lt_of_le (PySem.Flt.log2_lt_of (by decide) h3) (by decide)
theorem at_mem {xs : List V} {r : Int} (h0 : 0 ≤ r) (h1 : r < (xs.length : Int)) : ∃ v, atI xs r = some v ∧ v ∈ xs := by
  obtain ⟨j, rfl⟩ : ∃ j : Nat, r = (j : Int) := ⟨r.toNat, by omega⟩
  have hj : j < xs.length := by omega
  exact ⟨xs[j], atI_nat (List.getElem?_eq_getElem hj), List.getElem_mem hj⟩
theorem small64' {n : Nat} (h : n ≤ 1000) : n ≤ sizeLine := Nat.le_trans h (by decide)
/-- what a walk of so many turns has come by: a turn may have stood still -/
structure Been (N : Net) (x i : Nat) (g : List Nat) : Prop where
  it : g = itr (step N) i [x]
  pos : 1 ≤ g.length
  nd : g.Nodup
  lt : ∀ y ∈ g, y < N.length
  st : g.length = i + 1 ∨ step N g = g
theorem Been.start {N : Net} {x : Nat} (h : x < N.length) : Been N x 0 [x] := ⟨rfl, Nat.le_refl _, by simp, by simpa using h, .inl rfl⟩
theorem Been.still {N : Net} {x i : Nat} {g : List Nat} (a : Been N x i g) (h : step N g = g) : Been N x (i + 1) g := by
  refine ⟨?_, a.pos, a.nd, a.lt, .inr h⟩
  show g = step N (itr (step N) i [x])
  rw [← a.it, h]
theorem Been.more {N : Net} (o : NetOk N) {x i : Nat} {g : List Nat} (a : Been N x i g) {y : Nat} (h : nxt N (lastOf g) = some y) (hn : y ∉ g) : Been N x (i + 1) (g ++ [y]) := by
  have e : step N g = g ++ [y] := by unfold step; rw [h]; simp only [hn, if_false]
  have hl : g.length = i + 1 := by
    rcases a.st with h | h
    · exact h
    · rw [e] at h
      have := congrArg List.length h
      simp at this
  refine ⟨?_, by simp, ?_, fun z hz => ?_, .inl (by rw [List.length_append, hl]; rfl)⟩
  · show g ++ [y] = step N (itr (step N) i [x])
    rw [← a.it, e]
  · rw [List.nodup_append]
    refine ⟨a.nd, by simp, fun b hb c hc => ?_⟩
    have : c = y := by simpa using hc
    subst this
    exact fun e => hn (e ▸ hb)
  · rcases List.mem_append.mp hz with hz | hz
    · exact a.lt z hz
    · have : z = y := by simpa using hz
      rw [this]
      exact nxt_lt o h
theorem Been.le {N : Net} {x i : Nat} {g : List Nat} (a : Been N x i g) : g.length ≤ N.length := nodup_le a.nd a.lt
theorem Been.done {N : Net} {x : Nat} {g : List Nat} (a : Been N x N.length g) : path N x = g ∧ step N g = g := by
  refine ⟨a.it.symm, ?_⟩
  rcases a.st with h | h
  · have := a.le
    omega
  · exact h
theorem step_mem {N : Net} {g : List Nat} {y : Nat} (h : nxt N (lastOf g) = some y) (e : step N g = g) : y ∈ g := by
  by_cases hn : y ∈ g
  · exact hn
  · unfold step at e
    rw [h] at e
    simp only [hn, if_false] at e
    have := congrArg List.length e
    simp at this
theorem last_lt {N : Net} {x i : Nat} {g : List Nat} (a : Been N x i g) : lastOf g < N.length := by
  have h := a.pos
  unfold lastOf
  rw [List.getLastD_eq_getLast?]
  have hne : g ≠ [] := fun e => by rw [e] at h; exact absurd h (by decide)
  rw [List.getLast?_eq_some_getLast hne]
  exact a.lt _ (List.getLast_mem hne)
theorem natV_last {N : Net} {x i : Nat} {g : List Nat} (a : Been N x i g) : atI (natV g) (-1) = some (.int (lastOf g : Nat)) := by
  have h := a.pos
  have hne : g ≠ [] := fun e => by rw [e] at h; exact absurd h (by decide)
  have e := (List.dropLast_concat_getLast hne).symm
  have el : lastOf g = g.getLast hne := by
    unfold lastOf
    rw [List.getLastD_eq_getLast?, List.getLast?_eq_some_getLast hne]
    rfl
  have e2 : natV g = natV g.dropLast ++ [.int (g.getLast hne : Nat)] := by rw [← natV_app]; exact congrArg natV e
  rw [el, e2]
  exact atI_last _ _
end Em

namespace Em
open PySem PySem.Spec PyProof.Rows L2 Qt

/-! ### nets and ways as data: shown, compared -/
def Short (N : Net) : Prop := ∀ p ∈ N, p.1 < 10 ^ 60
theorem lamp_lay (p : Int × Option Nat) : (lampD p).canLay0 = true := by
  obtain ⟨l, o⟩ := p
  cases o <;> rfl
theorem all_lay {α : Type} {f : α → PyData} (h : ∀ a, (f a).canLay0 = true) : ∀ xs : List α, PyData.canLayAll0 (xs.map f) = true
  | [] => rfl
  | x :: r => by
    show ((f x).canLay0 && PyData.canLayAll0 (r.map f)) = true
    rw [h x, all_lay h r]
    rfl
theorem all_depth {α : Type} {f : α → PyData} {n : Nat} (h : ∀ a, (f a).depth ≤ n) : ∀ xs : List α, PyData.depthAll (xs.map f) ≤ n
  | [] => Nat.zero_le _
  | x :: r => by
    show max (f x).depth (PyData.depthAll (r.map f)) ≤ n
    exact Nat.max_le.mpr ⟨h x, all_depth h r⟩
theorem net_lay (N : Net) : (netD N).canLay0 = true := by
  show PyData.canLayAll0 (N.map lampD) = true
  exact all_lay lamp_lay N
theorem lamp_depth (p : Int × Option Nat) : (lampD p).depth ≤ 1 := by
  obtain ⟨l, o⟩ := p
  cases o <;> exact Nat.le_refl _
theorem net_depth (N : Net) : (netD N).depth ≤ 2 := by
  show PyData.depthAll (N.map lampD) + 1 ≤ 2
  have := all_depth lamp_depth N
  omega
theorem net_noDict (N : Net) : (netD N).hasDict = false := PyData.hasDict_of_canLay _ (net_lay N)
theorem net_shaped (N : Net) : SeqAt.shaped (netD N) = true := by
  unfold SeqAt.shaped
  rw [net_lay, decide_eq_true (Nat.le_trans (net_depth N) (by decide))]
  rfl
theorem nats_lay (g : List Nat) : (natsD g).canLay0 = true := by
  show PyData.canLayAll0 (g.map _) = true
  exact all_lay (fun _ => rfl) g
theorem nats_depth (g : List Nat) : (natsD g).depth ≤ 1 := by
  show PyData.depthAll (g.map _) + 1 ≤ 1
  have := all_depth (f := fun n : Nat => PyData.int (n : Int)) (n := 0) (fun _ => Nat.le_refl _) g
  omega
theorem way_lay (N : Net) (x : Nat) : (wayD N x).canLay0 = true := by
  show ((natsD _).canLay0 && ((natsD _).canLay0 && true)) = true
  rw [nats_lay, nats_lay]
  rfl
theorem way_depth (N : Net) (x : Nat) : (wayD N x).depth ≤ 2 := by
  show max (natsD _).depth (max (natsD _).depth 0) + 1 ≤ 2
  have h1 := nats_depth (wayA N x)
  have h2 := nats_depth (wayR N x)
  have : max (natsD (wayA N x)).depth (max (natsD (wayR N x)).depth 0) ≤ 1 := Nat.max_le.mpr ⟨h1, Nat.max_le.mpr ⟨h2, Nat.zero_le _⟩⟩
  omega
theorem way_noDict (N : Net) (x : Nat) : (wayD N x).hasDict = false := PyData.hasDict_of_canLay _ (way_lay N x)
theorem way_shaped (N : Net) (x : Nat) : SeqAt.shaped (wayD N x) = true := by
  unfold SeqAt.shaped
  rw [way_lay, decide_eq_true (Nat.le_trans (way_depth N x) (by decide))]
  rfl
/-! a number of few signs -/
theorem small_log {i : Int} (h : i.natAbs < 10 ^ 60) : i.natAbs.log2 < 200 := PySem.Flt.log2_lt_of (by decide) (Nat.lt_of_lt_of_le h (by decide))
theorem small_shown {i : Int} (h : i.natAbs < 10 ^ 60) : (PyData.shown (.int i)).length ≤ 61 := by
  have e := int_text_length_le10 (k := 60) (by decide) h
  show (Str.ofString (toString i)).length ≤ 61
  rw [PySem.ofString_length]
  exact e
theorem small_weight {i : Int} (h : i.natAbs < 10 ^ 60) : (PyData.int i).weight ≤ 200 := by
  have := small_log h
  show (if i == 0 then 0 else i.natAbs.log2 + 1) ≤ 200
  split <;> omega
structure SmallD (d : PyData) : Prop where
  sh : d.showable = true
  lv : d.leavesShort 61 = true
  wt : d.weight ≤ 600
theorem small_int {i : Int} (h : i.natAbs < 10 ^ 60) : (PyData.int i).showable = true ∧ (PyData.int i).leavesShort 61 = true := by
  have h1 := small_log h
  have h2 := small_shown h
  exact ⟨by show decide _ = true; exact decide_eq_true (by omega), by show decide _ = true; exact decide_eq_true h2⟩
theorem lamp_small {p : Int × Option Nat} (h1 : 1 ≤ p.1) (h2 : p.1 < 10 ^ 60) (h3 : ∀ y, p.2 = some y → y < 12) : SmallD (lampD p) := by
  obtain ⟨l, o⟩ := p
  have hl : l.natAbs < 10 ^ 60 := by simp only at h1 h2; omega
  obtain ⟨a1, a2⟩ := small_int hl
  have a3 := small_weight hl
  cases o with
  | none =>
    refine ⟨?_, ?_, ?_⟩
    · show ((PyData.int l).showable && (true && true)) = true
      rw [a1]; rfl
    · show ((PyData.int l).leavesShort 61 && (true && true)) = true
      rw [a2]; rfl
    · show (PyData.int l).weight + 1 + (0 + 1 + 0) ≤ 600
      omega
  | some y =>
    have := h3 y rfl
    have hy : (y : Int).natAbs < 10 ^ 60 := by omega
    obtain ⟨b1, b2⟩ := small_int hy
    have b3 := small_weight hy
    refine ⟨?_, ?_, ?_⟩
    · show ((PyData.int l).showable && ((PyData.int (y : Int)).showable && true)) = true
      rw [a1, b1]; rfl
    · show ((PyData.int l).leavesShort 61 && ((PyData.int (y : Int)).leavesShort 61 && true)) = true
      rw [a2, b2]; rfl
    · show (PyData.int l).weight + 1 + ((PyData.int (y : Int)).weight + 1 + 0) ≤ 600
      omega
theorem all_small {α : Type} {f : α → PyData} : ∀ xs : List α, (∀ a ∈ xs, SmallD (f a)) → PyData.showableAll (xs.map f) = true ∧ PyData.leavesShortAll 61 (xs.map f) = true ∧ PyData.weightAll (xs.map f) ≤ 601 * xs.length
  | [], _ => ⟨rfl, rfl, Nat.zero_le _⟩
  | x :: r, h => by
    have a := h x List.mem_cons_self
    obtain ⟨b1, b2, b3⟩ := all_small r fun y hy => h y (List.mem_cons_of_mem _ hy)
    have c := a.wt
    refine ⟨?_, ?_, ?_⟩
    · show ((f x).showable && PyData.showableAll (r.map f)) = true
      rw [a.sh, b1]; rfl
    · show ((f x).leavesShort 61 && PyData.leavesShortAll 61 (r.map f)) = true
      rw [a.lv, b2]; rfl
    · show (f x).weight + 1 + PyData.weightAll (r.map f) ≤ 601 * (r.length + 1)
      omega
theorem net_show {N : Net} (o : NetOk N) (s : Short N) : (netD N).showable = true ∧ (netD N).shown.length ≤ sizeLine := by
  have hi := o.hi
  obtain ⟨h1, h2, h3⟩ := all_small (f := lampD) N fun p hp => lamp_small (o.len p hp) (s p hp) fun y hy => by
    have := o.nx p hp y hy
    omega
  refine ⟨h1, ?_⟩
  have h4 := PyData.shown_le 61 (by decide) (netD N) h2
  have h5 : (netD N).weight ≤ 601 * 12 := Nat.le_trans h3 (Nat.mul_le_mul_left _ hi)
  have h6 : (61 + 2) * (netD N).weight ≤ 63 * (601 * 12) := Nat.mul_le_mul_left _ h5
  rw [sizeLine_eq]
  omega
/-! a way in the heap -/
theorem ints_at {S : List Addr} {H : Hp} : ∀ {xs : List V} (g : List Nat), DxA S H xs (g.map fun n : Nat => PyData.int (n : Int)) → xs = natV g
  | _, [], h => by
    cases h
    rfl
  | _, n :: r, h => by
    cases h with
    | cons a t =>
      cases a
      rw [ints_at r t]
      rfl
theorem nats_at {S : List Addr} {H : Hp} {v : V} {g : List Nat} (h : Dx S H v (natsD g)) : ∃ a : Addr, v = .ref a ∧ a ∉ S ∧ H a = some (.tup (natV g)) := by
  cases h with
  | @tup a xs ds n h r => exact ⟨a, rfl, n, by rw [h, ints_at g r]⟩
theorem way_at {S : List Addr} {H : Hp} {v : V} {N : Net} {x : Nat} (h : Dx S H v (wayD N x)) : ∃ a b c : Addr, v = .ref a ∧ a ∉ S ∧ H a = some (.tup [.ref b, .ref c]) ∧ H b = some (.tup (natV (wayA N x))) ∧ H c = some (.tup (natV (wayR N x))) ∧ b ∉ S ∧ c ∉ S := by
  cases h with
  | @tup a xs ds n h r =>
    cases r with
    | cons a1 r =>
      cases r with
      | cons a2 r =>
        cases r
        obtain ⟨b, rfl, nb, hb⟩ := nats_at a1
        obtain ⟨c, rfl, nc, hc⟩ := nats_at a2
        exact ⟨a, b, c, rfl, n, h, hb, hc, nb, nc⟩
theorem step_len (N : Net) (g : List Nat) : (step N g).length ≤ g.length + 1 := by
  unfold step
  split
  · omega
  · split
    · omega
    · rw [List.length_append]
      exact Nat.le_refl _
theorem itr_len (N : Net) (x : Nat) : ∀ n, (itr (step N) n [x]).length ≤ n + 1
  | 0 => Nat.le_refl _
  | n + 1 => by
    have h1 := itr_len N x n
    have h2 := step_len N (itr (step N) n [x])
    show (step N (itr (step N) n [x])).length ≤ _
    omega
theorem way_len {N : Net} (o : NetOk N) (x : Nat) : (natV (wayA N x)).length + (natV (wayR N x)).length ≤ 13 := by
  have h1 : (path N x).length ≤ N.length + 1 := itr_len N x N.length
  have h2 := o.hi
  rw [natV_len, natV_len]
  unfold wayA wayR
  rw [List.length_take, List.length_drop]
  omega
/-- t + u, whichever way it is made -/
theorem catA_any {K : PySem.W.Frag} {x y : V} {H : Hp} {Q : VK} {a b : Addr} {xs ys : List V} (hx : x = .ref a) (hy : y = .ref b) (h1 : SqT K H a xs) (h2 : SqT K H b ys) (hl : xs.length + ys.length ≤ sizeLine) (q : ∀ p H', SqT K H' p (xs ++ ys) → Kp [] H H' → Q (.ref p) H') : rCatA K x y H Q := by
  refine ⟨a, b, xs, ys, hx, hy, h1, h2, hl, fun e => ?_, fun _ e => ?_, fun _ _ p np => ?_⟩
  · refine q b H ?_ .rfl'
    rw [e]
    exact h2
  · refine q a H ?_ .rfl'
    rw [e, List.append_nil]
    exact h1
  · exact q p _ (SqT.of upd_same) (Kp.new np)
theorem Kp.seqT {S : List Addr} {K : PySem.W.Frag} {H H1 : Hp} (k : Kp S H H1) {b : Addr} {xs : List V} (nb : b ∉ S) (h : SqT K H b xs) : SqT K H1 b xs := by
  rcases h with (h | ⟨o, h⟩) | h
  · exact .inl (.inl (k.tup nb h))
  · exact .inl (.inr ⟨o, k.at_ b _ nb h fun ps z => by cases z⟩)
  · exact .inr h
end Em

namespace Em
open PySem PySem.Spec PyProof.Rows L2 Qt

/-! ### what is never written: numbers, texts, tuples of such -/
mutual
inductive Tu (H : Hp) : V → PyData → Prop
  | non : Tu H .non .none
  | bl (b : Bool) : Tu H (.bl b) (.bool b)
  | int (i : Int) : Tu H (.int i) (.int i)
  | str (z : Str) : Tu H (.str z) (.str z)
  | tup {a : Addr} {xs : List V} {ds : List PyData} (h : H a = some (.tup xs)) (r : TuA H xs ds) : Tu H (.ref a) (.tuple ds)
inductive TuA (H : Hp) : List V → List PyData → Prop
  | nil : TuA H [] []
  | cons {v : V} {vs : List V} {d : PyData} {ds : List PyData} (h : Tu H v d) (t : TuA H vs ds) : TuA H (v :: vs) (d :: ds)
end
/-- tuples stay -/
def Kt (H H' : Hp) : Prop := ∀ a xs, H a = some (.tup xs) → H' a = some (.tup xs)
theorem Kt.rfl' {H : Hp} : Kt H H := fun _ _ h => h
theorem Kt.tr {H H1 H2 : Hp} (a : Kt H H1) (b : Kt H1 H2) : Kt H H2 := fun p xs h => b p xs (a p xs h)
theorem Kt.new {H : Hp} {p : Addr} {o : HO} (n : H p = none) : Kt H (upd H p o) := fun a xs h => by rw [upd_ne (ne_of_none h n)]; exact h
theorem Kt.put {H : Hp} {p : Addr} {o u : HO} (h : H p = some u) (nt : ∀ xs, u ≠ .tup xs) : Kt H (upd H p o) := fun a xs q => by
  rw [upd_ne (fun z => by rw [z, h] at q; exact nt xs (Option.some.inj q))]; exact q
theorem Kp.kt {S : List Addr} {H H' : Hp} (k : Kp S H H') (hs : ∀ s ∈ S, ∀ xs, H s ≠ some (.tup xs)) : Kt H H' := fun a xs h => k.tup (fun z => hs a z xs h) h
theorem Kp.kt0 {H H' : Hp} (k : Kp [] H H') : Kt H H' := k.kt fun s z => by cases z
mutual
theorem Tu.kt {H H' : Hp} (k : Kt H H') : ∀ {v : V} {d : PyData}, Tu H v d → Tu H' v d
  | _, _, .non => .non
  | _, _, .bl b => .bl b
  | _, _, .int i => .int i
  | _, _, .str z => .str z
  | _, _, .tup h r => .tup (k _ _ h) (TuA.kt k r)
theorem TuA.kt {H H' : Hp} (k : Kt H H') : ∀ {v : List V} {d : List PyData}, TuA H v d → TuA H' v d
  | _, _, .nil => .nil
  | _, _, .cons h t => .cons (Tu.kt k h) (TuA.kt k t)
end
mutual
theorem Tu.dx {S : List Addr} {H : Hp} (hs : ∀ s ∈ S, ∀ xs, H s ≠ some (.tup xs)) : ∀ {v : V} {d : PyData}, Tu H v d → Dx S H v d
  | _, _, .non => .non
  | _, _, .bl b => .bl b
  | _, _, .int i => .int i
  | _, _, .str z => .str z
  | _, _, .tup h r => .tup (fun z => hs _ z _ h) h (TuA.dx hs r)
theorem TuA.dx {S : List Addr} {H : Hp} (hs : ∀ s ∈ S, ∀ xs, H s ≠ some (.tup xs)) : ∀ {v : List V} {d : List PyData}, TuA H v d → DxA S H v d
  | _, _, .nil => .nil
  | _, _, .cons h t => .cons (Tu.dx hs h) (TuA.dx hs t)
end
theorem Tu.dx0 {H : Hp} {v : V} {d : PyData} (h : Tu H v d) : Dx [] H v d := h.dx fun s z => by cases z
theorem TuA.dx0 {H : Hp} {v : List V} {d : List PyData} (h : TuA H v d) : DxA [] H v d := h.dx fun s z => by cases z
mutual
def flatD : PyData → Bool
  | .list _ | .dict _ => false
  | .tuple ds => flatAll ds
  | _ => true
def flatAll : List PyData → Bool
  | [] => true
  | d :: ds => flatD d && flatAll ds
end
mutual
theorem Dx.tu {S : List Addr} {H : Hp} : ∀ {v : V} {d : PyData}, Dx S H v d → flatD d = true → Tu H v d
  | _, _, .non, _ => .non
  | _, _, .bl b, _ => .bl b
  | _, _, .int i, _ => .int i
  | _, _, .str z, _ => .str z
  | _, _, .lst n h r, e => by simp [flatD] at e
  | _, _, .tup n h r, e => .tup h (DxA.tu r (by simpa [flatD] using e))
  | _, _, .dic n h, e => by simp [flatD] at e
theorem DxA.tu {S : List Addr} {H : Hp} : ∀ {v : List V} {d : List PyData}, DxA S H v d → flatAll d = true → TuA H v d
  | _, _, .nil, _ => .nil
  | _, _, @DxA.cons _ _ v vs d ds h t, e => by
    have e2 : flatD d = true ∧ flatAll ds = true := by simpa [flatAll] using e
    exact .cons (Dx.tu h e2.1) (DxA.tu t e2.2)
end
theorem flat_map {α : Type} {f : α → PyData} (h : ∀ a, flatD (f a) = true) : ∀ xs : List α, flatAll (xs.map f) = true
  | [] => rfl
  | x :: r => by
    show (flatD (f x) && flatAll (r.map f)) = true
    rw [h x, flat_map h r]; rfl
theorem flat_lamp (p : Int × Option Nat) : flatD (lampD p) = true := by
  obtain ⟨l, o⟩ := p
  cases o <;> rfl
theorem flat_net (N : Net) : flatD (netD N) = true := by
  show flatAll (N.map lampD) = true
  exact flat_map flat_lamp N
theorem Nw.tu {H H' : Hp} {v : V} {d : PyData} (h : Nw H H' v d) (e : flatD d = true) : Tu H' v d := (h [] fun s z => by cases z).tu e
theorem TuA.len {H : Hp} : ∀ {vs : List V} {ds : List PyData}, TuA H vs ds → vs.length = ds.length
  | _, _, .nil => rfl
  | _, _, .cons _ t => by rw [List.length_cons, List.length_cons, TuA.len t]
theorem TuA.get {H : Hp} : ∀ {vs : List V} {ds : List PyData} {i : Nat} {v : V}, TuA H vs ds → vs[i]? = some v → ∃ d, ds[i]? = some d ∧ Tu H v d
  | _, _, _, _, .nil, h => by cases h
  | _, _, 0, _, .cons a _, h => by cases h; exact ⟨_, rfl, a⟩
  | _, _, i + 1, _, .cons _ t, h => TuA.get (i := i) t (by simpa using h)
theorem TuA.get' {H : Hp} : ∀ {vs : List V} {ds : List PyData} {i : Nat} {d : PyData}, TuA H vs ds → ds[i]? = some d → ∃ v, vs[i]? = some v ∧ Tu H v d
  | _, _, _, _, .nil, h => by cases h
  | _, _, 0, _, .cons a _, h => by cases h; exact ⟨_, rfl, a⟩
  | _, _, i + 1, _, .cons _ t, h => TuA.get' (i := i) t (by simpa using h)
theorem TuA.app {H : Hp} : ∀ {vs ws : List V} {ds es : List PyData}, TuA H vs ds → TuA H ws es → TuA H (vs ++ ws) (ds ++ es)
  | _, _, _, _, .nil, h => h
  | _, _, _, _, .cons a t, h => .cons a (TuA.app t h)
theorem TuA.set {H : Hp} {v : V} {d : PyData} (h : Tu H v d) : ∀ {vs : List V} {ds : List PyData} (i : Nat), TuA H vs ds → TuA H (vs.set i v) (ds.set i d)
  | _, _, _, .nil => .nil
  | _, _, 0, .cons _ t => .cons h t
  | _, _, i + 1, .cons a t => .cons a (TuA.set h i t)
theorem TuA.rep {H : Hp} {v : V} {d : PyData} (h : Tu H v d) : ∀ n, TuA H (List.replicate n v) (List.replicate n d)
  | 0 => .nil
  | n + 1 => .cons h (TuA.rep h n)
theorem TuA.drop {H : Hp} : ∀ {vs : List V} {ds : List PyData} (n : Nat), TuA H vs ds → TuA H (vs.drop n) (ds.drop n)
  | _, _, 0, h => h
  | _, _, _ + 1, .nil => .nil
  | _, _, n + 1, .cons _ t => TuA.drop n t
theorem TuA.take {H : Hp} : ∀ {vs : List V} {ds : List PyData} (n : Nat), TuA H vs ds → TuA H (vs.take n) (ds.take n)
  | _, _, 0, _ => .nil
  | _, _, _ + 1, .nil => .nil
  | _, _, n + 1, .cons a t => .cons a (TuA.take n t)
theorem TuA.nats {H : Hp} : ∀ g : List Nat, TuA H (natV g) (g.map fun n : Nat => PyData.int (n : Int))
  | [] => .nil
  | n :: r => .cons (.int _) (TuA.nats r)
/-- the net's lamps in the heap -/
theorem tnet_at {H : Hp} {v : V} {N : Net} (h : Tu H v (netD N)) : ∃ (a : Addr) (xs : List V), v = .ref a ∧ H a = some (.tup xs) ∧ xs.length = N.length ∧ ∀ (i : Nat) (p : Int × Option Nat), N[i]? = some p → ∃ l, xs[i]? = some (V.ref l) ∧ H l = some (.tup [V.int p.1, nxV p.2]) := by
  obtain ⟨a, xs, e, _, h1, h2, h3⟩ := net_at h.dx0
  exact ⟨a, xs, e, h1, h2, fun i p hp => let ⟨l, q1, _, q2⟩ := h3 i p hp; ⟨l, q1, q2⟩⟩

/-! ### a list of lists of numbers, each its own -/
structure Bag (H : Hp) (c : Addr) (ps : List Addr) (css : List (List Nat)) : Prop where
  top : H c = some (.lst (ps.map V.ref))
  nd : (c :: ps).Nodup
  len : ps.length = css.length
  at_ : ∀ (i : Nat) p g, ps[i]? = some p → css[i]? = some g → H p = some (.lst (natV g))
theorem Bag.kp {S : List Addr} {H H1 : Hp} {c : Addr} {ps : List Addr} {css : List (List Nat)} (b : Bag H c ps css) (k : Kp S H H1) (hc : ∀ x ∈ c :: ps, x ∉ S) : Bag H1 c ps css :=
  ⟨k.lst (hc c List.mem_cons_self) b.top, b.nd, b.len, fun i p g hp hg => k.lst (hc p (List.mem_cons_of_mem _ (List.mem_of_getElem? hp))) (b.at_ i p g hp hg)⟩
theorem Bag.tr {H : Hp} {c : Addr} {ps : List Addr} {css : List (List Nat)} (b : Bag H c ps css) : ∀ x ∈ c :: ps, H x ≠ none := fun x hx => by
  rcases List.mem_cons.mp hx with rfl | hx
  · rw [b.top]; exact fun z => by cases z
  · obtain ⟨i, hi, e⟩ := List.getElem_of_mem hx
    have h1 : ps[i]? = some x := by rw [List.getElem?_eq_getElem hi, e]
    have h2 : css[i]? = some (css[i]'(by rw [← b.len]; exact hi)) := List.getElem?_eq_getElem _
    rw [b.at_ i x _ h1 h2]; exact fun z => by cases z
theorem Bag.ntup {H : Hp} {c : Addr} {ps : List Addr} {css : List (List Nat)} (b : Bag H c ps css) : ∀ x ∈ c :: ps, ∀ xs, H x ≠ some (.tup xs) := fun x hx xs => by
  rcases List.mem_cons.mp hx with rfl | hx
  · rw [b.top]; exact fun z => by cases z
  · obtain ⟨i, hi, e⟩ := List.getElem_of_mem hx
    have h1 : ps[i]? = some x := by rw [List.getElem?_eq_getElem hi, e]
    have h2 : css[i]? = some (css[i]'(by rw [← b.len]; exact hi)) := List.getElem?_eq_getElem _
    rw [b.at_ i x _ h1 h2]; exact fun z => by cases z
theorem Bag.get {H : Hp} {c : Addr} {ps : List Addr} {css : List (List Nat)} (b : Bag H c ps css) {i : Nat} (hi : i < css.length) : ∃ p g, css[i]? = some g ∧ ps[i]? = some p ∧ (ps.map V.ref)[i]? = some (V.ref p) ∧ H p = some (.lst (natV g)) ∧ p ∈ ps := by
  have h1 : ps[i]? = some (ps[i]'(by rw [b.len]; exact hi)) := List.getElem?_eq_getElem _
  have h2 : css[i]? = some css[i] := List.getElem?_eq_getElem hi
  exact ⟨_, _, h2, h1, by rw [List.getElem?_map, h1]; rfl, b.at_ i _ _ h1 h2, List.getElem_mem _⟩
theorem nodup_get {α : Type} {l : List α} (h : l.Nodup) {i j : Nat} {x : α} (hi : l[i]? = some x) (hj : l[j]? = some x) : i = j := by
  exact (List.getElem?_inj (List.getElem?_eq_some_iff.mp hi).1 h).mp (hi.trans hj.symm)
theorem Bag.put {H : Hp} {c : Addr} {ps : List Addr} {css : List (List Nat)} (b : Bag H c ps css) {i : Nat} {p : Addr} (hp : ps[i]? = some p) (g : List Nat) : Bag (upd H p (.lst (natV g))) c ps (css.set i g) := by
  have hcp : c ≠ p := fun e => (List.nodup_cons.mp b.nd).1 (e ▸ List.mem_of_getElem? hp)
  refine ⟨by rw [upd_ne hcp]; exact b.top, b.nd, by rw [List.length_set]; exact b.len, fun j q u hq hu => ?_⟩
  by_cases e : j = i
  · subst e
    rw [hp] at hq
    cases hq
    rw [List.getElem?_set_self (by have := (List.getElem?_eq_some_iff.mp hp).1; have := b.len; omega)] at hu
    cases hu
    exact upd_same
  · rw [List.getElem?_set_ne (fun z => e z.symm)] at hu
    have hqp : q ≠ p := fun z => e (nodup_get (List.nodup_cons.mp b.nd).2 (z ▸ hq) hp)
    rw [upd_ne hqp]
    exact b.at_ j q u hq hu
/-- one more list, empty -/
theorem Bag.more {H : Hp} {c : Addr} {ps : List Addr} {css : List (List Nat)} (b : Bag H c ps css) {p : Addr} (np : H p = none) : Bag (upd (upd H p (.lst [])) c (.lst (ps.map V.ref ++ [.ref p]))) c (ps ++ [p]) (css ++ [[]]) := by
  have hpc : ∀ x ∈ c :: ps, x ≠ p := fun x hx e => b.tr x hx (e ▸ np)
  refine ⟨by rw [upd_same, List.map_append]; rfl, ?_, by rw [List.length_append, List.length_append, b.len]; rfl, fun i q g hq hg => ?_⟩
  · rw [← List.cons_append, List.nodup_append]
    exact ⟨b.nd, by simp, fun x hx y hy => by rw [List.mem_singleton.mp hy]; exact hpc x hx⟩
  · have hqc : q ≠ c := fun e => by
      rcases List.mem_append.mp (List.mem_of_getElem? hq) with z | z
      · exact (List.nodup_cons.mp b.nd).1 (e ▸ z)
      · exact hpc c List.mem_cons_self (e ▸ List.mem_singleton.mp z)
    rw [upd_ne hqc]
    by_cases hi : i < ps.length
    · rw [List.getElem?_append_left hi] at hq
      rw [List.getElem?_append_left (by rw [← b.len]; exact hi)] at hg
      rw [upd_ne (hpc q (List.mem_cons_of_mem _ (List.mem_of_getElem? hq)))]
      exact b.at_ i q g hq hg
    · have e : i = ps.length := by
        have := (List.getElem?_eq_some_iff.mp hq).1
        rw [List.length_append] at this
        simp at this
        omega
      subst e
      rw [List.getElem?_append_right (Nat.le_refl _), Nat.sub_self] at hq
      rw [b.len, List.getElem?_append_right (Nat.le_refl _), Nat.sub_self] at hg
      cases hq
      cases hg
      exact upd_same
theorem natV_map (g : List Nat) : natV g = (g.map fun n : Nat => (n : Int)).map V.int := by unfold natV; rw [List.map_map]; rfl

/-! ### no part longer than 100,000 -/
mutual
def wdB : PyData → Bool
  | .list ds | .tuple ds => decide (ds.length < 100000) && wdAll ds
  | _ => true
def wdAll : List PyData → Bool
  | [] => true
  | d :: ds => wdB d && wdAll ds
end
theorem wd_len : 100000 < sizeLine := by rw [sizeLine_eq]; decide
theorem wd_mem {d : PyData} : ∀ {ds : List PyData}, wdAll ds = true → d ∈ ds → wdB d = true
  | [], _, h => by cases h
  | e :: ds, h, hm => by
    have h2 : wdB e = true ∧ wdAll ds = true := by simpa [wdAll] using h
    rcases List.mem_cons.mp hm with rfl | hm
    · exact h2.1
    · exact wd_mem h2.2 hm
theorem wd_map {α : Type} {f : α → PyData} (h : ∀ a, wdB (f a) = true) : ∀ xs : List α, wdAll (xs.map f) = true
  | [] => rfl
  | x :: r => by
    show (wdB (f x) && wdAll (r.map f)) = true
    rw [h x, wd_map h r]; rfl
theorem wd_list {ds : List PyData} (h : ds.length < 100000) (h2 : wdAll ds = true) : wdB (.list ds) = true := by
  show (decide _ && wdAll ds) = true
  rw [decide_eq_true h, h2]; rfl

/-! ### sorted numbers -/
def srt (g : List Nat) : List Nat := g.mergeSort
theorem srt_perm (g : List Nat) : (srt g).Perm g := List.mergeSort_perm g _
theorem srt_up (g : List Nat) : (srt g).Pairwise (· ≤ ·) := by
  have := List.pairwise_mergeSort (le := fun a b : Nat => decide (a ≤ b)) (fun a b c h1 h2 => by simp at *; omega) (fun a b => by simp; omega) g
  exact this.imp fun h => by simpa using h
theorem perm_up : ∀ {l m : List Int}, l.Perm m → l.Pairwise (· ≤ ·) → m.Pairwise (· ≤ ·) → l = m
  | [], m, h, _, _ => by rw [List.nil_perm.mp h]
  | a :: l, m, h, h1, h2 => by
    cases m with
    | nil => exact absurd h.length_eq (by simp)
    | cons b m =>
      have e : a = b := by
        have q1 : b ∈ a :: l := h.mem_iff.mpr List.mem_cons_self
        have q2 : a ∈ b :: m := h.mem_iff.mp List.mem_cons_self
        have r1 : a ≤ b := by
          rcases List.mem_cons.mp q1 with z | z
          · omega
          · exact (List.pairwise_cons.mp h1).1 b z
        have r2 : b ≤ a := by
          rcases List.mem_cons.mp q2 with z | z
          · omega
          · exact (List.pairwise_cons.mp h2).1 a z
        omega
      subst e
      rw [perm_up (List.Perm.cons_inv h) (List.pairwise_cons.mp h1).2 (List.pairwise_cons.mp h2).2]
theorem srt_of {g : List Nat} {ns : List Int} (h : ns.Perm (g.map fun n : Nat => (n : Int))) (h2 : ns.Pairwise (· ≤ ·)) : ns = (srt g).map fun n : Nat => (n : Int) :=
  perm_up (h.trans ((srt_perm g).symm.map _)) h2 (by
    rw [List.pairwise_map]
    exact (srt_up g).imp fun h => by omega)
theorem srt_len (g : List Nat) : (srt g).length = g.length := (srt_perm g).length_eq
end Em

namespace Em
open PySem PySem.Spec PyProof.Rows L2 Qt
open AutoSeq1 (wpAny_loadPart')

/-! ### zip of two tuples -/
theorem walk_zipT {K : PySem.W.Frag} {a b : Addr} {xs ys : List V} {m : Nat} (hm : m = min xs.length ys.length) :
    Walk (RZ.ItzT K a b) m (fun H => SqT K H a xs ∧ SqT K H b ys) (YPair (fun i => xs[i]?) fun i => ys[i]?) where
  goes i H hi g := by
    have c1 : i < xs.length := by omega
    have c2 : i < ys.length := by omega
    exact ⟨xs, ys, xs[i], ys[i], g.1, g.2, List.getElem?_eq_getElem c1, List.getElem?_eq_getElem c2⟩
  stops H g := ⟨xs, ys, g.1, g.2, by omega⟩
  yields i H v H' hi g y := by
    obtain ⟨T, x, z, e1, e2, e3, e4, e5⟩ := y
    exact ⟨T, x, z, e1, e2, e3, e4 xs g.1, e5 ys g.2⟩

/-- (a, b, ..) = t within a comprehension, the written part told -/
theorem pg_tupK {X : Cx} {K : PySem.W.Frag} (e : X.K = K) {es : List Expr} {k : Nat} {t : TGs} {n : Nat} {pos : Pos} (hc : X.calm = true) (h : PGs X es t)
    (hn : (assignEach es X.env).length = n := by rfl) (hst : (assignEach es X.env).findIdx? (·.1) = none := by rfl) : PG X (.Tuple es k pos) (gTup K n t) := e ▸ pg_tup hc h hn hst

/-! ### enumerate of a tuple -/
def tIter (l : Addr) : Obj := { cls := .type "tuple_iterator", data := .fields #[.ref l, .int 0 0] }
def tEnum (it : Addr) : Obj := { cls := .type "enumerate", data := .fields #[.none, .bool false, .ref it, rawInt 0, .none, .none] }
theorem enumT_new (l : Addr) (vs : Array Value) (n : Nat) (dd : Option Addr) (sl : Array (Option Value)) :
    Meets (Builtin.«enumerate.__new__» ⟨[.type "enumerate", .ref l], []⟩) (fun _ R s => s.heap.get? l = some { cls := .type "tuple", dict := dd, data := .seq vs n, slots := sl } ∧
      R (.ok (.ret (.ref (s.heap.push (tIter l)).objs.size))) { s with heap := (s.heap.push (tIter l)).push (tEnum s.heap.objs.size) }) :=
  .of_wp fun prog w A R s h => by
    obtain ⟨H0, g0, d0, tk0, os0⟩ := s
    obtain ⟨hl, hR⟩ := h
    have hsub := sub_enumerate
    have hT : Heap.IsTuple (Shared.heap ⟨H0, g0, d0, tk0, os0⟩) l vs := ⟨_, hl, rfl, n, rfl⟩
    wp_walk using wpAny_loadPart' hl
    refine wpAny_stack_any fun st => wpAny_pure ?_
    split
    · rename_i c _ _ _ _ _
      cases (c == Value.type "enumerate") <;> (wp_walk using wpAny_loadPart' hl, wpAny_pyIter_tuple hT; exact ⟨_, rfl, hR⟩)
    · (wp_walk using wpAny_loadPart' hl, wpAny_pyIter_tuple hT)
      exact ⟨_, rfl, hR⟩
section
variable {P : Program} {w : World} {A : Around} {E : Value → Shared → Prop} {s : Shared}
theorem call_enumT {l : Addr} {vs : Array Value} {Q : Value → Shared → Prop} (hT : s.heap.IsTuple l vs)
    (q : ∀ g : Heap, IsEnum g (s.heap.objs.size + 1) s.heap.objs.size 0 .none → g.IsTupleIter s.heap.objs.size l 0 → (∀ b o, s.heap.get? b = some o → g.get? b = some o) → Q (.ref (s.heap.objs.size + 1)) { s with heap := g }) :
    wpAny (model P w) A (call (.type "enumerate") [.ref l]) Q E s := by
  obtain ⟨⟨c, dd, dt, sl⟩, hl, hc, n, hd⟩ := hT
  obtain rfl : c = .type "tuple" := hc
  obtain rfl : dt = .seq vs n := hd
  refine callType_new F.called_enumerate (by decide) (F.typeCall_enumerate_1 _) (F.newCall_enumerate_1 _)
    (fun obj => F.args_object_init_2 obj _) F.entry_enumerate_new (enumT_new l vs n dd sl) ⟨hl, ?_⟩
  have z1 : (s.heap.push (tIter l)).objs.size = s.heap.objs.size + 1 := Heap.size_push ..
  have he : ((s.heap.push (tIter l)).push (tEnum s.heap.objs.size)).get? (s.heap.objs.size + 1) = some (tEnum s.heap.objs.size) := by
    have e := Heap.get?_push_size (s.heap.push (tIter l)) (o := tEnum s.heap.objs.size) rfl
    rwa [z1] at e
  show _ ∧ _
  rw [z1]
  refine ⟨⟨_, he, rfl⟩, q _ he ?_ fun b o x => Heap.get?_push_of_some _ (Heap.get?_push_of_some _ x)⟩
  exact ⟨tIter l, Heap.get?_push_of_some _ (Heap.get?_push_size _ rfl), rfl, rfl⟩
end
/-- the tuple at a, each item in a new pair with its number -/
def IteT (K : PySem.W.Frag) (a : Addr) : It :=
  ⟨fun i H => ∃ (xs : List V) (x : V), SqT K H a xs ∧ xs[i]? = some x,
    fun i H v H' => ∃ T x, v = .ref T ∧ H T = none ∧ H' = upd H T (.tup [.int (i : Nat), x]) ∧ ∀ xs, SqT K H a xs → xs[i]? = some x,
    fun i H => ∃ xs : List V, SqT K H a xs ∧ xs.length = i⟩
theorem turn_enumT {P : Program} {w : World} {K : PySem.W.Frag} {elts : List Expr} {kk : Nat} {tpos : Pos} (a e it : Addr) :
    Turn P w K (.Tuple elts kk tpos) (IteT K a) [e, it] e (fun i h => (∃ old, IsEnum h e it ((i : Nat) : Int) old) ∧ h.IsTupleIter it a i ∧ e ≠ it ∧ a ≠ it ∧ a ≠ e) where
  mem := by simp
  obj := fun i h st b hb => by
    obtain ⟨⟨old, he⟩, ⟨o, ho, hc, hd⟩, _⟩ := st
    have hb2 : b = e ∨ b = it := by simpa using hb
    rcases hb2 with z | z <;> rw [z]
    · exact ⟨_, he, fun v q => nomatch q⟩
    · exact ⟨o, ho, fun v q => by rw [hd] at q; cases q⟩
  keep := fun i h h' st k => by
    obtain ⟨⟨old, he⟩, hi, hne⟩ := st
    exact ⟨⟨old, k e (by simp) _ he⟩, hi.at fun o q => k it (by simp) o q, hne⟩
  item := by
    intro X hP hw hK hc i pins s σ H E I hf st hg
    subst hP hw hK
    obtain ⟨⟨old, he⟩, hit, hne, hai, hae⟩ := st
    obtain ⟨xs, x, hq, hx⟩ := hg
    obtain ⟨its, rv, tp, hz⟩ := I.tuple hq
    obtain ⟨u, hu, ru⟩ := rv.get hx
    have le : e < s.heap.objs.size := Heap.lt_size he
    have li : it < s.heap.objs.size := let ⟨_, q, _⟩ := hit; Heap.lt_size q
    have hlt : i < its.toArray.size := by have := (List.getElem?_eq_some_iff.mp hu).1; simpa using this
    have hin : e ∉ [it, a] := by simp [hne, Ne.symm hae]
    refine wpAny_pyNext_enum_itemD (Draws.tuple (A := X.A.in1) (I.ok.hd hc) it a hai its.toArray) he ⟨hit, show s.heap.IsTuple a its.toArray from tp⟩ hlt hne hin fun y g tk hy ho hst hT hsz hk => ?_
    obtain rfl : y = u := by
      have hy2 : its.toArray[i]? = some y := hy
      rw [show its.toArray[i]? = its[i]? by simp, hu] at hy2
      exact (Option.some.inj hy2).symm
    refine ⟨_, rfl, wpAny_letOwnedTupleGo_enum (s := { s with heap := g, toks := tk + 1 }) ho fun g2 he2 sb => ?_⟩
    have hT2 : g2.get? s.heap.objs.size = some { cls := .type "tuple", data := .seq #[.int i tk, y] } := (sb.2 _ (Nat.ne_of_gt le)).trans hT
    have nw : ObjOk X.prog X.w (upd H s.heap.objs.size (.tup [.int (i : Nat), x])) g2 s.heap.objs.size (.tup [.int (i : Nat), x]) :=
      ⟨(by show 2 ≤ sizeLine; decide), [.int i tk, y], .cons ⟨_, rfl⟩ (.cons ru .nil), ⟨_, hT2, rfl, _, rfl⟩⟩
    have I1 : Inv X pins σ (upd H s.heap.objs.size (.tup [.int (i : Nat), x])) { s with heap := g2, toks := tk + 1 } :=
      I.turnedNew (ch := [e, it]) (fun b ob hb q => by
        have n1 : b ≠ e := fun z => hb (by simp [z])
        have n2 : b ≠ it := fun z => hb (by simp [z])
        exact (sb.2 b n1).trans (hk b ob n1 n2 q)) hf (Nat.le_refl _) nw
    refine ⟨.ref s.heap.objs.size, _, I1, rfl, ⟨_, x, rfl, I.hok.fresh (Nat.le_refl _), rfl, fun ys hy => by rw [I.tuple_inj hy hq]; exact hx⟩, ⟨⟨y, ?_⟩, hst.1.at fun o q => (sb.2 it (Ne.symm hne)).trans q, hne, hai, hae⟩, fun b hb => ?_⟩
    · rw [show ((i + 1 : Nat) : Int) = (i : Int) + 1 by omega]
      exact he2
    · have hb2 : b = e ∨ b = it := by simpa using hb
      have hb3 : b < s.heap.objs.size := by rcases hb2 with z | z <;> rw [z] <;> assumption
      rw [upd_ne (Nat.ne_of_lt hb3)]
      exact (hf b hb).1
  done := by
    intro X hP hw hK hc i pins s σ H E I hf st hg
    subst hP hw hK
    obtain ⟨⟨old, he⟩, hit, hne, hai, hae⟩ := st
    obtain ⟨xs, hq, hx⟩ := hg
    obtain ⟨its, rv, tp, hz⟩ := I.tuple hq
    obtain ⟨f0, f1, f2, f3, f4, f5⟩ := hf it (by simp)
    have hl := rv.length
    have hTT : s.heap.IsTuple a its.toArray := tp
    have en : i = its.toArray.size := by rw [List.size_toArray]; omega
    refine wpAny_pyNext_enum_endD (Draws.tuple (A := X.A.in1) (I.ok.hd hc) it a hai its.toArray) he ⟨en ▸ hit, hTT⟩ fun g eb => ?_
    exact ⟨rfl, I.turned (t' := s.toks) (fun b o hb q => eb b o hb q) f0 f1 f3 f4 f5⟩
  self := fun A i s Q E st h => let ⟨⟨_, he⟩, _⟩ := st; wpAny_pyIter_enum he h
def iEnumT (K : PySem.W.Frag) (ta : TA) : TI := fun σ H R => ta σ H fun us H1 => ∃ a xs, us = [.ref a] ∧ SqT K H1 a xs ∧ R (IteT K a) H1
theorem pi_enumT {X : Cx} {e : Expr} {ta : TA} {p pos tpos : Pos} {elts : List Expr} {kk : Nat} (hg : Gl X "enumerate") (hm : X.mg "enumerate" = none) (ha : PA X [e] ta)
    (hs : starEach [e] X.env = [(false, eval e X.env)] := by rfl) : PI X (.Tuple elts kk tpos) (.Call (.Name "enumerate" p) [e] [] pos) (iEnumT X.K ta) := by
  refine ⟨fun pins s σ H R I h => Call_ (ld_blt I hg hm boot_enumerate (PyProof.Rows.callWith_type1 (thn (ha.run pos pins s σ H _ I h) fun us s1 ⟨vs, H1, I1, r1, q1⟩ => ?_) hs rfl))⟩
  obtain ⟨a, xs, rfl, hq, q⟩ := q1
  obtain ⟨u1, rfl, ru⟩ := vals1 r1
  cases ru
  obtain ⟨its, rv, tp, hz⟩ := I1.tuple hq
  have la : a < s1.heap.objs.size := by
    obtain ⟨o, ho, _⟩ := id tp
    exact Heap.lt_size ho
  refine call_enumT (show s1.heap.IsTuple a its.toArray from tp) fun g he hit hk => wpAny_pyIter_enum he ?_
  have I2 : Inv X pins σ H1 { s1 with heap := g } := I1.kept (t' := s1.toks) hk
  refine ⟨s1.heap.objs.size + 1, [s1.heap.objs.size + 1, s1.heap.objs.size], _, _, H1, rfl, I2, turn_enumT a (s1.heap.objs.size + 1) s1.heap.objs.size,
    ⟨⟨.none, he⟩, hit, Nat.succ_ne_self _, Nat.ne_of_lt la, Nat.ne_of_lt (Nat.lt_succ_of_lt la)⟩, fun b hb => ?_, q⟩
  have hb2 : b = s1.heap.objs.size + 1 ∨ b = s1.heap.objs.size := by simpa using hb
  have hle : s1.heap.objs.size ≤ b := by
    rcases hb2 with z | z <;> rw [z]
    · exact Nat.le_add_right _ _
    · exact Nat.le_refl _
  exact I1.fpOk hle (I1.hok.fresh hle)
theorem walk_enumT {K : PySem.W.Frag} {a : Addr} {xs : List V} : Walk (IteT K a) xs.length (fun H => SqT K H a xs) (YPair (fun i => some (.int (i : Nat))) fun i => xs[i]?) where
  goes i H hi g := ⟨xs, xs[i], g, List.getElem?_eq_getElem hi⟩
  stops H g := ⟨xs, g, rfl⟩
  yields i H v H' hi g y := by
    obtain ⟨T, x, e1, e2, e3, e4⟩ := y
    exact ⟨T, .int (i : Nat), x, e1, e2, e3, rfl, e4 xs g⟩
end Em

namespace Em
open PySem PySem.Spec PyProof.Rows L2 Qt

/-! ### a beat of the walk -/
/-- how long a lamp burns -/
def burnOf (N : Net) (x : Nat) : Int := (N.getD x (1, none)).1
theorem burnOf_get {N : Net} {x : Nat} {p : Int × Option Nat} (h : N[x]? = some p) : burnOf N x = p.1 := by
  unfold burnOf
  rw [List.getD_eq_getElem?_getD, h]
  rfl
abbrev Lt := Option (Nat × Nat)
inductive Row where
  | ended (b k f : Nat)
  | lit (b k f : Nat)
  | lost (b k f g : Nat)
def rowD : Row → PyData
  | .ended b k f => .tuple [.str "ended", .int b, .int k, .int f]
  | .lit b k f => .tuple [.str "lit", .int b, .int k, .int f]
  | .lost b k f g => .tuple [.str "lost", .int b, .int k, .int f, .int g]
def Row.at_ : Row → Nat
  | .ended b _ _ | .lit b _ _ | .lost b _ _ _ => b
def lightD : Lt → PyData
  | none => .none
  | some (f, t) => .tuple [.int f, .int t]
def waitD (p : Nat × Nat) : PyData := .tuple [.int p.1, .int p.2]
structure Dk where
  L : List Lt
  css : List (List Nat)
  rows : List Row
def darkK (N : Net) (b k : Nat) (s : Dk) : Dk :=
  match s.L.getD k none with
  | none => s
  | some (f, t) => if (b : Int) < (t : Int) + burnOf N k then s else
    match nxt N k with
    | none => ⟨s.L.set k none, s.css, s.rows ++ [.ended b k f]⟩
    | some y => ⟨s.L.set k none, s.css.set y (s.css.getD y [] ++ [f]), s.rows⟩
def darkN (N : Net) (b : Nat) : Nat → Dk → Dk
  | 0, s => s
  | k + 1, s => darkK N b k (darkN N b k s)
def addK (css : List (List Nat)) (p : Nat × Nat) : List (List Nat) := css.set p.2 (css.getD p.2 [] ++ [p.1])
def addW (css : List (List Nat)) (W : List (Nat × Nat)) : List (List Nat) := W.foldl addK css
def meet (b k : Nat) : Lt → List Nat → Lt × List Row
  | some (g, t), fs => (some (g, t), fs.map fun f => .lost b k f g)
  | none, [] => (none, [])
  | none, f :: r => (some (f, b), .lit b k f :: r.map fun g => .lost b k g f)
structure Ms where
  L : List Lt
  rows : List Row
def meetK (b : Nat) (css : List (List Nat)) (k : Nat) (s : Ms) : Ms :=
  ⟨s.L.set k (meet b k (s.L.getD k none) (srt (css.getD k []))).1, s.rows ++ (meet b k (s.L.getD k none) (srt (css.getD k []))).2⟩
def meetN (b : Nat) (css : List (List Nat)) : Nat → Ms → Ms
  | 0, s => s
  | k + 1, s => meetK b css k (meetN b css k s)
def darkA (N : Net) (b : Nat) (L : List Lt) : Dk := darkN N b N.length ⟨L, List.replicate N.length [], []⟩
def beatA (N : Net) (b : Nat) (L : List Lt) (W : List (Nat × Nat)) : Ms :=
  meetN b (addW (darkA N b L).css W) N.length ⟨(darkA N b L).L, (darkA N b L).rows⟩

/-! ### sizes -/
def tot (css : List (List Nat)) : Nat := (css.map List.length).sum
theorem tot_mem {css : List (List Nat)} {g : List Nat} (h : g ∈ css) : g.length ≤ tot css := by
  induction css with
  | nil => cases h
  | cons c r ih =>
    show g.length ≤ c.length + tot r
    rcases List.mem_cons.mp h with rfl | h
    · exact Nat.le_add_right _ _
    · exact Nat.le_trans (ih h) (Nat.le_add_left _ _)
theorem tot_put (css : List (List Nat)) (k f : Nat) : tot (css.set k (css.getD k [] ++ [f])) ≤ tot css + 1 := by
  induction css generalizing k with
  | nil => exact Nat.zero_le _
  | cons c r ih =>
    cases k with
    | zero =>
      show (c ++ [f]).length + tot r ≤ c.length + tot r + 1
      rw [List.length_append]
      simp
      omega
    | succ k =>
      have := ih k
      show c.length + tot (r.set k (r.getD k [] ++ [f])) ≤ c.length + tot r + 1
      omega
theorem tot_rep (n : Nat) : tot (List.replicate n []) = 0 := by
  unfold tot
  rw [List.map_replicate, List.sum_replicate_nat]
  simp
theorem darkK_len (N : Net) (b k : Nat) (s : Dk) : (darkK N b k s).L.length = s.L.length ∧ (darkK N b k s).css.length = s.css.length ∧ (darkK N b k s).rows.length + tot (darkK N b k s).css ≤ s.rows.length + tot s.css + 1 := by
  unfold darkK
  split
  · exact ⟨rfl, rfl, Nat.le_succ _⟩
  · rename_i f t _
    split
    · exact ⟨rfl, rfl, Nat.le_succ _⟩
    · split
      · refine ⟨List.length_set, rfl, ?_⟩
        show (s.rows ++ [_]).length + _ ≤ _
        rw [List.length_append]
        simp
        omega
      · rename_i y _
        have := tot_put s.css y f
        exact ⟨List.length_set, List.length_set, by show s.rows.length + tot (s.css.set y (s.css.getD y [] ++ [f])) ≤ _; omega⟩
theorem darkN_len (N : Net) (b : Nat) (s : Dk) : ∀ k, (darkN N b k s).L.length = s.L.length ∧ (darkN N b k s).css.length = s.css.length ∧ (darkN N b k s).rows.length + tot (darkN N b k s).css ≤ s.rows.length + tot s.css + k
  | 0 => ⟨rfl, rfl, Nat.le_refl _⟩
  | k + 1 => by
    obtain ⟨a1, a2, a3⟩ := darkN_len N b s k
    obtain ⟨b1, b2, b3⟩ := darkK_len N b k (darkN N b k s)
    exact ⟨b1.trans a1, b2.trans a2, by show _ ≤ _; exact Nat.le_trans b3 (by omega)⟩
theorem darkN_step (N : Net) (b : Nat) (s : Dk) (k : Nat) : (darkN N b k s).rows.length + tot (darkN N b k s).css ≤ s.rows.length + tot s.css + k := (darkN_len N b s k).2.2
theorem addW_len (W : List (Nat × Nat)) : ∀ css : List (List Nat), (addW css W).length = css.length ∧ tot (addW css W) ≤ tot css + W.length := by
  induction W with
  | nil => exact fun css => ⟨rfl, Nat.le_refl _⟩
  | cons p r ih =>
    intro css
    obtain ⟨a1, a2⟩ := ih (addK css p)
    have h1 : (addK css p).length = css.length := List.length_set
    have h2 := tot_put css p.2 p.1
    refine ⟨a1.trans h1, ?_⟩
    show tot (addW (addK css p) r) ≤ _
    have h3 : tot (addK css p) ≤ tot css + 1 := h2
    rw [List.length_cons]
    omega
theorem addW_more (css : List (List Nat)) (W : List (Nat × Nat)) (p : Nat × Nat) : addW css (W ++ [p]) = addK (addW css W) p := by
  unfold addW
  rw [List.foldl_append]
  rfl
theorem meet_len (b k : Nat) (l : Lt) (fs : List Nat) : (meet b k l fs).2.length = fs.length := by
  cases l with
  | some p => simp [meet]
  | none => cases fs <;> simp [meet]
theorem meetK_len (b : Nat) (css : List (List Nat)) (k : Nat) (s : Ms) : (meetK b css k s).L.length = s.L.length ∧ (meetK b css k s).rows.length = s.rows.length + (css.getD k []).length := by
  refine ⟨List.length_set, ?_⟩
  show (s.rows ++ (meet b k (s.L.getD k none) (srt (css.getD k []))).2).length = _
  rw [List.length_append, meet_len, srt_len]
theorem meetN_len (b : Nat) (css : List (List Nat)) (s : Ms) : ∀ k, (meetN b css k s).L.length = s.L.length ∧ (meetN b css k s).rows.length ≤ s.rows.length + tot (css.take k)
  | 0 => ⟨rfl, Nat.le_add_right _ _⟩
  | k + 1 => by
    obtain ⟨a1, a2⟩ := meetN_len b css s k
    obtain ⟨b1, b2⟩ := meetK_len b css k (meetN b css k s)
    refine ⟨b1.trans a1, ?_⟩
    show (meetK b css k (meetN b css k s)).rows.length ≤ _
    rw [b2]
    by_cases hk : k < css.length
    · have e : tot (css.take (k + 1)) = tot (css.take k) + (css.getD k []).length := by
        rw [List.take_add_one, List.getElem?_eq_getElem hk]
        unfold tot
        rw [List.map_append, List.sum_append, List.getD_eq_getElem?_getD, List.getElem?_eq_getElem hk]
        simp
      omega
    · have e1 : css.getD k [] = [] := by rw [List.getD_eq_getElem?_getD, List.getElem?_eq_none (by omega)]; rfl
      have e2 : css.take (k + 1) = css.take k := by rw [List.take_of_length_le (by omega), List.take_of_length_le (by omega)]
      rw [e1, e2]
      simpa using a2
theorem tot_take (css : List (List Nat)) (k : Nat) : tot (css.take k) ≤ tot css := by
  have e : tot css = tot (css.take k) + tot (css.drop k) := by
    unfold tot
    rw [← List.sum_append, ← List.map_append, List.take_append_drop]
  omega
theorem darkA_len {N : Net} {b : Nat} {L : List Lt} (h : L.length = N.length) : (darkA N b L).L.length = N.length ∧ (darkA N b L).css.length = N.length ∧ (darkA N b L).rows.length + tot (darkA N b L).css ≤ N.length := by
  obtain ⟨a1, a2, a3⟩ := darkN_len N b ⟨L, List.replicate N.length [], []⟩ N.length
  refine ⟨a1.trans h, a2.trans (List.length_replicate), ?_⟩
  have e : ([] : List Row).length + tot (List.replicate N.length []) + N.length = N.length := by rw [tot_rep]; simp
  exact Nat.le_trans a3 (Nat.le_of_eq e)
theorem beatA_len {N : Net} {b : Nat} {L : List Lt} {W : List (Nat × Nat)} (h : L.length = N.length) : (beatA N b L W).L.length = N.length ∧ (beatA N b L W).rows.length ≤ N.length + W.length := by
  obtain ⟨a1, a2, a3⟩ := darkA_len (b := b) h
  obtain ⟨b1, b2⟩ := addW_len W (darkA N b L).css
  obtain ⟨c1, c2⟩ := meetN_len b (addW (darkA N b L).css W) ⟨(darkA N b L).L, (darkA N b L).rows⟩ N.length
  refine ⟨c1.trans a1, Nat.le_trans c2 ?_⟩
  have := tot_take (addW (darkA N b L).css W) N.length
  show (darkA N b L).rows.length + _ ≤ _
  omega
/-! ### the rows of a beat are of that beat -/
theorem darkN_at (N : Net) (b : Nat) (s : Dk) (h : ∀ r ∈ s.rows, r.at_ = b) : ∀ k, ∀ r ∈ (darkN N b k s).rows, r.at_ = b
  | 0 => h
  | k + 1 => by
    intro r hr
    have ih := darkN_at N b s h k
    have hr2 : r ∈ (darkK N b k (darkN N b k s)).rows := hr
    unfold darkK at hr2
    split at hr2
    · exact ih r hr2
    · split at hr2
      · exact ih r hr2
      · split at hr2
        · rcases List.mem_append.mp hr2 with z | z
          · exact ih r z
          · rw [List.mem_singleton.mp z]; rfl
        · exact ih r hr2
theorem meet_at (b k : Nat) (l : Lt) (fs : List Nat) : ∀ r ∈ (meet b k l fs).2, r.at_ = b := by
  intro r hr
  cases l with
  | some p =>
    obtain ⟨f, _, rfl⟩ := List.mem_map.mp (show r ∈ fs.map _ from hr)
    rfl
  | none =>
    cases fs with
    | nil => cases hr
    | cons f g =>
      rcases List.mem_cons.mp (show r ∈ Row.lit b k f :: g.map _ from hr) with rfl | z
      · rfl
      · obtain ⟨f, _, rfl⟩ := List.mem_map.mp z
        rfl
theorem meetN_at (b : Nat) (css : List (List Nat)) (s : Ms) (h : ∀ r ∈ s.rows, r.at_ = b) : ∀ k, ∀ r ∈ (meetN b css k s).rows, r.at_ = b
  | 0 => h
  | k + 1 => by
    intro r hr
    rcases List.mem_append.mp (show r ∈ (meetN b css k s).rows ++ _ from hr) with z | z
    · exact meetN_at b css s h k r z
    · exact meet_at b k _ _ r z
theorem beatA_at (N : Net) (b : Nat) (L : List Lt) (W : List (Nat × Nat)) : ∀ r ∈ (beatA N b L W).rows, r.at_ = b :=
  meetN_at b _ _ (darkN_at N b _ (fun r hr => by cases hr) _) _
/-! ### what burns was lit, and is not over -/
def Fresh (N : Net) (b : Nat) (L : List Lt) : Prop := ∀ k f t, L[k]? = some (some (f, t)) → t < b ∧ (b : Int) ≤ (t : Int) + burnOf N k
end Em

namespace Em
open PySem PySem.Spec PyProof.Rows L2 Qt

/-! ### an Embers' fields -/
def emF (v : V) (b n : Int) (w l r : Addr) : List (Str × V) := [("_net", v), ("_beat", .int b), ("_flames", .int n), ("_waiting", .ref w), ("_lights", .ref l), ("_rows", .ref r)]
section
variable {v : V} {b n : Int} {w l r : Addr}
theorem em_ne : (("_net" : Str) == "_beat") = false ∧ (("_net" : Str) == "_flames") = false ∧ (("_net" : Str) == "_waiting") = false ∧ (("_net" : Str) == "_lights") = false ∧ (("_net" : Str) == "_rows") = false ∧
    (("_beat" : Str) == "_flames") = false ∧ (("_beat" : Str) == "_waiting") = false ∧ (("_beat" : Str) == "_lights") = false ∧ (("_beat" : Str) == "_rows") = false ∧
    (("_flames" : Str) == "_waiting") = false ∧ (("_flames" : Str) == "_lights") = false ∧ (("_flames" : Str) == "_rows") = false ∧
    (("_waiting" : Str) == "_lights") = false ∧ (("_waiting" : Str) == "_rows") = false ∧ (("_lights" : Str) == "_rows") = false := by decide +kernel
theorem look_c {α : Type} {x y : Str} {v : α} {r : List (Str × α)} (h : (y == x) = false) : List.lookup x ((y, v) :: r) = List.lookup x r := by
  have h2 : (x == y) = false := by
    have : y ≠ x := by simpa using h
    simpa using this.symm
  show (match x == y with | true => some v | false => List.lookup x r) = _
  rw [h2]
theorem look_h {α : Type} {x : Str} {v : α} {r : List (Str × α)} : List.lookup x ((x, v) :: r) = some v := by
  show (match x == x with | true => some v | false => List.lookup x r) = _
  rw [beq_self_eq_true]
theorem em_net : (emF v b n w l r).lookup ("_net" : Str) = some v := look_h
theorem em_beat : (emF v b n w l r).lookup ("_beat" : Str) = some (.int b) := (look_c (by decide +kernel)).trans look_h
theorem em_flames : (emF v b n w l r).lookup ("_flames" : Str) = some (.int n) := (look_c (by decide +kernel)).trans ((look_c (by decide +kernel)).trans look_h)
theorem em_waiting : (emF v b n w l r).lookup ("_waiting" : Str) = some (.ref w) := (look_c (by decide +kernel)).trans ((look_c (by decide +kernel)).trans ((look_c (by decide +kernel)).trans look_h))
theorem em_lights : (emF v b n w l r).lookup ("_lights" : Str) = some (.ref l) := (look_c (by decide +kernel)).trans ((look_c (by decide +kernel)).trans ((look_c (by decide +kernel)).trans ((look_c (by decide +kernel)).trans look_h)))
theorem em_rows : (emF v b n w l r).lookup ("_rows" : Str) = some (.ref r) := (look_c (by decide +kernel)).trans ((look_c (by decide +kernel)).trans ((look_c (by decide +kernel)).trans ((look_c (by decide +kernel)).trans ((look_c (by decide +kernel)).trans look_h))))
theorem em_no {m : Str} (h : m ∉ (["_net", "_beat", "_flames", "_waiting", "_lights", "_rows"] : List Str)) : (emF v b n w l r).lookup m = none := by
  simp only [List.mem_cons, List.not_mem_nil, or_false, not_or] at h
  obtain ⟨h1, h2, h3, h4, h5, h6⟩ := h
  have f : ∀ {x : Str}, m ≠ x → (x == m) = false := fun {x} e => by simpa using fun z => e z.symm
  unfold emF
  rw [look_c (f h1), look_c (f h2), look_c (f h3), look_c (f h4), look_c (f h5), look_c (f h6)]
  rfl
theorem putF_c {x y : Str} {v u : V} {r : List (Str × V)} (h : ¬ y = x) : putF x v ((y, u) :: r) = (y, u) :: putF x v r := by
  rw [putF]
  exact if_neg h
theorem putF_h {x : Str} {v u : V} {r : List (Str × V)} : putF x v ((x, u) :: r) = (x, v) :: r := by
  rw [putF]
  exact if_pos rfl
theorem pl {x : Str} {v : V} : ∀ {r : List (Str × V)} {k : Nat}, r.length ≤ k → (putF x v r).length ≤ k + 1
  | [], k, _ => Nat.succ_le_succ (Nat.zero_le _)
  | (y, u) :: r, 0, h => absurd h (Nat.not_succ_le_zero _)
  | (y, u) :: r, k + 1, h => by
    rw [putF]
    split
    · exact Nat.le_succ_of_le h
    · exact Nat.succ_le_succ (pl (Nat.le_of_succ_le_succ h))
theorem putF_n {x : Str} {v : V} : putF x v [] = [(x, v)] := rfl
theorem em_putBeat {y : Int} : putF "_beat" (.int y) (emF v b n w l r) = emF v y n w l r := by
  unfold emF
  rw [putF_c (by decide +kernel), putF_h]
theorem em_putFlames {y : Int} : putF "_flames" (.int y) (emF v b n w l r) = emF v b y w l r := by
  unfold emF
  rw [putF_c (by decide +kernel), putF_c (by decide +kernel), putF_h]
theorem em_putWaiting {y : Addr} : putF "_waiting" (.ref y) (emF v b n w l r) = emF v b n y l r := by
  unfold emF
  rw [putF_c (by decide +kernel), putF_c (by decide +kernel), putF_c (by decide +kernel), putF_h]
theorem em_new : putF "_rows" (.ref r) (putF "_lights" (.ref l) (putF "_waiting" (.ref w) (putF "_flames" (.int n) (putF "_beat" (.int b) (putF "_net" v []))))) = emF v b n w l r := by
  have p2 : putF "_beat" (.int b) (putF "_net" v []) = ([("_net", v), ("_beat", .int b)] : List (Str × V)) := by rw [putF_n, putF_c (by decide +kernel), putF_n]
  have p3 : putF "_flames" (.int n) ([("_net", v), ("_beat", .int b)] : List (Str × V)) = ([("_net", v), ("_beat", .int b), ("_flames", .int n)] : List (Str × V)) := by rw [putF_c (by decide +kernel), putF_c (by decide +kernel), putF_n]
  have p4 : putF "_waiting" (.ref w) ([("_net", v), ("_beat", .int b), ("_flames", .int n)] : List (Str × V)) = ([("_net", v), ("_beat", .int b), ("_flames", .int n), ("_waiting", .ref w)] : List (Str × V)) := by
    rw [putF_c (by decide +kernel), putF_c (by decide +kernel), putF_c (by decide +kernel), putF_n]
  have p5 : putF "_lights" (.ref l) ([("_net", v), ("_beat", .int b), ("_flames", .int n), ("_waiting", .ref w)] : List (Str × V)) = ([("_net", v), ("_beat", .int b), ("_flames", .int n), ("_waiting", .ref w), ("_lights", .ref l)] : List (Str × V)) := by
    rw [putF_c (by decide +kernel), putF_c (by decide +kernel), putF_c (by decide +kernel), putF_c (by decide +kernel), putF_n]
  rw [p2, p3, p4, p5, putF_c (by decide +kernel), putF_c (by decide +kernel), putF_c (by decide +kernel), putF_c (by decide +kernel), putF_c (by decide +kernel), putF_n]
  rfl
end
/-- a test's way -/
theorem condT {A B : Bool → Hp → Prop} {H : Hp} (h : A true H) : (fun (b : Bool) (H1 : Hp) => if b = true then A b H1 else B b H1) true H := by
  show (if true = true then _ else B true H)
  rw [if_pos rfl]; exact h
theorem condF {A B : Bool → Hp → Prop} {H : Hp} (h : B false H) : (fun (b : Bool) (H1 : Hp) => if b = true then A b H1 else B b H1) false H := by
  show (if false = true then A false H else _)
  rw [if_neg Bool.false_ne_true]; exact h
/-- a def with defaults, its body -/
theorem okD {P : Program} {w : World} {K : PySem.W.Frag} {mg : Str → Option Value} {base : Heap} {x qual : Str} {st : Stmt} {dvs : List V} {kws : List (Str × V)} {f : Addr} {fd : FuncData} {N ps : List Str} {k : Nat} {sp : Sp}
    (F : FunD K x qual (defArgs st) (defBody st) (defScope st) dvs kws f fd) (S : FnScope N ps (defScope st)) (len : ∀ vs H Q E, sp vs H Q E → vs.length = ps.length)
    (hb : ∀ (cdv : Value) (A : Around) (outer : List Env) (s : Shared) (H : Hp) (vs : List V) (Q : VK) (E : XK), Room k (A.deeper (envOfC qual (defScope st) s.heap.objs.size f cdv)) → sp vs H Q E →
      ∃ t, PSs (cxOf CX0 P w K mg base N qual (defScope st) f cdv A outer s H E).nox (defBody st) t ∧ t { nx := fun _ H' => Q .non H', rt := Q } (start N vs) H) : FnOk P w K mg base CX0 (k + 1) f fd ps sp :=
  F.ok S len fun cdv A outer s H vs Q E hr h => let ⟨t, h1, q⟩ := hb cdv A outer s H vs Q E hr h; ⟨t, h1.nox, q⟩
/-- what an Embers has come to -/
structure EmS where
  N : Net
  b : Nat
  n : Nat
  W : List (Nat × Nat)
  L : List Lt
  R : List Row
structure Emb (C : Addr) (H : Hp) (e w l r : Addr) (s : EmS) : Prop where
  ex : ∃ (dx : Addr) (v : V), H e = some (.ins C dx (emF v s.b s.n w l r)) ∧ Tu H v (netD s.N)
  wt : ∃ ws, H w = some (.lst ws) ∧ TuA H ws (s.W.map waitD)
  lt : ∃ ls, H l = some (.lst ls) ∧ TuA H ls (s.L.map lightD)
  rw : ∃ rs, H r = some (.lst rs) ∧ TuA H rs (s.R.map rowD)
  nd : w ≠ l ∧ w ≠ r ∧ l ≠ r
  ok : NetOk s.N
  ln : s.L.length = s.N.length
  wk : ∀ p ∈ s.W, p.2 < s.N.length
theorem Emb.kp {C : Addr} {H H1 : Hp} {e w l r : Addr} {s : EmS} {S : List Addr} (h : Emb C H e w l r s) (k : Kp S H H1) (t : Kt H H1) (hS : ∀ x ∈ [e, w, l, r], x ∉ S) : Emb C H1 e w l r s := by
  obtain ⟨⟨dx, v, h1, h2⟩, ⟨ws, h3, h4⟩, ⟨ls, h5, h6⟩, ⟨rs, h7, h8⟩, nd, ok, ln, wk⟩ := h
  simp only [List.mem_cons, List.not_mem_nil, or_false, forall_eq_or_imp, forall_eq] at hS
  obtain ⟨n1, n2, n3, n4⟩ := hS
  exact ⟨⟨dx, v, k.ins n1 h1, h2.kt t⟩, ⟨ws, k.lst n2 h3, h4.kt t⟩, ⟨ls, k.lst n3 h5, h6.kt t⟩, ⟨rs, k.lst n4 h7, h8.kt t⟩, nd, ok, ln, wk⟩
theorem Emb.tr {C : Addr} {H : Hp} {e w l r : Addr} {s : EmS} (h : Emb C H e w l r s) : ∀ x ∈ [e, w, l, r], H x ≠ none := by
  obtain ⟨⟨dx, v, h1, h2⟩, ⟨ws, h3, h4⟩, ⟨ls, h5, h6⟩, ⟨rs, h7, h8⟩, _⟩ := h
  simp only [List.mem_cons, List.not_mem_nil, or_false, forall_eq_or_imp, forall_eq]
  refine ⟨?_, ?_, ?_, ?_⟩
  · rw [h1]; exact fun z => by cases z
  · rw [h3]; exact fun z => by cases z
  · rw [h5]; exact fun z => by cases z
  · rw [h7]; exact fun z => by cases z
theorem Emb.nt {C : Addr} {H : Hp} {e w l r : Addr} {s : EmS} (h : Emb C H e w l r s) : ∀ x ∈ [e, w, l, r], ∀ xs, H x ≠ some (.tup xs) := by
  obtain ⟨⟨dx, v, h1, h2⟩, ⟨ws, h3, h4⟩, ⟨ls, h5, h6⟩, ⟨rs, h7, h8⟩, _⟩ := h
  simp only [List.mem_cons, List.not_mem_nil, or_false, forall_eq_or_imp, forall_eq]
  refine ⟨fun xs => ?_, fun xs => ?_, fun xs => ?_, fun xs => ?_⟩
  · rw [h1]; exact fun z => by cases z
  · rw [h3]; exact fun z => by cases z
  · rw [h5]; exact fun z => by cases z
  · rw [h7]; exact fun z => by cases z
/-- one beat gone -/
def EmS.go (s : EmS) : EmS := { s with b := s.b + 1, W := [], L := (beatA s.N s.b s.L s.W).L }
def EmS.rows (s : EmS) : List Row := (beatA s.N s.b s.L s.W).rows
/-- so many beats gone, what happened so far apart -/
def EmS.goN (s : EmS) : Nat → EmS × List Row
  | 0 => (s, [])
  | k + 1 => ((s.goN k).1.go, (s.goN k).2 ++ (s.goN k).1.rows)
theorem getD_some {L : List Lt} {k : Nat} {x : Lt} (h : L[k]? = some x) : L.getD k none = x := by
  rw [List.getD_eq_getElem?_getD, h]; rfl
theorem getD_css {css : List (List Nat)} {k : Nat} {g : List Nat} (h : css[k]? = some g) : css.getD k [] = g := by
  rw [List.getD_eq_getElem?_getD, h]; rfl
/-- a light in the heap -/
theorem light_at {H : Hp} {v : V} {x : Lt} (h : Tu H v (lightD x)) : (x = none ∧ v = .non) ∨ ∃ f t a, x = some (f, t) ∧ v = .ref a ∧ H a = some (.tup [.int (f : Nat), .int (t : Nat)]) := by
  cases x with
  | none =>
    cases h
    exact .inl ⟨rfl, rfl⟩
  | some p =>
    obtain ⟨f, t⟩ := p
    cases h with
    | @tup a xs ds h r =>
      cases r with
      | cons r1 r =>
        cases r1
        cases r with
        | cons r2 r =>
          cases r2
          cases r
          exact .inr ⟨f, t, a, rfl, rfl, h⟩
theorem wait_at {H : Hp} {v : V} {p : Nat × Nat} (h : Tu H v (waitD p)) : ∃ a, v = .ref a ∧ H a = some (.tup [.int (p.1 : Nat), .int (p.2 : Nat)]) := by
  cases h with
  | @tup a xs ds h r =>
    cases r with
    | cons r1 r =>
      cases r1
      cases r with
      | cons r2 r =>
        cases r2
        cases r
        exact ⟨a, rfl, h⟩
end Em

namespace Em
open PySem PySem.Spec PyProof.Rows L2 Qt

/-! ### new lists in a list -/
structure BagNew (H : Hp) (c : Addr) (ps : List Addr) (j : Nat) (H' : Hp) : Prop where
  bag : Bag H' c ps (List.replicate j [])
  new : ∀ x ∈ c :: ps, H x = none
  kp : Kp [] H H'
theorem BagNew.start {H : Hp} {c : Addr} (nc : H c = none) : BagNew H c [] 0 (upd H c (.lst [])) :=
  ⟨⟨upd_same, by simp, rfl, fun i p g hp => by simp at hp⟩, fun x hx => by rw [List.mem_singleton.mp hx]; exact nc, Kp.new nc⟩
theorem BagNew.step {H H' : Hp} {c q : Addr} {ps : List Addr} {j : Nat} (h : BagNew H c ps j H') (nq : H' q = none) :
    (upd H' q (.lst [])) c = some (.lst (ps.map V.ref)) ∧ BagNew H c (ps ++ [q]) (j + 1) (upd (upd H' q (.lst [])) c (.lst (ps.map V.ref ++ [.ref q]))) := by
  have kq : Kp [] H' (upd H' q (.lst [])) := Kp.new nq
  have hc := kq.lst (by simp) h.bag.top
  have nc := h.new c List.mem_cons_self
  refine ⟨hc, ?_, fun x hx => ?_, ?_⟩
  · rw [List.replicate_succ']
    exact h.bag.more nq
  · rcases List.mem_cons.mp hx with z | z
    · rw [z]; exact nc
    · rcases List.mem_append.mp z with z | z
      · exact h.new x (List.mem_cons_of_mem _ z)
      · rw [List.mem_singleton.mp z]
        cases y : H q with
        | none => rfl
        | some o => exact absurd nq (h.kp.tr_ q (by rw [y]; exact fun y => by cases y))
  · exact Kp.drop nc ((h.kp.tr kq).of0.tr (Kp.put (S := [c]) (by simp) hc fun ps z => by cases z))

/-! ### the law's own walk: what burns, and since how many beats -/
def burnD (c : Int) : Lt → PyData
  | none => .none
  | some (f, t) => .tuple [.int f, .int (c - t)]
theorem burn_at {H : Hp} {v : V} {c : Int} {x : Lt} (h : Tu H v (burnD c x)) : (x = none ∧ v = .non) ∨ ∃ f t a, x = some (f, t) ∧ v = .ref a ∧ H a = some (.tup [.int (f : Nat), .int (c - (t : Nat))]) := by
  cases x with
  | none =>
    cases h
    exact .inl ⟨rfl, rfl⟩
  | some p =>
    obtain ⟨f, t⟩ := p
    cases h with
    | @tup a xs ds h r =>
      cases r with
      | cons r1 r =>
        cases r1
        cases r with
        | cons r2 r =>
          cases r2
          cases r
          exact .inr ⟨f, t, a, rfl, rfl, h⟩
/-- the first k of it at the clock c, the others a beat ago -/
def mixD (c : Int) (k : Nat) (L : List Lt) : List PyData := (List.range L.length).map fun i => burnD (if i < k then c else c - 1) (L.getD i none)
theorem mixD_len (c : Int) (k : Nat) (L : List Lt) : (mixD c k L).length = L.length := by unfold mixD; rw [List.length_map, List.length_range]
theorem mixD_get {c : Int} {k i : Nat} {L : List Lt} {x : Lt} (h : L[i]? = some x) : (mixD c k L)[i]? = some (burnD (if i < k then c else c - 1) x) := by
  have hi := (List.getElem?_eq_some_iff.mp h).1
  unfold mixD
  rw [List.getElem?_map, List.getElem?_range hi]
  show some (burnD _ (L.getD i none)) = _
  rw [getD_some h]
theorem mixD_zero (c : Int) (L : List Lt) : mixD c 0 L = L.map (burnD (c - 1)) := by
  refine List.ext_getElem? fun i => ?_
  cases h : L[i]? with
  | none => rw [List.getElem?_map, h, List.getElem?_eq_none (by rw [mixD_len]; exact List.getElem?_eq_none_iff.mp h)]; rfl
  | some x => rw [mixD_get h, List.getElem?_map, h]; rfl
theorem mixD_all (c : Int) (L : List Lt) : mixD c L.length L = L.map (burnD c) := by
  refine List.ext_getElem? fun i => ?_
  cases h : L[i]? with
  | none => rw [List.getElem?_map, h, List.getElem?_eq_none (by rw [mixD_len]; exact List.getElem?_eq_none_iff.mp h)]; rfl
  | some x =>
    rw [mixD_get h, List.getElem?_map, h, if_pos (List.getElem?_eq_some_iff.mp h).1]; rfl
theorem mixD_set {c : Int} {k : Nat} {L : List Lt} (hk : k < L.length) (x : Lt) : mixD c (k + 1) (L.set k x) = (mixD c k L).set k (burnD c x) := by
  refine List.ext_getElem? fun i => ?_
  by_cases e : i = k
  · subst e
    rw [mixD_get (List.getElem?_set_self hk), if_pos (Nat.lt_succ_self _), List.getElem?_set_self (by rw [mixD_len]; exact hk)]
  · rw [List.getElem?_set_ne (fun z => e z.symm)]
    cases h : L[i]? with
    | none =>
      have := List.getElem?_eq_none_iff.mp h
      rw [List.getElem?_eq_none (by rw [mixD_len, List.length_set]; exact this), List.getElem?_eq_none (by rw [mixD_len]; exact this)]
    | some y =>
      rw [mixD_get h, mixD_get (by rw [List.getElem?_set_ne (fun z => e z.symm)]; exact h)]
      congr 1
      by_cases h1 : i < k
      · rw [if_pos h1, if_pos (by omega)]
      · rw [if_neg h1, if_neg (by omega)]
theorem set_self {L : List Lt} {k : Nat} {x : Lt} (h : L[k]? = some x) : L.set k x = L := by
  obtain ⟨hk, rfl⟩ := List.getElem?_eq_some_iff.mp h
  exact List.set_getElem_self hk
theorem mixD_same {c : Int} {k : Nat} {L : List Lt} {x : Lt} (h : L[k]? = some x) : mixD c (k + 1) L = (mixD c k L).set k (burnD c x) := by
  have := mixD_set (c := c) (List.getElem?_eq_some_iff.mp h).1 x
  rwa [set_self h] at this
theorem mixD_none {c : Int} {k : Nat} {L : List Lt} (h : L[k]? = some none) : mixD c (k + 1) L = mixD c k L := by
  rw [mixD_same h]
  refine List.ext_getElem? fun i => ?_
  by_cases e : i = k
  · subst e
    rw [List.getElem?_set_self (by rw [mixD_len]; exact (List.getElem?_eq_some_iff.mp h).1), mixD_get h]
    rfl
  · rw [List.getElem?_set_ne (fun z => e z.symm)]
/-! a flame more comes -/
theorem meet_snoc (b k f : Nat) (l : Lt) (fs : List Nat) : meet b k l (fs ++ [f]) = match (meet b k l fs).1 with
    | none => (some (f, b), (meet b k l fs).2 ++ [.lit b k f])
    | some (g, t) => (some (g, t), (meet b k l fs).2 ++ [.lost b k f g]) := by
  cases l with
  | some p =>
    obtain ⟨g, t⟩ := p
    show (some (g, t), (fs ++ [f]).map _) = _
    rw [List.map_append]
    rfl
  | none =>
    cases fs with
    | nil => rfl
    | cons h r =>
      show (some (h, b), Row.lit b k h :: (r ++ [f]).map _) = _
      rw [List.map_append]
      rfl
theorem meetN_pre (b : Nat) (css : List (List Nat)) (L : List Lt) (R0 : List Em.Row) : ∀ k, (meetN b css k ⟨L, R0⟩).L = (meetN b css k ⟨L, []⟩).L ∧ (meetN b css k ⟨L, R0⟩).rows = R0 ++ (meetN b css k ⟨L, []⟩).rows
  | 0 => ⟨rfl, (List.append_nil _).symm⟩
  | k + 1 => by
    obtain ⟨a1, a2⟩ := meetN_pre b css L R0 k
    refine ⟨?_, ?_⟩
    · show (meetK b css k _).L = (meetK b css k _).L
      unfold meetK
      rw [a1]
    · show (meetK b css k _).rows = R0 ++ (meetK b css k _).rows
      unfold meetK
      rw [a1, a2, List.append_assoc]
/-! ### the walk -/
def numW : Nat → List Nat → List (Nat × Nat)
  | _, [] => []
  | m, k :: g => (m, k) :: numW (m + 1) g
theorem numW_len : ∀ (m : Nat) (g : List Nat), (numW m g).length = g.length
  | _, [] => rfl
  | m, k :: g => by show _ + 1 = _ + 1; rw [numW_len]
theorem numW_take : ∀ (m : Nat) (g : List Nat) (j : Nat) (k : Nat), g[j]? = some k → numW m (g.take (j + 1)) = numW m (g.take j) ++ [(m + j, k)]
  | m, [], j, k, h => by cases h
  | m, x :: g, 0, k, h => by cases h; rfl
  | m, x :: g, j + 1, k, h => by
    have := numW_take (m + 1) g j k (by simpa using h)
    show (m, x) :: numW (m + 1) (g.take (j + 1)) = (m, x) :: numW (m + 1) (g.take j) ++ _
    rw [this, show m + 1 + j = m + (j + 1) by omega]
    rfl
theorem numW_mem : ∀ (m : Nat) (g : List Nat) (p : Nat × Nat), p ∈ numW m g → p.2 ∈ g
  | m, x :: g, p, h => by
    rcases List.mem_cons.mp (show p ∈ (m, x) :: numW (m + 1) g from h) with rfl | h
    · exact List.mem_cons_self
    · exact List.mem_cons_of_mem _ (numW_mem (m + 1) g p h)
structure Wk where
  L : List Lt
  rows : List Em.Row
  many : Nat
  stands : List (List Lt)
def wk (N : Net) (css : List (List Nat)) : Nat → Wk
  | 0 => ⟨List.replicate N.length none, [], 0, []⟩
  | b + 1 =>
    let s := wk N css b
    let B := beatA N b s.L (numW s.many (css.getD b []))
    ⟨B.L, s.rows ++ B.rows, s.many + (css.getD b []).length, s.stands ++ [B.L]⟩
theorem wk_len {N : Net} {css : List (List Nat)} : ∀ b, (wk N css b).L.length = N.length ∧ (wk N css b).rows.length ≤ N.length * b + tot (css.take b) ∧ (wk N css b).many = tot (css.take b)
  | 0 => ⟨List.length_replicate, Nat.zero_le _, rfl⟩
  | b + 1 => by
    obtain ⟨a1, a2, a3⟩ := wk_len (N := N) (css := css) b
    obtain ⟨b1, b2⟩ := beatA_len (b := b) (W := numW (wk N css b).many (css.getD b [])) a1
    have e : tot (css.take (b + 1)) = tot (css.take b) + (css.getD b []).length := by
      by_cases hk : b < css.length
      · rw [List.take_add_one, List.getElem?_eq_getElem hk]
        unfold tot
        rw [List.map_append, List.sum_append, List.getD_eq_getElem?_getD, List.getElem?_eq_getElem hk]
        simp
      · rw [show css.getD b [] = [] by rw [List.getD_eq_getElem?_getD, List.getElem?_eq_none (by omega)]; rfl, List.take_of_length_le (by omega), List.take_of_length_le (by omega)]
        rfl
    refine ⟨b1, ?_, ?_⟩
    · show ((wk N css b).rows ++ _).length ≤ _
      rw [numW_len] at b2
      rw [List.length_append, Nat.mul_succ]
      omega
    · show (wk N css b).many + _ = _
      omega
theorem wk_stands {N : Net} {css : List (List Nat)} : ∀ b, (wk N css b).stands.length = b ∧ ∀ i, i < b → (wk N css b).stands[i]? = some (wk N css (i + 1)).L
  | 0 => ⟨rfl, fun i h => absurd h (Nat.not_lt_zero _)⟩
  | b + 1 => by
    obtain ⟨a1, a2⟩ := wk_stands (N := N) (css := css) b
    refine ⟨by show ((wk N css b).stands ++ [_]).length = _; rw [List.length_append, a1]; rfl, fun i h => ?_⟩
    show ((wk N css b).stands ++ [_])[i]? = _
    by_cases e : i < b
    · rw [List.getElem?_append_left (by omega)]
      exact a2 i e
    · obtain rfl : i = b := by omega
      rw [List.getElem?_append_right (by omega), a1, Nat.sub_self]
      rfl
theorem wk_at {N : Net} {css : List (List Nat)} : ∀ b, ∀ r ∈ (wk N css b).rows, r.at_ < b
  | 0 => fun r h => by cases h
  | b + 1 => fun r h => by
    rcases List.mem_append.mp (show r ∈ (wk N css b).rows ++ _ from h) with z | z
    · exact Nat.lt_succ_of_lt (wk_at b r z)
    · rw [beatA_at _ _ _ _ r z]
      exact Nat.lt_succ_self _
/-- what happens at a beat of it -/
def wkB (N : Net) (css : List (List Nat)) (b : Nat) : List Em.Row := (beatA N b (wk N css b).L (numW (wk N css b).many (css.getD b []))).rows
theorem wk_filter {N : Net} {css : List (List Nat)} {b : Nat} : ∀ n, b < n → (wk N css n).rows.filter (fun r => decide (r.at_ = b)) = wkB N css b
  | 0, h => absurd h (Nat.not_lt_zero _)
  | n + 1, h => by
    show ((wk N css n).rows ++ wkB N css n).filter _ = _
    rw [List.filter_append]
    have hn : ∀ r ∈ wkB N css n, r.at_ = n := beatA_at _ _ _ _
    by_cases e : b = n
    · subst e
      rw [List.filter_eq_nil_iff.mpr (fun r hr => by have := wk_at b r hr; simp; omega), List.filter_eq_self.mpr (fun r hr => by simp [hn r hr])]
      rfl
    · rw [wk_filter n (by omega), List.filter_eq_nil_iff.mpr (fun r hr => by rw [hn r hr]; simp; omega), List.append_nil]
/-! what burns is not over -/
theorem darkK_get {N : Net} {b k i : Nat} {s : Dk} {f t : Nat} (h : (darkK N b k s).L[i]? = some (some (f, t))) : s.L[i]? = some (some (f, t)) ∧ (i = k → (b : Int) < (t : Int) + burnOf N k) := by
  unfold darkK at h
  split at h
  · rename_i hn
    refine ⟨h, fun e => ?_⟩
    subst e
    rw [getD_some h] at hn
    cases hn
  · rename_i f' t' hn
    have key : ∀ L', L' = s.L.set k none → L'[i]? = some (some (f, t)) → s.L[i]? = some (some (f, t)) ∧ (i = k → (b : Int) < (t : Int) + burnOf N k) := fun L' e hL => by
      by_cases hk : i = k
      · subst hk
        rw [e] at hL
        by_cases hl : i < s.L.length
        · rw [List.getElem?_set_self hl] at hL; cases hL
        · rw [List.getElem?_eq_none (by rw [List.length_set]; omega)] at hL; cases hL
      · rw [e, List.getElem?_set_ne (fun z => hk z.symm)] at hL
        exact ⟨hL, fun z => absurd z hk⟩
    split at h
    · rename_i hc
      refine ⟨h, fun e => ?_⟩
      subst e
      rw [getD_some h] at hn
      cases hn
      exact hc
    · split at h
      · exact key _ rfl h
      · exact key _ rfl h
theorem darkN_get {N : Net} {b i : Nat} {s : Dk} {f t : Nat} : ∀ k, (darkN N b k s).L[i]? = some (some (f, t)) → s.L[i]? = some (some (f, t)) ∧ (i < k → (b : Int) < (t : Int) + burnOf N i)
  | 0, h => ⟨h, fun z => absurd z (Nat.not_lt_zero _)⟩
  | k + 1, h => by
    obtain ⟨a1, a2⟩ := darkK_get (show (darkK N b k (darkN N b k s)).L[i]? = _ from h)
    obtain ⟨b1, b2⟩ := darkN_get k a1
    refine ⟨b1, fun hi => ?_⟩
    by_cases e : i = k
    · subst e; exact a2 rfl
    · exact b2 (by omega)
theorem meetN_get {b i : Nat} {css : List (List Nat)} {s : Ms} {f t : Nat} : ∀ k, (meetN b css k s).L[i]? = some (some (f, t)) → s.L[i]? = some (some (f, t)) ∨ t = b
  | 0, h => .inl h
  | k + 1, h => by
    have h2 : ((meetN b css k s).L.set k _)[i]? = _ := h
    by_cases e : i = k
    · subst e
      by_cases hl : i < (meetN b css i s).L.length
      · rw [List.getElem?_set_self hl] at h2
        have h3 := Option.some.inj h2
        obtain ⟨x, hx⟩ : ∃ x, (meetN b css i s).L[i]? = some x := ⟨_, List.getElem?_eq_getElem hl⟩
        rw [getD_some hx] at h3
        cases x with
        | none =>
          generalize srt (css.getD i []) = fs at h3
          cases fs with
          | nil => cases h3
          | cons g r =>
            cases h3
            exact .inr rfl
        | some p =>
          obtain ⟨g, u⟩ := p
          cases h3
          exact meetN_get i hx
      · rw [List.getElem?_eq_none (by rw [List.length_set]; omega)] at h2; cases h2
    · rw [List.getElem?_set_ne (fun z => e z.symm)] at h2
      exact meetN_get k h2
theorem beat_fresh {N : Net} {b : Nat} {L : List Lt} {W : List (Nat × Nat)} (ok : NetOk N) (hl : L.length = N.length) (h : Fresh N b L) : Fresh N (b + 1) (beatA N b L W).L := by
  intro k f t hk
  have hkN : k < N.length := by
    have := (List.getElem?_eq_some_iff.mp hk).1
    rw [(beatA_len hl).1] at this
    exact this
  have hp := List.getElem?_eq_getElem hkN
  have h1 : 1 ≤ burnOf N k := by rw [burnOf_get hp]; exact ok.len _ (List.getElem_mem hkN)
  rcases meetN_get _ hk with z | z
  · obtain ⟨a1, a2⟩ := darkN_get _ (show (darkN N b N.length ⟨L, List.replicate N.length [], []⟩).L[k]? = some (some (f, t)) from z)
    have := h k f t a1
    have := a2 hkN
    omega
  · subst z
    omega
theorem wk_fresh {N : Net} {css : List (List Nat)} (ok : NetOk N) : ∀ b, Fresh N b (wk N css b).L
  | 0 => fun k f t h => by
    rw [show (wk N css 0).L = List.replicate N.length none from rfl] at h
    rw [List.getElem?_replicate] at h
    split at h <;> cases h
  | b + 1 => beat_fresh ok (wk_len b).1 (wk_fresh ok b)
/-- what burnt behind each beat -/
def Stood (H : Hp) (S : List Addr) (N : Net) (css : List (List Nat)) (n : Nat) (ys : List V) : Prop := ys.length = n ∧ ∀ j, j < n → ∃ (q : Addr) (bs : List V), ys[j]? = some (.ref q) ∧ q ∉ S ∧ H q = some (.lst bs) ∧ TuA H bs ((wk N css (j + 1)).L.map (burnD (j : Nat)))
theorem Stood.kp {H H' : Hp} {S S' : List Addr} {N : Net} {css : List (List Nat)} {n : Nat} {ys : List V} (h : Stood H S N css n ys) (k : Kp S' H H') (t : Kt H H') (hs : ∀ x ∈ S', x ∈ S ∨ H x = none) : Stood H' S N css n ys := by
  refine ⟨h.1, fun j hj => ?_⟩
  obtain ⟨q, bs, a1, a2, a3, a4⟩ := h.2 j hj
  refine ⟨q, bs, a1, a2, k.lst (fun z => ?_) a3, a4.kt t⟩
  rcases hs q z with y | y
  · exact a2 y
  · rw [y] at a3; cases a3
end Em

namespace K16
open PySem PySem.Spec PyProof.Rows L2 Qt Em
/-! ### the text by places -/
def topS (i : Nat) : Stmt := PySem.Challenge.pw_emberlane_k16_what_burns.main.body.getD i (.Pass ⟨0, 0, 0, 0⟩)
abbrev s_is_whole : Stmt := topS 7
abbrev s_is_whole_N : List Str := ["thing"]
theorem sc_is_whole : FnScope s_is_whole_N ["thing"] (defScope s_is_whole) := ⟨rfl, rfl, rfl, by decide +kernel, rfl, by decide +kernel, by decide +kernel⟩
abbrev s_is_pair : Stmt := topS 8
abbrev s_is_pair_N : List Str := ["thing"]
theorem sc_is_pair : FnScope s_is_pair_N ["thing"] (defScope s_is_pair) := ⟨rfl, rfl, rfl, by decide +kernel, rfl, by decide +kernel, by decide +kernel⟩
abbrev s_is_number_of_many : Stmt := topS 9
abbrev s_is_number_of_many_N : List Str := ["thing", "many"]
theorem sc_is_number_of_many : FnScope s_is_number_of_many_N ["thing", "many"] (defScope s_is_number_of_many) := ⟨rfl, rfl, rfl, by decide +kernel, rfl, by decide +kernel, by decide +kernel⟩
abbrev s_is_lamp_of_many : Stmt := topS 10
abbrev s_is_lamp_of_many_N : List Str := ["thing", "many", "length", "onward"]
theorem sc_is_lamp_of_many : FnScope s_is_lamp_of_many_N ["thing", "many"] (defScope s_is_lamp_of_many) := ⟨rfl, rfl, rfl, by decide +kernel, rfl, by decide +kernel, by decide +kernel⟩
abbrev s_is_net : Stmt := topS 11
abbrev s_is_net_N : List Str := ["thing", "many"]
theorem sc_is_net : FnScope s_is_net_N ["thing"] (defScope s_is_net) := ⟨rfl, rfl, rfl, by decide +kernel, rfl, by decide +kernel, by decide +kernel⟩
abbrev s_need_net : Stmt := topS 12
abbrev s_need_net_N : List Str := ["net"]
theorem sc_need_net : FnScope s_need_net_N ["net"] (defScope s_need_net) := ⟨rfl, rfl, rfl, by decide +kernel, rfl, by decide +kernel, by decide +kernel⟩
abbrev s_need_lamp : Stmt := topS 13
abbrev s_need_lamp_N : List Str := ["net", "lamp"]
theorem sc_need_lamp : FnScope s_need_lamp_N ["net", "lamp"] (defScope s_need_lamp) := ⟨rfl, rfl, rfl, by decide +kernel, rfl, by decide +kernel, by decide +kernel⟩
abbrev s_Embers___init__ : Stmt := inClass (topS 16) 0
abbrev s_Embers___init___N : List Str := ["self", "net", "_"]
theorem sc_Embers___init__ : FnScope s_Embers___init___N ["self", "net"] (defScope s_Embers___init__) := ⟨rfl, rfl, rfl, by decide +kernel, rfl, by decide +kernel, by decide +kernel⟩
abbrev s_Embers_kindle : Stmt := inClass (topS 16) 1
abbrev s_Embers_kindle_N : List Str := ["self", "lamp", "flame"]
theorem sc_Embers_kindle : FnScope s_Embers_kindle_N ["self", "lamp"] (defScope s_Embers_kindle) := ⟨rfl, rfl, rfl, by decide +kernel, rfl, by decide +kernel, by decide +kernel⟩
abbrev s_Embers_go : Stmt := inClass (topS 16) 2
abbrev s_Embers_go_N : List Str := ["self", "beats", "told", "_"]
theorem sc_Embers_go : FnScope s_Embers_go_N ["self", "beats"] (defScope s_Embers_go) := ⟨rfl, rfl, rfl, by decide +kernel, rfl, by decide +kernel, by decide +kernel⟩
abbrev s_Embers_coming : Stmt := inClass (topS 16) 3
abbrev s_Embers_coming_N : List Str := ["self"]
theorem sc_Embers_coming : FnScope s_Embers_coming_N ["self"] (defScope s_Embers_coming) := ⟨rfl, rfl, rfl, by decide +kernel, rfl, by decide +kernel, by decide +kernel⟩
abbrev s_Embers_burning : Stmt := inClass (topS 16) 4
abbrev s_Embers_burning_N : List Str := ["self", "gone_last", "told", "light", "flame", "lit_at"]
theorem sc_Embers_burning : FnScope s_Embers_burning_N ["self"] (defScope s_Embers_burning) := ⟨rfl, rfl, rfl, by decide +kernel, rfl, by decide +kernel, by decide +kernel⟩
abbrev s_Embers_happened : Stmt := inClass (topS 16) 5
abbrev s_Embers_happened_N : List Str := ["self"]
theorem sc_Embers_happened : FnScope s_Embers_happened_N ["self"] (defScope s_Embers_happened) := ⟨rfl, rfl, rfl, by decide +kernel, rfl, by decide +kernel, by decide +kernel⟩
abbrev s_Embers__go_on : Stmt := inClass (topS 16) 6
abbrev s_Embers__go_on_N : List Str := ["self", "comers", "_", "rows", "flame", "lamp", "flames"]
theorem sc_Embers__go_on : FnScope s_Embers__go_on_N ["self"] (defScope s_Embers__go_on) := ⟨rfl, rfl, rfl, by decide +kernel, rfl, by decide +kernel, by decide +kernel⟩
abbrev s_Embers__darken : Stmt := inClass (topS 16) 7
abbrev s_Embers__darken_N : List Str := ["self", "comers", "ended", "lamp", "length", "onward", "light"]
theorem sc_Embers__darken : FnScope s_Embers__darken_N ["self", "comers"] (defScope s_Embers__darken) := ⟨rfl, rfl, rfl, by decide +kernel, rfl, by decide +kernel, by decide +kernel⟩
abbrev s_Embers__meet : Stmt := inClass (topS 16) 8
abbrev s_Embers__meet_N : List Str := ["self", "lamp", "flames", "rows", "lost", "flame"]
theorem sc_Embers__meet : FnScope s_Embers__meet_N ["self", "lamp", "flames"] (defScope s_Embers__meet) := ⟨rfl, rfl, rfl, by decide +kernel, rfl, by decide +kernel, by decide +kernel⟩
abbrev s_law_jar : Stmt := topS 18
abbrev s_law_jar_N : List Str := ["cell", "k"]
theorem sc_law_jar : FnScope s_law_jar_N ["cell", "k"] (defScope s_law_jar) := ⟨rfl, rfl, rfl, by decide +kernel, rfl, by decide +kernel, by decide +kernel⟩
abbrev s_law_pull : Stmt := topS 19
abbrev s_law_pull_N : List Str := ["jar", "many", "found"]
theorem sc_law_pull : FnScope s_law_pull_N ["jar", "many"] (defScope s_law_pull) := ⟨rfl, rfl, rfl, by decide +kernel, rfl, by decide +kernel, by decide +kernel⟩
abbrev s_law_cells : Stmt := topS 20
abbrev s_law_cells_N : List Str := ["script", "most"]
theorem sc_law_cells : FnScope s_law_cells_N ["script", "most"] (defScope s_law_cells) := ⟨rfl, rfl, rfl, by decide +kernel, rfl, by decide +kernel, by decide +kernel⟩
abbrev s_law_next : Stmt := topS 21
abbrev s_law_next_N : List Str := ["jar", "many", "k", "kind", "some", "there"]
theorem sc_law_next : FnScope s_law_next_N ["jar", "many", "k", "kind"] (defScope s_law_next) := ⟨rfl, rfl, rfl, by decide +kernel, rfl, by decide +kernel, by decide +kernel⟩
abbrev s_law_net : Stmt := topS 22
abbrev s_law_net_N : List Str := ["jar", "wide", "many", "kind", "size", "found", "k"]
theorem sc_law_net : FnScope s_law_net_N ["jar", "wide"] (defScope s_law_net) := ⟨rfl, rfl, rfl, by decide +kernel, rfl, by decide +kernel, by decide +kernel⟩
abbrev s_law_plan : Stmt := topS 23
abbrev s_law_plan_N : List Str := ["jar", "land", "long", "most", "found", "at", "near", "turn"]
theorem sc_law_plan : FnScope s_law_plan_N ["jar", "land", "long", "most"] (defScope s_law_plan) := ⟨rfl, rfl, rfl, by decide +kernel, rfl, by decide +kernel, by decide +kernel⟩
abbrev s_law_came : Stmt := topS 24
abbrev s_law_came_N : List Str := ["burns", "come", "at", "rows", "k", "flame"]
theorem sc_law_came : FnScope s_law_came_N ["burns", "come", "at"] (defScope s_law_came) := ⟨rfl, rfl, rfl, by decide +kernel, rfl, by decide +kernel, by decide +kernel⟩
abbrev s_law_walked : Stmt := topS 25
abbrev s_law_walked_N : List Str := ["land", "plan", "burns", "rows", "stands", "many", "at", "come", "k"]
theorem sc_law_walked : FnScope s_law_walked_N ["land", "plan"] (defScope s_law_walked) := ⟨rfl, rfl, rfl, by decide +kernel, rfl, by decide +kernel, by decide +kernel⟩
abbrev s_law_exact : Stmt := topS 26
abbrev s_law_exact_N : List Str := ["found", "due", "one", "other"]
theorem sc_law_exact : FnScope s_law_exact_N ["found", "due"] (defScope s_law_exact) := ⟨rfl, rfl, rfl, by decide +kernel, rfl, by decide +kernel, by decide +kernel⟩
abbrev s_law_right : Stmt := topS 27
abbrev s_law_right_N : List Str := ["jar", "land", "plan", "rows", "stands", "ember", "due", "at", "k"]
theorem sc_law_right : FnScope s_law_right_N ["jar"] (defScope s_law_right) := ⟨rfl, rfl, rfl, by decide +kernel, rfl, by decide +kernel, by decide +kernel⟩
abbrev s_law : Stmt := topS 28
abbrev s_law_N : List Str := ["script", "cells", "k"]
theorem sc_law : FnScope s_law_N ["script"] (defScope s_law) := ⟨rfl, rfl, rfl, by decide +kernel, rfl, by decide +kernel, by decide +kernel⟩

structure Ad where
  a_is_whole : Addr
  f_is_whole : FuncData
  a_is_pair : Addr
  f_is_pair : FuncData
  a_is_number_of_many : Addr
  f_is_number_of_many : FuncData
  a_is_lamp_of_many : Addr
  f_is_lamp_of_many : FuncData
  a_is_net : Addr
  f_is_net : FuncData
  a_need_net : Addr
  f_need_net : FuncData
  a_need_lamp : Addr
  f_need_lamp : FuncData
  a_Embers___init__ : Addr
  f_Embers___init__ : FuncData
  a_Embers_kindle : Addr
  f_Embers_kindle : FuncData
  a_Embers_go : Addr
  f_Embers_go : FuncData
  a_Embers_coming : Addr
  f_Embers_coming : FuncData
  a_Embers_burning : Addr
  f_Embers_burning : FuncData
  a_Embers_happened : Addr
  f_Embers_happened : FuncData
  a_Embers__go_on : Addr
  f_Embers__go_on : FuncData
  a_Embers__darken : Addr
  f_Embers__darken : FuncData
  a_Embers__meet : Addr
  f_Embers__meet : FuncData
  a_law_jar : Addr
  f_law_jar : FuncData
  a_law_pull : Addr
  f_law_pull : FuncData
  a_law_cells : Addr
  f_law_cells : FuncData
  a_law_next : Addr
  f_law_next : FuncData
  a_law_net : Addr
  f_law_net : FuncData
  a_law_plan : Addr
  f_law_plan : FuncData
  a_law_came : Addr
  f_law_came : FuncData
  a_law_walked : Addr
  f_law_walked : FuncData
  a_law_exact : Addr
  f_law_exact : FuncData
  a_law_right : Addr
  f_law_right : FuncData
  a_law : Addr
  f_law : FuncData
  c_EmberError : Addr
  c_NoNet : Addr
  c_NoLamp : Addr
  c_NoBeat : Addr
  c_Embers : Addr
  cd_is_net : Addr
  tb_is_net : Addr
structure Tx (K : PySem.W.Frag) (mg : Str → Option Value) (a : Ad) : Prop where
  is_whole : Df K mg "is_whole" s_is_whole ["thing"] a.a_is_whole a.f_is_whole
  is_pair : Df K mg "is_pair" s_is_pair ["thing"] a.a_is_pair a.f_is_pair
  is_number_of_many : Df K mg "is_number_of_many" s_is_number_of_many ["thing", "many"] a.a_is_number_of_many a.f_is_number_of_many
  is_lamp_of_many : Df K mg "is_lamp_of_many" s_is_lamp_of_many ["thing", "many"] a.a_is_lamp_of_many a.f_is_lamp_of_many
  is_net : Df K mg "is_net" s_is_net ["thing"] a.a_is_net a.f_is_net
  need_net : Df K mg "need_net" s_need_net ["net"] a.a_need_net a.f_need_net
  need_lamp : Df K mg "need_lamp" s_need_lamp ["net", "lamp"] a.a_need_lamp a.f_need_lamp
  law_jar : Df K mg "_law_jar" s_law_jar ["cell", "k"] a.a_law_jar a.f_law_jar
  law_pull : Df K mg "_law_pull" s_law_pull ["jar", "many"] a.a_law_pull a.f_law_pull
  law_cells : Df K mg "_law_cells" s_law_cells ["script", "most"] a.a_law_cells a.f_law_cells
  law_next : Df K mg "_law_next" s_law_next ["jar", "many", "k", "kind"] a.a_law_next a.f_law_next
  law_net : Df K mg "_law_net" s_law_net ["jar", "wide"] a.a_law_net a.f_law_net
  law_plan : Df K mg "_law_plan" s_law_plan ["jar", "land", "long", "most"] a.a_law_plan a.f_law_plan
  law_came : Df K mg "_law_came" s_law_came ["burns", "come", "at"] a.a_law_came a.f_law_came
  law_walked : Df K mg "_law_walked" s_law_walked ["land", "plan"] a.a_law_walked a.f_law_walked
  law_exact : Df K mg "_law_exact" s_law_exact ["found", "due"] a.a_law_exact a.f_law_exact
  law_right : Df K mg "_law_right" s_law_right ["jar"] a.a_law_right a.f_law_right
  law : Df K mg "law" s_law ["script"] a.a_law a.f_law
  n_all : mg "all" = none
  n_bool : mg "bool" = none
  n_enumerate : mg "enumerate" = none
  n_int : mg "int" = none
  n_isinstance : mg "isinstance" = none
  n_len : mg "len" = none
  n_list : mg "list" = none
  n_max : mg "max" = none
  n_min : mg "min" = none
  n_range : mg "range" = none
  n_sorted : mg "sorted" = none
  n_tuple : mg "tuple" = none
  n_zip : mg "zip" = none
  c_MOST_LAMPS : ∃ t, mg "MOST_LAMPS" = some (.int 12 t)
  c_MOST_BEATS : ∃ t, mg "MOST_BEATS" = some (.int 400 t)
  code_is_net : CodeIs K a.a_is_net a.cd_is_net
  cl_Embers : Cls K a.c_Embers
  mk_Embers : Mk K a.c_Embers a.a_Embers___init__
  na_Embers__net : NoAttr K a.c_Embers "_net"
  na_Embers__beat : NoAttr K a.c_Embers "_beat"
  na_Embers__flames : NoAttr K a.c_Embers "_flames"
  na_Embers__waiting : NoAttr K a.c_Embers "_waiting"
  na_Embers__lights : NoAttr K a.c_Embers "_lights"
  na_Embers__rows : NoAttr K a.c_Embers "_rows"
  g_EmberError : mg "EmberError" = some (.ref a.c_EmberError)
  g_NoNet : mg "NoNet" = some (.ref a.c_NoNet)
  g_NoLamp : mg "NoLamp" = some (.ref a.c_NoLamp)
  g_NoBeat : mg "NoBeat" = some (.ref a.c_NoBeat)
  g_Embers : mg "Embers" = some (.ref a.c_Embers)
  F_Embers___init__ : Fun K "__init__" "Embers.__init__" s_Embers___init__ a.a_Embers___init__ a.f_Embers___init__
  b_Embers___init__ : Binds K a.f_Embers___init__ ["self", "net"] []
  m_Embers___init__ : Meth K a.c_Embers "__init__" a.a_Embers___init__
  F_Embers_kindle : Fun K "kindle" "Embers.kindle" s_Embers_kindle a.a_Embers_kindle a.f_Embers_kindle
  b_Embers_kindle : Binds K a.f_Embers_kindle ["self", "lamp"] []
  m_Embers_kindle : Meth K a.c_Embers "kindle" a.a_Embers_kindle
  F_Embers_go : FunD K "go" "Embers.go" (defArgs s_Embers_go) (defBody s_Embers_go) (defScope s_Embers_go) [] [("beats", V.int 1)] a.a_Embers_go a.f_Embers_go
  m_Embers_go : Meth K a.c_Embers "go" a.a_Embers_go
  F_Embers_coming : Fun K "coming" "Embers.coming" s_Embers_coming a.a_Embers_coming a.f_Embers_coming
  b_Embers_coming : Binds K a.f_Embers_coming ["self"] []
  m_Embers_coming : Meth K a.c_Embers "coming" a.a_Embers_coming
  F_Embers_burning : Fun K "burning" "Embers.burning" s_Embers_burning a.a_Embers_burning a.f_Embers_burning
  b_Embers_burning : Binds K a.f_Embers_burning ["self"] []
  m_Embers_burning : Meth K a.c_Embers "burning" a.a_Embers_burning
  F_Embers_happened : Fun K "happened" "Embers.happened" s_Embers_happened a.a_Embers_happened a.f_Embers_happened
  b_Embers_happened : Binds K a.f_Embers_happened ["self"] []
  m_Embers_happened : Meth K a.c_Embers "happened" a.a_Embers_happened
  F_Embers__go_on : Fun K "_go_on" "Embers._go_on" s_Embers__go_on a.a_Embers__go_on a.f_Embers__go_on
  b_Embers__go_on : Binds K a.f_Embers__go_on ["self"] []
  m_Embers__go_on : Meth K a.c_Embers "_go_on" a.a_Embers__go_on
  F_Embers__darken : Fun K "_darken" "Embers._darken" s_Embers__darken a.a_Embers__darken a.f_Embers__darken
  b_Embers__darken : Binds K a.f_Embers__darken ["self", "comers"] []
  m_Embers__darken : Meth K a.c_Embers "_darken" a.a_Embers__darken
  F_Embers__meet : Fun K "_meet" "Embers._meet" s_Embers__meet a.a_Embers__meet a.f_Embers__meet
  b_Embers__meet : Binds K a.f_Embers__meet ["self", "lamp", "flames"] []
  m_Embers__meet : Meth K a.c_Embers "_meet" a.a_Embers__meet
def lv_is_whole : Nat := 1
def lv_is_pair : Nat := 1
def lv_is_number_of_many : Nat := 2
def lv_is_lamp_of_many : Nat := 3
def lv_is_net : Nat := 6
def lv_need_net : Nat := 7
def lv_need_lamp : Nat := 3
def lv_law_jar : Nat := 1
def lv_law_pull : Nat := 1
def lv_law_cells : Nat := 1
def lv_law_next : Nat := 2
def lv_law_net : Nat := 3
def lv_law_plan : Nat := 2
def lv_law_came : Nat := 1
def lv_law_walked : Nat := 2
def lv_law_exact : Nat := 8
def lv_law_right : Nat := 10
def lv_law : Nat := 11
def lv_Embers___init__ : Nat := 8
def lv_Embers_kindle : Nat := 4
def lv_Embers_go : Nat := 3
def lv_Embers_coming : Nat := 1
def lv_Embers_burning : Nat := 1
def lv_Embers_happened : Nat := 1
def lv_Embers__go_on : Nat := 2
def lv_Embers__darken : Nat := 1
def lv_Embers__meet : Nat := 1
/-! ### is_whole, is_pair, is_number_of_many, is_lamp_of_many: quiet -/
section
variable {c : Qc} {a : Ad} {S : List Addr} {v u : V} {d e : PyData}
theorem qf_is_whole (O : c.Ok) (T : Tx c.K c.mg a) (h : Dx S c.H v d) : QF c 1 a.a_is_whole a.f_is_whole ["thing"] [v] (.bl (isW d)) := by
  refine q_fun O T.is_whole.F sc_is_whole (by decide +kernel) rfl fun L cdv => ?_
  have e1 : isW d = (kindB d "int" && !kindB d "bool") := by cases d <;> rfl
  rw [e1]
  exact qb_ret (q_and2 (qe_isi (C := "int") O h (q_name rfl) rfl T.n_isinstance rfl T.n_int (by decide +kernel) (by decide)) fun _ => q_not (qe_isi (C := "bool") O h (q_name rfl) rfl T.n_isinstance rfl T.n_bool (by decide +kernel) (by decide)))
def pairB : PyData → Bool
  | .tuple ds => (ds.length : Int) == 2
  | _ => false
theorem qf_is_pair (O : c.Ok) (T : Tx c.K c.mg a) (h : Dx S c.H v d) : QF c 1 a.a_is_pair a.f_is_pair ["thing"] [v] (.bl (pairB d)) := by
  refine q_fun O T.is_pair.F sc_is_pair (by decide +kernel) rfl fun L cdv => ?_
  have h1 : ∀ {k p1 p2 p3 pos}, QE c k (envOfC "is_pair" (defScope s_is_pair) L a.a_is_pair cdv) [("thing", v)] (.Call (.Name "isinstance" p1) [.Name "thing" p2, .Name (Str.ofString "tuple") p3] [] pos) (.bl (kindB d "tuple")) :=
    qe_isi (C := "tuple") O h (q_name rfl) rfl T.n_isinstance rfl T.n_tuple (by decide +kernel) (by decide)
  have e1 : pairB d = (kindB d "tuple" && pairB d) := by cases d <;> rfl
  rw [e1]
  refine qb_ret (q_and2 h1 fun z => ?_)
  cases h with
  | tup n h r =>
    have := r.len
    show QE _ _ _ _ _ (.bl ((_ : Int) == 2))
    rw [← this]
    exact q_cmp qo_eq (q_callB O (qc_lenT (tupQ_of O h)) rfl T.n_len (by decide +kernel) (qa_cons (q_name rfl) qa_nil)) q_int rfl
  | non => cases z
  | bl b => cases z
  | int i => cases z
  | str y => cases z
  | lst n h r => cases z
  | dic n h => cases z
theorem qf_is_number_of_many {m : Nat} (O : c.Ok) (T : Tx c.K c.mg a) (h : Dx S c.H v d) : QF c 2 a.a_is_number_of_many a.f_is_number_of_many ["thing", "many"] [v, .int m] (.bl (numB m d)) := by
  refine q_fun O T.is_number_of_many.F sc_is_number_of_many (by decide +kernel) rfl fun L cdv => ?_
  have e1 : numB m d = (isW d && numB m d) := by cases d <;> rfl
  rw [e1]
  refine qb_ret (q_and2 (q_call O (qf_is_whole O T h) T.is_whole.b rfl rfl T.is_whole.g T.is_whole.F.kp (qa_cons (q_name rfl) qa_nil)) fun z => ?_)
  cases h with
  | int i => exact q_chain qo_le qo_lt q_int (q_name rfl) (q_name rfl)
  | non => cases z
  | bl b => cases z
  | tup n h r => cases z
  | str y => cases z
  | lst n h r => cases z
  | dic n h => cases z
theorem lampB_pair {m : Nat} (h : pairB d = false) : lampB m d = false := by
  cases d with
  | tuple ds =>
    match ds, h with
    | [], _ => rfl
    | [_], _ => rfl
    | [_, _], h => cases h
    | _ :: _ :: _ :: _, _ => rfl
  | _ => rfl
theorem qf_is_lamp_of_many {m : Nat} (O : c.Ok) (T : Tx c.K c.mg a) (h : Dx S c.H v d) : QF c 3 a.a_is_lamp_of_many a.f_is_lamp_of_many ["thing", "many"] [v, .int m] (.bl (lampB m d)) := by
  refine q_fun O T.is_lamp_of_many.F sc_is_lamp_of_many (by decide +kernel) rfl fun L cdv => ?_
  have hp : ∀ {N : Nm} {p1 p2 pos}, N.lookup ("thing" : Str) = some v → QE c 2 (envOfC "is_lamp_of_many" (defScope s_is_lamp_of_many) L a.a_is_lamp_of_many cdv) N (.Call (.Name "is_pair" p1) [.Name "thing" p2] [] pos) (.bl (pairB d)) := fun hN =>
    q_call O (fun A R args us s r => qf_is_pair O T h A R args us s (r.mono (by decide))) T.is_pair.b rfl rfl T.is_pair.g T.is_pair.F.kp (qa_cons (q_name hN) qa_nil)
  cases z : pairB d with
  | false =>
    rw [lampB_pair z]
    refine qb_ifT (qt_not (t := false) (qt_val ?_)) (qb_ret q_bool)
    rw [← z]
    exact hp rfl
  | true =>
    refine qb_ifF (qt_not (t := true) (qt_val ?_)) ?_
    · rw [← z]
      exact hp rfl
    cases h with
    | @tup ad xs ds n h r =>
      have hl : (ds.length : Int) = 2 := by simpa [pairB] using z
      match ds, r with
      | [d1, d2], .cons (v := v1) r1 (.cons (v := v2) r2 .nil) =>
        refine qb_two (q_name rfl) (tupQ_of O h) rfl rfl (fun y hy => ?_) ?_
        · by_cases e1 : y = "thing"
          · rw [e1]; rfl
          · by_cases e2 : y = "many"
            · rw [e2]; rfl
            · have q1 : (y == ("thing" : Str)) = false := by simpa using e1
              have q2 : (y == ("many" : Str)) = false := by simpa using e2
              simp [List.zip, List.zipWith, List.lookup, q1, q2] at hy
        · have hw : ∀ {N : Nm} {p1 p2 pos}, N.lookup ("length" : Str) = some v1 → QE c 2 (envOfC "is_lamp_of_many" (defScope s_is_lamp_of_many) L a.a_is_lamp_of_many cdv) N (.Call (.Name "is_whole" p1) [.Name "length" p2] [] pos) (.bl (isW d1)) := fun hN =>
            q_call O (fun A R args us s r => qf_is_whole O T r1 A R args us s (r.mono (by decide))) T.is_whole.b rfl rfl T.is_whole.g T.is_whole.F.kp (qa_cons (q_name hN) qa_nil)
          cases y1 : isW d1 with
          | false =>
            have e3 : lampB m (.tuple [d1, d2]) = false := by
              have : lenB d1 = false := by cases d1 <;> first | rfl | cases y1
              show (lenB d1 && _) = false
              rw [this]; rfl
            rw [e3]
            refine qb_ifT (qt_orT (qt_not (t := false) (qt_val ?_))) (qb_ret q_bool)
            rw [← y1]
            exact hw rfl
          | true =>
            cases r1 with
            | int i =>
              have h0 : ∀ {p1 p2 p3 p4}, QT c 2 (envOfC "is_lamp_of_many" (defScope s_is_lamp_of_many) L a.a_is_lamp_of_many cdv) (("onward", v2) :: ("length", .int i) :: [("thing", .ref ad), ("many", .int m)])
                  (.UnaryOp .Not (.Call (.Name "is_whole" p1) [.Name "length" p2] [] p3) p4) false := by
                refine qt_not (t := true) (qt_val ?_)
                exact hw rfl
              have e4 : lampB m (.tuple [.int i, d2]) = (!decide (i < 1) && nxB m d2) := rfl
              cases y2 : decide (i < 1) with
              | true =>
                rw [e4, y2]
                exact qb_ifT (qt_or2 h0 (y2 ▸ qt_cmp qo_lt (q_name rfl) q_int rfl)) (qb_ret q_bool)
              | false =>
                rw [e4, y2]
                refine qb_ifF (qt_or2 h0 (y2 ▸ qt_cmp qo_lt (q_name rfl) q_int rfl)) ?_
                have e5 : (!false && nxB m d2) = (decide (v2 = .non) || numB m d2) := by
                  cases r2 <;> first | rfl | (simp [nxB])
                rw [e5]
                refine qb_ret (q_or2 (q_isN (q_name rfl)) fun _ => ?_)
                exact q_call O (fun A R args us s r => qf_is_number_of_many O T r2 A R args us s (r.mono (by decide))) T.is_number_of_many.b rfl rfl T.is_number_of_many.g T.is_number_of_many.F.kp (qa_cons (q_name rfl) (qa_cons (q_name rfl) qa_nil))
            | non => cases y1
            | bl b => cases y1
            | tup n h r => cases y1
            | str y => cases y1
            | lst n h r => cases y1
            | dic n h => cases y1
    | non => cases z
    | bl b => cases z
    | int i => cases z
    | str y => cases z
    | lst n h r => cases z
    | dic n h => cases z
end
/-! ### is_net -/
section
variable {P : Program} {w : World} {K : PySem.W.Frag} {mg : Str → Option Value} {base : Heap} {a : Ad}
/-- is_net(thing), thing any data -/
def spIsNet (TB : Addr) : Sp := fun vs H Q _ => ∃ (S : List Addr) (v : V) (d : PyData), vs = [v] ∧ Dx S H v d ∧ GxR.TabG H TB ∧ ∀ H', Kp [] H H' → Q (.bl (netB d)) H'
theorem ok_is_net (T : Tx K mg a) (TB : GxR.TabB base mg a.cd_is_net a.tb_is_net) : FnOk P w K mg base CX0 6 a.a_is_net a.f_is_net ["thing"] (spIsNet a.tb_is_net) := by
  refine okC T.is_net.F T.code_is_net sc_is_net (fun vs H Q E h => ?_) (fun A outer s H vs Q E hr h => ?_)
  · obtain ⟨S, v, d, rfl, _⟩ := h
    rfl
  obtain ⟨S, v, d, rfl, hd, ht, q⟩ := h
  refine ⟨_, (pss_cons (ps_if (pt_not (pt_val (pe_callB call_isi (by rfl) T.n_isinstance (by decide +kernel) (pa_cons (pv 0) (pa_cons (pe_bltn (v := .ty "tuple") (by rfl) T.n_tuple (by decide +kernel) rfl) pa_nil))))) (pss_one (ps_ret pe_bl)) pss_nil)
      (pss_cons (ps_set (i := 1) sc_is_net.nd rfl (by first | exact .inl rfl | exact .inr rfl) (pe_callB call_len_seq (by rfl) T.n_len (by decide +kernel) (pa_cons (pv 0) pa_nil)))
      (pss_cons (ps_if (PW.pt (pw_or (pt_cmpR op_lt (pv 1) pe_int (nomark _)) (pw_or1 (pt_cmpR op_gt (pv 1) (pe_glob (v := .int 12) rfl T.c_MOST_LAMPS.choose_spec ⟨_, rfl⟩) (nomark _))))) (pss_one (ps_ret pe_bl)) pss_nil)
      (pss_one (ps_ret (pe_allQ (k := 1) (hr.mono (by decide)) (by rfl) T.n_all TB rfl ⟨rfl, rfl, by decide +kernel, by decide +kernel, by decide +kernel, free_by (by decide +kernel)⟩ (pv 0) (fun _ => rfl))))))), ?_⟩
  have hk : PySem.W.kitOne K (.type (kname d)) (.type "tuple") = some (kindB d "tuple") := kit_data (by decide)
  refine ⟨v, rfl, v, .ty "tuple", _, _, _, rfl, .ty _, tyx_of hd, hk, _, rfl, ?_⟩
  cases z : kindB d "tuple" with
  | false =>
    refine iteT ?_
    have e : netB d = false := by cases d <;> first | rfl | cases z
    have := q H Kp.rfl'
    rw [e] at this
    exact this
  | true =>
    refine iteF ?_
    cases hd with
    | @tup ad xs ds n h r =>
      have hl : (xs.length : Int) = (ds.length : Int) := by rw [r.len]
      -- many = len(thing)
      refine ⟨.ref ad, rfl, ad, xs, rfl, .inr (SqT.of h), ?_⟩
      rw [hl]
      -- if many < 1 or many > MOST_LAMPS
      refine ⟨.int ds.length, rfl, _, _, rfl, rfl, _, rfl, ?_⟩
      have e0 : netB (.tuple ds) = (!decide ((ds.length : Int) < 1) && !decide ((12 : Int) < (ds.length : Int)) && (ds.map (lampB ds.length)).all id) := rfl
      cases z1 : decide ((ds.length : Int) < 1) with
      | true =>
        refine iteT (iteT ?_)
        have := q H Kp.rfl'
        rw [e0, z1] at this
        exact this
      | false =>
        refine iteF ⟨.int ds.length, rfl, _, _, rfl, rfl, _, rfl, ?_⟩
        cases z2 : decide ((12 : Int) < (ds.length : Int)) with
        | true =>
          refine iteT ?_
          have := q H Kp.rfl'
          rw [e0, z1, z2] at this
          exact this
        | false =>
          refine iteF ?_
          -- return all(..)
          refine ⟨.ref ad, rfl, ad, xs, ds.map (lampB ds.length), [("many", .int ds.length)], rfl, .inl (SqT.of h), ht, fun y vy hy => ?_, ⟨by rw [List.length_map, r.len], fun hd env OK hsc j xv b hx hb => ?_⟩, fun H2 hT => ?_⟩
          · by_cases ey : y = "many"
            · subst ey
              have e2 : V.int ds.length = vy := by simpa [List.lookup] using hy
              subst e2
              exact ⟨by decide, by decide +kernel, by decide +kernel, 1, rfl, rfl, (by decide +kernel : (defScope s_is_net).names.lookup _ = some .cell)⟩
            · have ey' : (y == ("many" : Str)) = false := by simpa using ey
              simp [List.lookup, ey'] at hy
          · obtain ⟨dj, hdj, hxv⟩ := r.get hx
            rw [List.getElem?_map, hdj] at hb
            cases hb
            have OT : Tx (Qc.mk P w K mg (wipe H a.tb_is_net) hd).K (Qc.mk P w K mg (wipe H a.tb_is_net) hd).mg a := T
            have hw : Dx S (wipe H a.tb_is_net) xv dj := hxv.wiped ht
            refine q_call OK (qf_is_lamp_of_many OK OT hw) T.is_lamp_of_many.b rfl ?_ T.is_lamp_of_many.g T.is_lamp_of_many.F.kp (qa_cons (q_name rfl) (qa_cons (q_name rfl) qa_nil))
            show env.scope.names.lookup _ = _
            rw [hsc]
            decide +kernel
          · have := q H2 (Kp.tabbed ht hT)
            rw [e0, z1, z2] at this
            exact this
    | non => cases z
    | bl b => cases z
    | int i => cases z
    | str y => cases z
    | lst n h r => cases z
    | dic n h => cases z
end

/-! ### need_net, need_lamp of what is right -/
section
variable {P : Program} {w : World} {K : PySem.W.Frag} {mg : Str → Option Value} {base : Heap} {a : Ad}
def spNeedNet (TB : Addr) : Sp := fun vs H Q _ => ∃ (S : List Addr) (v : V) (N : Net), vs = [v] ∧ Dx S H v (netD N) ∧ NetOk N ∧ GxR.TabG H TB ∧ ∀ H', Kp [] H H' → Q .non H'
theorem ok_need_net (T : Tx K mg a) (TB : GxR.TabB base mg a.cd_is_net a.tb_is_net) : FnOk P w K mg base CX0 7 a.a_need_net a.f_need_net ["net"] (spNeedNet a.tb_is_net) := by
  have G_is_net := ok_is_net (P := P) (w := w) (base := base) T TB
  refine T.need_net.F.ok sc_need_net (fun vs H Q E h => ?_) (fun cdv A outer s H vs Q E hr h => ?_)
  · obtain ⟨S, v, N, rfl, _⟩ := h
    rfl
  obtain ⟨S, v, N, rfl, hd, ok, ht, q⟩ := h
  refine ⟨_, (pss_one (ps_if (pt_not (pt_val (pe_call G_is_net (hr.mono (by decide)) (by rfl) T.is_net.g T.is_net.F.kp T.is_net.b .nil pass0 (pa_cons (pv 0) pa_nil)))) (pss_one ps_never) pss_nil)), ?_⟩
  refine ⟨v, rfl, S, v, netD N, rfl, hd, ht, fun H' k => ⟨true, by rw [netB_of ok], ?_⟩⟩
  exact iteF (q H' k)
def spNeedLamp : Sp := fun vs H Q _ => ∃ (S : List Addr) (v : V) (N : Net) (x : Nat), vs = [v, .int x] ∧ Dx S H v (netD N) ∧ x < N.length ∧ Q .non H
theorem ok_need_lamp (T : Tx K mg a) : FnOk P w K mg base CX0 3 a.a_need_lamp a.f_need_lamp ["net", "lamp"] spNeedLamp := by
  have G_is_number_of_many : FnOk P w K mg base CX0 2 a.a_is_number_of_many a.f_is_number_of_many ["thing", "many"] (fun vs H Q _ => ∃ (x m : Nat), vs = [.int x, .int m] ∧ x < m ∧ Q (.bl true) H) := by
    refine fn_ofQ (fun vs H Q E h => ?_) fun vs H Q E h => ?_
    · obtain ⟨x, m, rfl, _⟩ := h
      rfl
    · obtain ⟨x, m, rfl, hx, q⟩ := h
      refine ⟨.bl true, q, fun hd OK => ?_⟩
      have OT : Tx (Qc.mk P w K mg H hd).K (Qc.mk P w K mg H hd).mg a := T
      have := qf_is_number_of_many (S := []) (m := m) OK OT (.int (x : Int))
      have e : numB m (.int (x : Int)) = true := by
        show (decide ((0 : Int) ≤ (x : Int)) && decide ((x : Int) < (m : Int))) = true
        rw [decide_eq_true (by omega), decide_eq_true (by omega)]
        rfl
      rw [e] at this
      exact fun A R args us s r => this A R args us s (r.mono (by decide))
  refine T.need_lamp.F.ok sc_need_lamp (fun vs H Q E h => ?_) (fun cdv A outer s H vs Q E hr h => ?_)
  · obtain ⟨S, v, N, x, rfl, _⟩ := h
    rfl
  obtain ⟨S, v, N, x, rfl, hd, hx, q⟩ := h
  refine ⟨_, (pss_one (ps_if (pt_not (pt_val (pe_call G_is_number_of_many (hr.mono (by decide)) (by rfl) T.is_number_of_many.g T.is_number_of_many.F.kp T.is_number_of_many.b .nil pass0 (pa_cons (pv 1) (pa_cons (pe_callB call_len_seq (by rfl) T.n_len (by decide +kernel) (pa_cons (pv 0) pa_nil)) pa_nil))))) (pss_one ps_never) pss_nil)), ?_⟩
  cases hd with
  | @tup ad xs ds n h r =>
    have e := r.len
    rw [List.length_map] at e
    refine ⟨.int x, rfl, .ref ad, rfl, ad, xs, rfl, .inr (SqT.of h), x, N.length, by rw [e]; rfl, hx, true, rfl, ?_⟩
    exact iteF q
end

/-! ### the law's draws -/
section
variable {P : Program} {w : World} {K : PySem.W.Frag} {mg : Str → Option Value} {base : Heap} {a : Ad}
/-- a jar: three numbers, at most n draws were made -/
def Jar (H : Hp) (p : Addr) (n : Nat) : Prop := ∃ x y z : Int, H p = some (.lst [.int x, .int y, .int z]) ∧ 0 ≤ x ∧ 0 ≤ y ∧ y < 2 ^ 400 ∧ 0 ≤ z ∧ z ≤ n
theorem Jar.mono {H : Hp} {p : Addr} {n m : Nat} (h : Jar H p n) (l : n ≤ m) : Jar H p m := by
  obtain ⟨x, y, z, e, h1, h2, h3, h4, h5⟩ := h
  exact ⟨x, y, z, e, h1, h2, h3, h4, by omega⟩
theorem Jar.kp {S : List Addr} {H H1 : Hp} {p : Addr} {n : Nat} (h : Jar H p n) (k : Kp S H H1) (hp : p ∉ S) : Jar H1 p n := by
  obtain ⟨x, y, z, e, r⟩ := h
  exact ⟨x, y, z, k.lst hp e, r⟩
theorem Jar.new {H : Hp} {p q : Addr} {o : HO} {n : Nat} (h : Jar H p n) (nq : H q = none) : Jar (upd H q o) p n := h.kp (Kp.new (S := []) nq) (by simp)
theorem Jar.tr {H : Hp} {p : Addr} {n : Nat} (h : Jar H p n) : H p ≠ none := by
  obtain ⟨x, y, z, e, _⟩ := h
  rw [e]
  exact fun q => by cases q
theorem Jar.nt {H : Hp} {p : Addr} {n : Nat} (h : Jar H p n) : ∀ s ∈ [p], ∀ xs, H s ≠ some (.tup xs) := fun s hs xs => by
  obtain rfl : s = p := by simpa using hs
  obtain ⟨x, y, z, e, _⟩ := h
  rw [e]
  exact fun q => by cases q
theorem Jar.ni {H : Hp} {p q : Addr} {n : Nat} (h : Jar H p n) (nq : H q = none) : q ∉ [p] := by
  have : p ≠ q := fun e => h.tr (e ▸ nq)
  simpa using this.symm
def spJar : Sp := fun vs H Q _ => ∃ (c : Int) (k : Nat), vs = [.int c, .int k] ∧ k < 100 ∧ ∀ p, H p = none → ∀ H', Kp [] H H' → Jar H' p 0 → Q (.ref p) H'
theorem ok_law_jar (T : Tx K mg a) : FnOk P w K mg base CX0 1 a.a_law_jar a.f_law_jar ["cell", "k"] spJar := by
  refine T.law_jar.F.ok sc_law_jar (fun vs H Q E h => ?_) (fun cdv A outer s H vs Q E hr h => ?_)
  · obtain ⟨c, k, rfl, _⟩ := h
    rfl
  obtain ⟨c, k, rfl, hk, q⟩ := h
  refine ⟨_, (pss_one (ps_ret (pe_lst (pa_cons (pe_callB (call_max2 rfl) (by rfl) T.n_max (by decide +kernel) (pa_cons pe_int (pa_cons (pe_op op_sub (pv 0) (pe_op op_powW pe_int pe_int)) pa_nil))) (pa_cons (pe_op op_add (pe_op op_add (pe_op op_powW (pe_op op_mod (pv 0) (pe_op op_add (pe_op op_powW pe_int pe_int) pe_int)) pe_int) (pe_op op_mulW pe_int (pv 1))) pe_int) (pa_cons pe_int pa_nil)))))), ?_⟩
  have l1 := Int.emod_nonneg c (show ((10 : Int) ^ (38 : Int).toNat + 133) ≠ 0 by decide)
  have l2 := Int.emod_lt_of_pos c (show 0 < ((10 : Int) ^ (38 : Int).toNat + 133) by decide)
  have l3 : ((10 : Int) ^ (38 : Int).toNat + 133) < 2 ^ 127 := by decide
  refine ⟨.int c, rfl, _, _, rfl, rfl, ⟨by decide, by decide⟩, _, _, rfl, rfl, _, _, rfl, ?_⟩
  refine ⟨.int c, rfl, _, _, rfl, rfl, ⟨by decide, by decide⟩, _, _, rfl, rfl, _, _, rfl, rfl, (by show (0 : Int) < _; decide), ?_⟩
  obtain ⟨M, eM⟩ : ∃ M, M = (10 : Int) ^ (38 : Int).toNat + 133 := ⟨_, rfl⟩
  have l4 : (c % ((10 : Int) ^ (38 : Int).toNat + 133)).natAbs < 2 ^ 127 := by
    rw [← eM] at l1 l2 l3 ⊢
    obtain ⟨r, er⟩ : ∃ r, r = c % M := ⟨_, rfl⟩
    rw [← er] at l1 l2 ⊢
    omega
  have e3 : (c % ((10 : Int) ^ (38 : Int).toNat + 133)) ^ (3 : Int).toNat < 2 ^ 381 := by
    rw [← eM] at l1 l2 l3 ⊢
    obtain ⟨r, er⟩ : ∃ r, r = c % M := ⟨_, rfl⟩
    rw [← er] at l1 l2 ⊢
    have q1 : r < 2 ^ 127 := by omega
    obtain ⟨n, rfl⟩ := Int.eq_ofNat_of_zero_le l1
    have h1 : n ^ 3 < (2 ^ 127) ^ 3 := Nat.pow_lt_pow_left (by omega) (by decide)
    have h2 : (2 ^ 127) ^ 3 = 2 ^ 381 := by decide
    rw [h2] at h1
    show (n : Int) ^ 3 < _
    have h3 : ((n ^ 3 : Nat) : Int) < ((2 ^ 381 : Nat) : Int) := Int.ofNat_lt.mpr h1
    rw [Int.natCast_pow, Int.natCast_pow] at h3
    exact h3
  have e4 : 0 ≤ (c % ((10 : Int) ^ (38 : Int).toNat + 133)) ^ (3 : Int).toNat := Int.pow_nonneg l1
  refine ⟨_, _, rfl, rfl, pow_ok (n := 127) (e := 3) l4 (by decide) (by decide), .int k, rfl, _, _, rfl, rfl, wide_mul (a := 32) (b := 8) (by decide) (by omega) (by decide) (by decide) (by decide), _, _, rfl, rfl, _, _, rfl, rfl, ?_⟩
  refine ⟨by show 3 ≤ sizeLine; decide, fun p np => q p np _ (Kp.new np) ⟨_, _, _, upd_same, ?_, ?_, ?_, Int.le_refl 0, Int.le_refl 0⟩⟩
  · split <;> omega
  · generalize (c % ((10 : Int) ^ (38 : Int).toNat + 133)) ^ (3 : Int).toNat = r3 at e4
    omega
  · generalize (c % ((10 : Int) ^ (38 : Int).toNat + 133)) ^ (3 : Int).toNat = r3 at e3
    have e : (2 : Int) ^ 381 + 2147483629 * 100 + 3 < 2 ^ 400 := by decide
    omega
def spPull : Sp := fun vs H Q _ => ∃ (p : Addr) (m : Int) (n : Nat), vs = [.ref p, .int m] ∧ 0 < m ∧ m < 2 ^ 8000 ∧ Jar H p n ∧ n < 100000 ∧ ∀ r H', 0 ≤ r → r < m → Kp [p] H H' → Jar H' p (n + 1) → Q (.int r) H'
theorem ok_law_pull (T : Tx K mg a) : FnOk P w K mg base CX0 1 a.a_law_pull a.f_law_pull ["jar", "many"] spPull := by
  refine T.law_pull.F.ok sc_law_pull (fun vs H Q E h => ?_) (fun cdv A outer s H vs Q E hr h => ?_)
  · obtain ⟨p, m, n, rfl, _⟩ := h
    rfl
  obtain ⟨p, m, n, rfl, hm, hm2, ⟨x, y, z, hp, hx, hy, hy2, hz, hz2⟩, hn, q⟩ := h
  refine ⟨_, (pss_cons (ps_if (pt_cmpR op_gt (pe_ix ix_list (pv 0) pe_int (fun _ _ => rfl)) pe_int (nomark _)) (pss_cons (ps_set (i := 2) sc_law_pull.nd rfl (by first | exact .inl rfl | exact .inr rfl) (pe_op op_mod (pe_ix ix_list (pv 0) pe_int (fun _ _ => rfl)) (pv 1)))
      (pss_cons (ps_asg (pe_op op_fdivW (pe_ix ix_list (pv 0) pe_int (fun _ _ => rfl)) (pv 1)) (pg_sub (pv 0) pe_int set_list))
      (pss_one (ps_ret (pv 2))))) pss_nil)
      (pss_cons (ps_asg (pe_op op_add (pe_ix ix_list (pv 0) pe_int (fun _ _ => rfl)) pe_int) (pg_sub (pv 0) pe_int set_list))
      (pss_cons (ps_asg (pe_op op_mod (pe_op op_add (pe_op op_add (pe_op op_powW (pe_ix ix_list (pv 0) pe_int (fun _ _ => rfl)) pe_int) (pe_op op_mulW pe_int (pe_ix ix_list (pv 0) pe_int (fun _ _ => rfl)))) pe_int) (pe_op op_add (pe_op op_powW pe_int pe_int) pe_int)) (pg_sub (pv 0) pe_int set_list))
      (pss_one (ps_ret (pe_op op_mod (pe_op op_fdivW (pe_ix ix_list (pv 0) pe_int (fun _ _ => rfl)) (pe_op op_powW pe_int pe_int)) (pv 1))))))), ?_⟩
  have nt : ∀ ps, HO.lst [V.int x, .int y, .int z] ≠ .tbl ps := fun ps e => by cases e
  refine ⟨.ref p, rfl, p, _, 0, .int x, rfl, rfl, SqL.of hp, atI_nat (j := 0) rfl, _, _, rfl, rfl, _, rfl, ite2 (fun e => ?_) (fun e => ?_)⟩
  · have hx0 : 0 < x := of_decide_eq_true e
    refine ⟨.ref p, rfl, p, _, 0, .int x, rfl, rfl, SqL.of hp, atI_nat (j := 0) rfl, .int m, rfl, x, m, rfl, rfl, hm, ?_⟩
    refine ⟨.ref p, rfl, p, _, 0, .int x, rfl, rfl, SqL.of hp, atI_nat (j := 0) rfl, .int m, rfl, x, m, rfl, rfl, ⟨hm, big_log hm hm2⟩, ?_⟩
    refine ⟨.ref p, rfl, p, _, 0, 0, rfl, rfl, hp, rfl, ?_⟩
    refine ⟨.int (x % m), rfl, ?_⟩
    refine q _ _ (Int.emod_nonneg _ (by omega)) (Int.emod_lt_of_pos _ hm) (Kp.put (by simp) hp nt) ⟨x / m, y, z, upd_same, Int.ediv_nonneg hx (by omega), hy, hy2, hz, by omega⟩
  · have hx0 : x = 0 := by
      have : ¬ 0 < x := fun h => e (decide_eq_true h)
      omega
    -- jar[2] = jar[2] + 1
    refine ⟨.ref p, rfl, p, _, 2, .int z, rfl, rfl, SqL.of hp, atI_nat (j := 2) rfl, _, _, rfl, rfl, .ref p, rfl, p, _, 2, 2, rfl, rfl, hp, rfl, ?_⟩
    obtain ⟨H1, e1⟩ : ∃ H1, H1 = upd H p (.lst [.int x, .int y, .int (z + 1)]) := ⟨_, rfl⟩
    have hp1 : H1 p = some (.lst [.int x, .int y, .int (z + 1)]) := by rw [e1]; exact upd_same
    have k1 : Kp [p] H H1 := e1 ▸ Kp.put (by simp) hp nt
    show tSeq _ _ _ _ (upd H p (.lst [.int x, .int y, .int (z + 1)]))
    rw [← e1]
    -- jar[1] = (jar[1] ** 3 + 87178291 * jar[2] + 5) % (10 ** 33 + 61)
    refine ⟨.ref p, rfl, p, _, 1, .int y, rfl, rfl, SqL.of hp1, atI_nat (j := 1) rfl, _, _, rfl, rfl, pow_ok (n := 400) (e := 3) (by omega) (by decide) (by decide), .ref p, rfl, p, _, 2, .int (z + 1), rfl, rfl, SqL.of hp1, atI_nat (j := 2) rfl, _, _, rfl, rfl, wide_mul (a := 27) (b := 20) (by decide) (by omega) (by decide) (by decide) (by decide), _, _, rfl, rfl, _, _, rfl, rfl, _, _, rfl, rfl, ⟨by decide, by decide⟩, _, _, rfl, rfl, _, _, rfl, rfl, (by show (0 : Int) < _; decide), ?_⟩
    have l1 := Int.emod_nonneg (y ^ (3 : Int).toNat + 87178291 * (z + 1) + 5) (show ((10 : Int) ^ (33 : Int).toNat + 61) ≠ 0 by decide)
    have l2 := Int.emod_lt_of_pos (y ^ (3 : Int).toNat + 87178291 * (z + 1) + 5) (show 0 < ((10 : Int) ^ (33 : Int).toNat + 61) by decide)
    have l3 : ((10 : Int) ^ (33 : Int).toNat + 61) < 2 ^ 400 := by decide
    obtain ⟨b1, eb⟩ : ∃ b1, b1 = (y ^ (3 : Int).toNat + 87178291 * (z + 1) + 5) % ((10 : Int) ^ (33 : Int).toNat + 61) := ⟨_, rfl⟩
    rw [← eb] at l1 l2
    refine ⟨.ref p, rfl, p, _, 1, 1, rfl, rfl, hp1, rfl, ?_⟩
    obtain ⟨H2, e2⟩ : ∃ H2, H2 = upd H1 p (.lst [.int x, .int b1, .int (z + 1)]) := ⟨_, rfl⟩
    have hp2 : H2 p = some (.lst [.int x, .int b1, .int (z + 1)]) := by rw [e2]; exact upd_same
    have k2 : Kp [p] H1 H2 := e2 ▸ Kp.put (by simp) hp1 (fun ps e => by cases e)
    rw [eb] at e2
    show tSeq _ _ _ _ (upd H1 p (.lst [.int x, .int ((y ^ (3 : Int).toNat + 87178291 * (z + 1) + 5) % ((10 : Int) ^ (33 : Int).toNat + 61)), .int (z + 1)]))
    rw [← e2]
    -- return jar[1] // 10 ** 8 % many
    refine ⟨.ref p, rfl, p, _, 1, .int b1, rfl, rfl, SqL.of hp2, atI_nat (j := 1) rfl, _, _, rfl, rfl, ⟨by decide, by decide⟩, _, _, rfl, rfl, ⟨by decide, by decide⟩, .int m, rfl, _, _, rfl, rfl, hm, ?_⟩
    exact q _ _ (Int.emod_nonneg _ (by omega)) (Int.emod_lt_of_pos _ hm) (k1.tr k2) ⟨x, b1, z + 1, hp2, hx, l1, by omega, by omega, by omega⟩
def spNext : Sp := fun vs H Q _ => ∃ (p : Addr) (m k : Nat) (kd : Int) (n : Nat), vs = [.ref p, .int m, .int k, .int kd] ∧ Jar H p n ∧ n < 99000 ∧ k < m ∧ m ≤ 12 ∧ 0 ≤ kd ∧ kd < 4 ∧ ∀ o H', (∀ y, o = some y → y < m) → Kp [p] H H' → Jar H' p (n + 2) → Q (nxV o) H'
theorem ok_law_next (T : Tx K mg a) : FnOk P w K mg base CX0 2 a.a_law_next a.f_law_next ["jar", "many", "k", "kind"] spNext := by
  have G_law_pull := ok_law_pull (P := P) (w := w) (base := base) T
  refine T.law_next.F.ok sc_law_next (fun vs H Q E h => ?_) (fun cdv A outer s H vs Q E hr h => ?_)
  · obtain ⟨p, m, k, kd, n, rfl, _⟩ := h
    rfl
  obtain ⟨p, m, k, kd, n, rfl, hw, hn, hk, hm, hd1, hd2, q⟩ := h
  refine ⟨_, (pss_cons (ps_set (i := 4) sc_law_next.nd rfl (by first | exact .inl rfl | exact .inr rfl) (pe_lst (pa_cons (pe_op op_sub (pe_call G_law_pull (hr.mono (by decide)) (by rfl) T.law_pull.g T.law_pull.F.kp T.law_pull.b .nil pass0 (pa_cons (pv 0) (pa_cons (pe_op op_add (pv 1) pe_int) pa_nil))) pe_int) (pa_cons (pe_op op_mod (pe_op op_add (pv 2) pe_int) (pv 1)) (pa_cons (pe_call G_law_pull (hr.mono (by decide)) (by rfl) T.law_pull.g T.law_pull.F.kp T.law_pull.b .nil pass0 (pa_cons (pv 0) (pa_cons (pe_op op_add (pv 2) pe_int) pa_nil))) (pa_cons (pe_op op_add (pv 2) pe_int) pa_nil))))))
      (pss_cons (ps_set (i := 5) sc_law_next.nd rfl (by first | exact .inl rfl | exact .inr rfl) (pe_ix ix_list (pv 4) (pv 3) (fun _ _ => rfl)))
      (pss_one (ps_ret (pe_ifExp (PW.pt (pw_or (pt_cmpR op_lt (pv 5) pe_int (nomark _)) (pw_or1 (pt_cmpR op_ge (pv 5) (pv 1) (nomark _))))) pe_non (pv 5)))))), ?_⟩
  refine ⟨.ref p, rfl, .int m, rfl, _, _, rfl, rfl, p, _, n, rfl, by omega, by omega, hw, by omega, fun r1 H1 a1 b1 k1 w1 => ⟨_, _, rfl, rfl, ?_⟩⟩
  refine ⟨.int k, rfl, _, _, rfl, rfl, .int m, rfl, _, _, rfl, rfl, by omega, ?_⟩
  refine ⟨.ref p, rfl, .int k, rfl, _, _, rfl, rfl, p, _, n + 1, rfl, by omega, by omega, w1, by omega, fun r2 H2 a2 b2 k2 w2 => ?_⟩
  refine ⟨.int k, rfl, _, _, rfl, rfl, by show 4 ≤ sizeLine; decide, fun l nl => ?_⟩
  obtain ⟨v, hv, hmem⟩ := at_mem (xs := [V.int (r1 - 1), .int (((k : Int) + 1) % m), .int r2, .int ((k : Int) + 1)]) hd1 (by simpa using hd2)
  refine ⟨.ref l, rfl, .int kd, rfl, l, _, kd, v, rfl, rfl, SqL.of upd_same, hv, ?_⟩
  obtain ⟨t, rfl⟩ : ∃ t : Int, v = .int t := by
    simp only [List.mem_cons, List.not_mem_nil, or_false] at hmem
    rcases hmem with rfl | rfl | rfl | rfl <;> exact ⟨_, rfl⟩
  have kk : Kp [p] H (upd H2 l (.lst [V.int (r1 - 1), .int (((k : Int) + 1) % m), .int r2, .int ((k : Int) + 1)])) := k1.tr (k2.tr (Kp.new nl))
  have ww : Jar (upd H2 l (.lst [V.int (r1 - 1), .int (((k : Int) + 1) % m), .int r2, .int ((k : Int) + 1)])) p (n + 2) := w2.new nl
  refine ⟨.int t, rfl, _, _, rfl, rfl, _, rfl, ?_⟩
  by_cases h1 : t < 0
  · rw [decide_eq_true h1]
    exact iteT (iteT (q none _ (fun y e => by cases e) kk ww))
  · rw [decide_eq_false h1]
    refine iteF ⟨.int t, rfl, .int m, rfl, _, _, rfl, rfl, _, rfl, ?_⟩
    by_cases h2 : (m : Int) ≤ t
    · rw [decide_eq_true h2]
      exact iteT (q none _ (fun y e => by cases e) kk ww)
    · rw [decide_eq_false h2]
      refine iteF ⟨.int t, rfl, ?_⟩
      have := q (some t.toNat) _ (fun y e => by cases e; omega) kk ww
      rwa [show nxV (some t.toNat) = V.int t by show V.int (t.toNat : Int) = _; congr 1; omega] at this
def spNet : Sp := fun vs H Q _ => ∃ (p : Addr) (wd : Int) (n : Nat), vs = [.ref p, .int wd] ∧ Jar H p n ∧ n < 90000 ∧ 5 ≤ wd ∧ wd < 10 ^ 60 ∧ ∀ v H' N, NetOk N → Short N → (∀ z ∈ N, z.1 ≤ wd) → Nw H H' v (netD N) → Kp [p] H H' → Jar H' p (n + 60) → Q v H'
theorem ok_law_net (T : Tx K mg a) : FnOk P w K mg base CX0 3 a.a_law_net a.f_law_net ["jar", "wide"] spNet := by
  have G_law_pull := ok_law_pull (P := P) (w := w) (base := base) T
  have G_law_next := ok_law_next (P := P) (w := w) (base := base) T
  refine T.law_net.F.ok sc_law_net (fun vs H Q E h => ?_) (fun cdv A outer s H vs Q E hr h => ?_)
  · obtain ⟨p, wd, n, rfl, _⟩ := h
    rfl
  obtain ⟨p, wd, n, rfl, hw, hn, hwd, hwd2, q⟩ := h
  refine ⟨_, (pss_cons (ps_set (i := 2) sc_law_net.nd rfl (by first | exact .inl rfl | exact .inr rfl) (pe_ix ix_list (pe_lst (pa_cons (pe_op op_add pe_int (pe_call G_law_pull (hr.mono (by decide)) (by rfl) T.law_pull.g T.law_pull.F.kp T.law_pull.b .nil pass0 (pa_cons (pv 0) (pa_cons pe_int pa_nil)))) (pa_cons (pe_op op_add pe_int (pe_call G_law_pull (hr.mono (by decide)) (by rfl) T.law_pull.g T.law_pull.F.kp T.law_pull.b .nil pass0 (pa_cons (pv 0) (pa_cons pe_int pa_nil)))) pa_nil))) (pe_call G_law_pull (hr.mono (by decide)) (by rfl) T.law_pull.g T.law_pull.F.kp T.law_pull.b .nil pass0 (pa_cons (pv 0) (pa_cons pe_int pa_nil))) (fun _ _ => rfl)))
      (pss_cons (ps_set (i := 3) sc_law_net.nd rfl (by first | exact .inl rfl | exact .inr rfl) (pe_call G_law_pull (hr.mono (by decide)) (by rfl) T.law_pull.g T.law_pull.F.kp T.law_pull.b .nil pass0 (pa_cons (pv 0) (pa_cons pe_int pa_nil))))
      (pss_cons (ps_set (i := 4) sc_law_net.nd rfl (by first | exact .inl rfl | exact .inr rfl) (pe_ix ix_list (pe_lst (pa_cons pe_int (pa_cons pe_int (pa_cons (pv 1) pa_nil)))) (pe_call G_law_pull (hr.mono (by decide)) (by rfl) T.law_pull.g T.law_pull.F.kp T.law_pull.b .nil pass0 (pa_cons (pv 0) (pa_cons pe_int pa_nil))) (fun _ _ => rfl)))
      (pss_cons (ps_set (i := 5) sc_law_net.nd rfl (by first | exact .inl rfl | exact .inr rfl) (pe_lst pa_nil))
      (pss_cons (ps_for PassesOwn.never rfl (pi_range1 (by rfl) T.n_range (pa_cons (pv 2) pa_nil)) (pg_name (i := 6) sc_law_net.nd rfl (by first | exact .inl rfl | exact .inr rfl)) (pss_one (ps_expr (pe_bm PySem.F.plainAttrs_list PySem.F.slot_list_append PySem.F.type_list_append mt_append (pv 5) (pa_cons (pe_tup (pa_cons (pe_op op_add pe_int (pe_call G_law_pull (hr.mono (by decide)) (by rfl) T.law_pull.g T.law_pull.F.kp T.law_pull.b .nil pass0 (pa_cons (pv 0) (pa_cons (pv 4) pa_nil)))) (pa_cons (pe_call G_law_next (hr.mono (by decide)) (by rfl) T.law_next.g T.law_next.F.kp T.law_next.b .nil pass0 (pa_cons (pv 0) (pa_cons (pv 2) (pa_cons (pv 6) (pa_cons (pv 3) pa_nil))))) pa_nil))) pa_nil)))))
      (pss_one (ps_ret (pe_callTy call_tuple_of (by rfl) T.n_tuple (by decide +kernel) (pa_cons (pv 5) pa_nil))))))))), ?_⟩
  -- many = [..][..]
  refine ⟨.ref p, rfl, p, 12, n, rfl, by decide, by decide, hw, by omega, fun r1 H1 a1 b1 k1 w1 => ⟨_, _, rfl, rfl, ?_⟩⟩
  refine ⟨.ref p, rfl, p, 4, n + 1, rfl, by decide, by decide, w1, by omega, fun r2 H2 a2 b2 k2 w2 => ⟨_, _, rfl, rfl, ?_⟩⟩
  refine ⟨by show 2 ≤ sizeLine; decide, fun l nl => ?_⟩
  refine ⟨.ref p, rfl, p, 2, n + 2, rfl, by decide, by decide, w2.new nl, by omega, fun r3 H3 a3 b3 k3 w3 => ?_⟩
  obtain ⟨mv, hv, hm⟩ := at_mem (xs := [.int (1 + r1), .int (1 + r2)]) a3 (by simpa using b3)
  refine ⟨l, _, r3, mv, rfl, rfl, SqL.of (k3.lst (w2.ni nl) upd_same), hv, ?_⟩
  have kH3 : Kp [p] H H3 := k1.tr (k2.tr ((Kp.new nl).tr k3))
  obtain ⟨m, rfl, hm1, hm2⟩ : ∃ m : Nat, mv = .int (m : Int) ∧ 1 ≤ m ∧ m ≤ 12 := by
    simp only [List.mem_cons, List.not_mem_nil, or_false] at hm
    rcases hm with rfl | rfl
    · exact ⟨(1 + r1).toNat, by congr 1; omega, by omega, by omega⟩
    · exact ⟨(1 + r2).toNat, by congr 1; omega, by omega, by omega⟩
  -- kind = _law_pull(jar, 4)
  refine ⟨.ref p, rfl, p, 4, n + 3, rfl, by decide, by decide, w3, by omega, fun kd H4 a4 b4 k4 w4 => ?_⟩
  -- size = [2, 5, wide][..]
  refine ⟨.int wd, rfl, by show 3 ≤ sizeLine; decide, fun l2 nl2 => ?_⟩
  refine ⟨.ref p, rfl, p, 3, n + 4, rfl, by decide, by decide, w4.new nl2, by omega, fun r5 H5a a5 b5 k5 w5a => ?_⟩
  obtain ⟨sv, hsv, hsm⟩ := at_mem (xs := [.int 2, .int 5, .int wd]) a5 (by simpa using b5)
  refine ⟨l2, _, r5, sv, rfl, rfl, SqL.of (k5.lst (w4.ni nl2) upd_same), hsv, ?_⟩
  obtain ⟨sz, rfl, hs1, hs2⟩ : ∃ sz : Int, sv = .int sz ∧ 1 ≤ sz ∧ sz ≤ wd := by
    simp only [List.mem_cons, List.not_mem_nil, or_false] at hsm
    rcases hsm with rfl | rfl | rfl
    · exact ⟨_, rfl, by decide, by omega⟩
    · exact ⟨_, rfl, by decide, by omega⟩
    · exact ⟨_, rfl, by omega, by omega⟩
  have kH4 : Kp [p] H H5a := kH3.tr (k4.tr ((Kp.new nl2).tr k5))
  -- found = []
  refine ⟨Nat.zero_le _, fun fp nf => ?_⟩
  obtain ⟨H5, e5⟩ : ∃ H5, H5 = upd H5a fp (.lst []) := ⟨_, rfl⟩
  have hf5 : H5 fp = some (.lst []) := by rw [e5]; exact upd_same
  have w5 : Jar H5 p (n + 5) := by rw [e5]; exact w5a.new nf
  have kH5 : Kp [p] H H5 := kH4.tr (by rw [e5]; exact Kp.new nf)
  have hfp : fp ∉ [p] := w5a.ni nf
  show (fun H0 => _) (upd H5a fp (.lst []))
  rw [← e5]
  have hp5 : H5 p ≠ none := w5.tr
  have hf5' : H5 fp ≠ none := by rw [hf5]; exact fun q => by cases q
  have hS0 : ∀ s ∈ [fp, p], H5 s ≠ none := fun s z => by
    simp only [List.mem_cons, List.not_mem_nil, or_false] at z
    rcases z with rfl | rfl
    · exact hf5'
    · exact hp5
  have szb : sz < 2 ^ 8000 := by
    have : (10 : Int) ^ 60 < 2 ^ 8000 := by decide
    omega
  -- for k in range(many)
  refine ⟨.int m, rfl, m, rfl, by omega, by omega, for_range (n := m) (fun i σ H' => ∃ (k6 : Option V) (vs : List V) (Nk : Net), σ = [some (.ref p), some (.int wd), some (.int m), some (.int kd), some (.int sz), some (.ref fp), k6] ∧ H' fp = some (.lst vs) ∧ NwA H5 H' vs (Nk.map lampD) ∧ Nk.length = i ∧ (∀ z ∈ Nk, 1 ≤ z.1 ∧ z.1 ≤ wd ∧ ∀ y, z.2 = some y → y < m) ∧ Kp [fp, p] H5 H' ∧ Jar H' p (n + 5 + 3 * i)) ⟨none, [], [], rfl, hf5, .nil, rfl, fun z hz => (by cases hz), .rfl', w5⟩ (fun i σ H6 hi hP => ?_) (fun σ H6 hP => ?_)⟩
  · obtain ⟨o6, vs, Nk, rfl, hf6, hv6, hl6, hN6, kH6, w6⟩ := hP
    have ei : (0 + (i : Int)) = (i : Int) := by omega
    rw [ei]
    -- found.append((1 + _law_pull(jar, size), _law_next(jar, many, k, kind)))
    refine ⟨.ref fp, rfl, .inl ⟨rfl, _, SqL.of hf6⟩, ?_⟩
    refine ⟨.ref p, rfl, .int sz, rfl, p, sz, _, rfl, by omega, szb, w6, by omega, fun q1 H7 a7 b7 k7 w7 => ⟨_, _, rfl, rfl, ?_⟩⟩
    refine ⟨.ref p, rfl, .int m, rfl, .int i, rfl, .int kd, rfl, p, m, i, kd, _, rfl, w7, by omega, hi, hm2, a4, b4, fun o8 H8 ho8 k8 w8 => ?_⟩
    refine ⟨by show 2 ≤ sizeLine; decide, fun tp ntp => ?_⟩
    obtain ⟨H15, e15⟩ : ∃ H15, H15 = upd H8 tp (.tup [.int (1 + q1), nxV o8]) := ⟨_, rfl⟩
    rw [← e15]
    have k815 : Kp [] H8 H15 := e15 ▸ Kp.new ntp
    have k68 : Kp [p] H6 H8 := k7.tr k8
    have k615 : Kp [p] H6 H15 := k68.tr k815.of0
    have hf15 : H15 fp = some (.lst vs) := k615.lst hfp hf6
    have lvs : vs.length = i := by
      have e := (hv6 [] (fun s z => by cases z)).len
      rw [List.length_map] at e
      omega
    refine ⟨fp, vs, .ref tp, rfl, rfl, hf15, Nat.lt_of_lt_of_le (show vs.length < 1000 by omega) (by decide), ?_⟩
    obtain ⟨H16, e16⟩ : ∃ H16, H16 = upd H15 fp (.lst (vs ++ [.ref tp])) := ⟨_, rfl⟩
    rw [← e16]
    have k1516 : Kp [fp] H15 H16 := e16 ▸ Kp.put (by simp) hf15 (fun ps e => by cases e)
    have k615' : Kp [fp, p] H6 H15 := k615.wk fun x z => by simp only [List.mem_cons, List.not_mem_nil, or_false] at z ⊢; exact .inr z
    have k1516' : Kp [fp, p] H15 H16 := k1516.wk fun x z => by simp only [List.mem_cons, List.not_mem_nil, or_false] at z ⊢; exact .inl z
    have k616 : Kp [fp, p] H6 H16 := k615'.tr k1516'
    have hpf : p ∉ [fp] := by
      have : p ≠ fp := fun e => hfp (by simp [e])
      simpa using this
    have trA : ∀ b, H5 b ≠ none → H8 b ≠ none := fun b h => k68.tr_ b (kH6.tr_ b h)
    have hnew : Nw H5 H16 (.ref tp) (lampD (1 + q1, o8)) := by
      refine Nw.kpS (S0 := [fp, p]) ?_ k1516' hS0
      rw [e15]
      refine Nw.tup trA ntp (.cons (.int _) (.cons ?_ .nil))
      cases o8 with
      | none => exact .non
      | some y => exact .int _
    refine ⟨some (.int i), vs ++ [.ref tp], Nk ++ [(1 + q1, o8)], rfl, by rw [e16]; exact upd_same, ?_, by rw [List.length_append, hl6]; rfl, fun z hz => ?_, kH6.tr k616, ?_⟩
    · rw [List.map_append]
      exact (hv6.kpS k616 hS0).app (.cons hnew .nil)
    · rcases List.mem_append.mp hz with hz | hz
      · exact hN6 z hz
      · obtain rfl : z = (1 + q1, o8) := by simpa using hz
        exact ⟨by show 1 ≤ 1 + q1; omega, by show 1 + q1 ≤ wd; omega, fun y e => ho8 y e⟩
    · exact ((w8.kp k815 (by simp)).kp k1516 hpf).mono (by omega)
  · obtain ⟨o6, vs, Nk, rfl, hf6, hv6, hl6, hN6, kH6, w6⟩ := hP
    refine ⟨.ref fp, rfl, fp, vs, rfl, .inl ⟨SqL.of hf6, fun tp ntp => ?_⟩⟩
    obtain ⟨H7, e7⟩ : ∃ H7, H7 = upd H6 tp (.tup vs) := ⟨_, rfl⟩
    rw [← e7]
    have k67 : Kp [] H6 H7 := e7 ▸ Kp.new ntp
    have okN : NetOk Nk := ⟨by omega, by omega, fun z hz => (hN6 z hz).1, fun z hz y e => by rw [hl6]; exact (hN6 z hz).2.2 y e⟩
    refine q (.ref tp) H7 Nk okN (fun z hz => by have := (hN6 z hz).2.1; omega) (fun z hz => (hN6 z hz).2.1) ?_ ?_ ?_
    · rw [e7]
      exact Nw.tup (fun b h => kH6.tr_ b (kH5.tr_ b h)) ntp (hv6.old kH5.tr_)
    · have hfH : H fp = none := by
        cases e : H fp with
        | none => rfl
        | some o => exact absurd nf (kH4.tr_ fp (by rw [e]; exact fun q => by cases q))
      exact Kp.drop hfH ((kH5.wk fun x z => List.mem_cons_of_mem _ z).tr (kH6.tr k67.of0))
    · exact (w6.kp k67 (by simp)).mono (by omega)
def spCells : Sp := fun vs H Q _ => ∃ (l : Addr) (ns : List Int) (m : Nat), vs = [.ref l, .int m] ∧ SqL K H l (ns.map V.int) ∧ ns.length ≤ 63 ∧ m ≤ 63 ∧ ∀ (p : Addr) (cs : List Int) (H' : Hp), H' p = some (.lst (cs.map V.int)) → cs.length ≤ m + 1 → Kp [] H H' → Q (.ref p) H'
theorem ok_law_cells (T : Tx K mg a) : FnOk P w K mg base CX0 1 a.a_law_cells a.f_law_cells ["script", "most"] (spCells (K := K)) := by
  refine T.law_cells.F.ok sc_law_cells (fun vs H Q E h => ?_) (fun cdv A outer s H vs Q E hr h => ?_)
  · obtain ⟨l, ns, m, rfl, _⟩ := h
    rfl
  obtain ⟨l, ns, m, rfl, hl, hn, hm, q⟩ := h
  refine ⟨_, (pss_one (ps_ret (pe_op op_catL (pe_slice sl_list (pv 0) po_none (po_some (pv 1))) (pe_op op_rep (pe_lst (pa_cons pe_int pa_nil)) (pe_callTy call_int1 (by rfl) T.n_int (by decide +kernel) (pa_cons (pe_cmpR (op_eqD hr.units) (pv 0) (pe_lst pa_nil) (nomark _)) pa_nil)))))), ?_⟩
  -- script[:most]
  refine ⟨.ref l, rfl, .int m, rfl, _, rfl, l, _, rfl, hl, fun y ny => ?_⟩
  obtain ⟨cs, hcs, hcl⟩ : ∃ cs : List Int, cutV (ns.map V.int) none (some (m : Int)) = cs.map V.int ∧ cs.length ≤ m := by
    unfold cutV
    rw [← List.map_drop, ← List.map_take]
    refine ⟨_, rfl, ?_⟩
    rw [List.length_take, List.length_drop, HT.sIx_none, show HT.sIx (ns.map V.int).length (ns.map V.int).length (some (m : Int)) = min m (ns.map V.int).length from HT.sIx_nat _ _ m]
    omega
  rw [hcs]
  obtain ⟨H1, e1⟩ : ∃ H1, H1 = upd H y (.lst (cs.map V.int)) := ⟨_, rfl⟩
  rw [← e1]
  have k1 : Kp [] H H1 := e1 ▸ Kp.new ny
  have hy1 : H1 y = some (.lst (cs.map V.int)) := by rw [e1]; exact upd_same
  have hl1 := k1.seq (by simp) hl
  -- [0]
  refine ⟨by show 1 ≤ sizeLine; decide, fun z nz => ?_⟩
  obtain ⟨H2, e2⟩ : ∃ H2, H2 = upd H1 z (.lst [.int 0]) := ⟨_, rfl⟩
  rw [← e2]
  have k2 : Kp [] H1 H2 := e2 ▸ Kp.new nz
  have hz2 : H2 z = some (.lst [.int 0]) := by rw [e2]; exact upd_same
  -- int(script == [])
  refine ⟨.ref l, rfl, Nat.zero_le _, fun u nu => ?_⟩
  obtain ⟨H3, e3⟩ : ∃ H3, H3 = upd H2 u (.lst []) := ⟨_, rfl⟩
  rw [← e3]
  have k3 : Kp [] H2 H3 := e3 ▸ Kp.new nu
  have hu3 : H3 u = some (.lst []) := by rw [e3]; exact upd_same
  have dpi : ∀ ns : List Int, DpAll K H3 (ns.map V.int) (ns.map PyData.int) := fun ns => by
    induction ns with
    | nil => exact .nil
    | cons n r ih => exact .cons (.int n) ih
  have shI : ∀ ns : List Int, SeqAt.shaped (.list (ns.map PyData.int)) = true := fun ns => by
    unfold SeqAt.shaped
    have h1 : (PyData.list (ns.map PyData.int)).canLay0 = true := by
      show PyData.canLayAll0 (ns.map PyData.int) = true
      exact all_lay (fun _ => rfl) ns
    have h2 : (PyData.list (ns.map PyData.int)).depth ≤ 1 := by
      show PyData.depthAll (ns.map PyData.int) + 1 ≤ 1
      have := all_depth (f := PyData.int) (n := 0) (fun _ => Nat.le_refl _) ns
      omega
    rw [h1, decide_eq_true (Nat.le_trans h2 (by decide))]
    rfl
  refine ⟨.list (ns.map PyData.int), .list [], .lst (k3.seq (by simp) (k2.seq (by simp) hl1)) (dpi ns), .lst (SqL.of hu3) .nil, shI ns, (by decide), ?_⟩
  refine .inr ⟨_, rfl, ?_⟩
  obtain ⟨b, hb⟩ : ∃ b, b = PyData.eqv (.list (ns.map PyData.int)) (.list []) := ⟨_, rfl⟩
  rw [← hb]
  have hb1 : 0 ≤ (if b = true then (1 : Int) else 0) ∧ (if b = true then (1 : Int) else 0) ≤ 1 := by cases b <;> decide
  obtain ⟨j, ej⟩ : ∃ j, j = (if b = true then (1 : Int) else 0) := ⟨_, rfl⟩
  rw [← ej] at hb1 ⊢
  refine ⟨z, j, _, rfl, rfl, k3.lst (by simp) hz2, by omega, by omega, ?_, fun z2 nz2 => ?_⟩
  · have : ([V.int 0].length * j.toNat) ≤ 1 := by show 1 * j.toNat ≤ 1; omega
    exact Nat.le_trans this (by decide)
  obtain ⟨zs, hzs, hzl⟩ : ∃ zs : List Int, (List.replicate j.toNat [V.int 0]).flatten = zs.map V.int ∧ zs.length ≤ 1 := by
    refine ⟨(List.replicate j.toNat [(0 : Int)]).flatten, ?_, ?_⟩
    · rw [List.map_flatten, List.map_replicate]; rfl
    · rw [List.length_flatten, List.map_replicate, List.sum_replicate_nat]; simp; omega
  rw [hzs]
  obtain ⟨H4, e4⟩ : ∃ H4, H4 = upd H3 z2 (.lst (zs.map V.int)) := ⟨_, rfl⟩
  rw [← e4]
  have k4 : Kp [] H3 H4 := e4 ▸ Kp.new nz2
  refine ⟨y, z2, _, _, rfl, rfl, SqL.of ((k2.tr (k3.tr k4)).lst (by simp) hy1), SqL.of (by rw [e4]; exact upd_same), ?_, fun p np => ?_⟩
  · rw [List.length_map, List.length_map]
    exact Nat.le_trans (show cs.length + zs.length ≤ 64 by omega) (by decide)
  rw [← List.map_append]
  exact q p (cs ++ zs) _ upd_same (by rw [List.length_append]; omega) (k1.tr (k2.tr (k3.tr (k4.tr (Kp.new np)))))
end

/-! ### the law's own look whether two things are alike: of data that are -/
section
variable {P : Program} {w : World} {K : PySem.W.Frag} {mg : Str → Option Value} {base : Heap} {a : Ad}
def spExact (n : Nat) : Sp := fun vs H Q _ => ∃ (v u : V) (d : PyData), vs = [v, u] ∧ Dx [] H v d ∧ Dx [] H u d ∧ d.canLay0 = true ∧ wdB d = true ∧ d.depth ≤ n ∧ ∀ H', Kp [] H H' → Q (.bl true) H'
theorem kit_any {K : PySem.W.Frag} {d : PyData} : PySem.W.kitAny K (.type (kname d)) [.type "list", .type "tuple"] = some (kindB d "list" || kindB d "tuple") := by
  refine kitAny_cons (kit_data (C := "list") (by decide)) (fun e => ?_) fun e => by rw [e]; rfl
  rw [e]
  refine kitAny_cons (kit_data (C := "tuple") (by decide)) (fun e => ?_) fun e => by rw [e]; rfl
  rw [e]
  exact kitAny_nil
theorem lay_mem {d : PyData} : ∀ {ds : List PyData}, PyData.canLayAll0 ds = true → d ∈ ds → d.canLay0 = true
  | [], _, h => by cases h
  | e :: ds, h, hm => by
    have h2 : e.canLay0 = true ∧ PyData.canLayAll0 ds = true := by simpa [PyData.canLayAll0] using h
    rcases List.mem_cons.mp hm with rfl | hm
    · exact h2.1
    · exact lay_mem h2.2 hm
theorem depth_mem {d : PyData} : ∀ {ds : List PyData}, d ∈ ds → d.depth ≤ PyData.depthAll ds
  | [], h => by cases h
  | e :: ds, hm => by
    show _ ≤ max e.depth (PyData.depthAll ds)
    rcases List.mem_cons.mp hm with rfl | hm
    · exact Nat.le_max_left _ _
    · exact Nat.le_trans (depth_mem hm) (Nat.le_max_right _ _)
theorem ok_law_exactN (T : Tx K mg a) (n : Nat) {j : Nat} {sp : Sp} (G_law_exact : FnOk P w K mg base CX0 j a.a_law_exact a.f_law_exact ["found", "due"] sp) (hj : j ≤ n) (hsp : 0 < n → ∀ vs H Q E, spExact (n - 1) vs H Q E → sp vs H Q E) :
    FnOk P w K mg base CX0 (n + 1) a.a_law_exact a.f_law_exact ["found", "due"] (spExact n) := by
  refine T.law_exact.F.ok sc_law_exact (fun vs H Q E h => ?_) (fun cdv A outer s H vs Q E hr h => ?_)
  · obtain ⟨v, u, d, rfl, _⟩ := h
    rfl
  obtain ⟨v, u, d, rfl, hv, hu, hl, hwd, hdp, q⟩ := h
  refine ⟨_, (pss_cons (ps_if (pt_cmpR op_isN (pv 1) pe_non (nomark _)) (pss_one (ps_ret (pe_cmpR op_isN (pv 0) pe_non (nomark _)))) pss_nil)
      (pss_cons (ps_if (pt_val (pe_callB call_isiT (by rfl) T.n_isinstance (by decide +kernel) (pa_cons (pv 1) (pa_cons (pe_tup (pa_cons (pe_bltn (v := .ty "list") (by rfl) T.n_list (by decide +kernel) rfl) (pa_cons (pe_bltn (v := .ty "tuple") (by rfl) T.n_tuple (by decide +kernel) rfl) pa_nil))) pa_nil)))) (pss_cons (ps_if (PW.pt (pw_or (pt_cmpR op_ne (pe_callB call_isi (by rfl) T.n_isinstance (by decide +kernel) (pa_cons (pv 0) (pa_cons (pe_bltn (v := .ty "list") (by rfl) T.n_list (by decide +kernel) rfl) pa_nil))) (pe_callB call_isi (by rfl) T.n_isinstance (by decide +kernel) (pa_cons (pv 1) (pa_cons (pe_bltn (v := .ty "list") (by rfl) T.n_list (by decide +kernel) rfl) pa_nil))) (nomark _)) (pw_or1 (pt_cmpR op_ne (pe_callB call_isi (by rfl) T.n_isinstance (by decide +kernel) (pa_cons (pv 0) (pa_cons (pe_bltn (v := .ty "tuple") (by rfl) T.n_tuple (by decide +kernel) rfl) pa_nil))) (pe_callB call_isi (by rfl) T.n_isinstance (by decide +kernel) (pa_cons (pv 1) (pa_cons (pe_bltn (v := .ty "tuple") (by rfl) T.n_tuple (by decide +kernel) rfl) pa_nil))) (nomark _))))) (pss_one (ps_ret pe_bl)) pss_nil)
      (pss_one (ps_ret (pe_and (pe_cmpR op_eq (pe_callB call_len_seq (by rfl) T.n_len (by decide +kernel) (pa_cons (pv 0) pa_nil)) (pe_callB call_len_seq (by rfl) T.n_len (by decide +kernel) (pa_cons (pv 1) pa_nil)) (nomark _)) (pe_one (pe_callB (cr_all rfl) (by rfl) T.n_all (by decide +kernel) (pa_cons (pe_lc (own := [("one", 2), ("other", 3)]) (g := gTup K 2 (gCons (gName 2) (gCons (gName 3) (gNil)))) (by rfl) sc_law_exact.nd (RZ.pi_zipA (by rfl) T.n_zip (pa_cons (pv 0) (pa_cons (pv 1) pa_nil))) (blkOk_by (own := [("one", 2), ("other", 3)]) (N := s_law_exact_N) (sc := defScope s_law_exact) (by decide +kernel)) (fun _ _ _ _ _ => (pg_tupK (K := K) rfl (by rfl) (pgs_cons (pg_name (i := 2) sc_law_exact.nd rfl (by first | exact .inl rfl | exact .inr rfl)) (pgs_cons (pg_name (i := 3) sc_law_exact.nd rfl (by first | exact .inl rfl | exact .inr rfl)) pgs_nil)))) (fun _ _ _ _ _ => pts_nil) (fun _ _ _ _ _ => (pe_call G_law_exact (hr.mono (by omega)) (by rfl) T.law_exact.g T.law_exact.F.kp T.law_exact.b .nil pass0 (pa_cons (pv 2) (pa_cons (pv 3) pa_nil))))) pa_nil))))))) pss_nil)
      (pss_one (ps_ret (pe_and (pe_cmpR op_eq (pe_callB call_isi (by rfl) T.n_isinstance (by decide +kernel) (pa_cons (pv 0) (pa_cons (pe_bltn (v := .ty "bool") (by rfl) T.n_bool (by decide +kernel) rfl) pa_nil))) (pe_callB call_isi (by rfl) T.n_isinstance (by decide +kernel) (pa_cons (pv 1) (pa_cons (pe_bltn (v := .ty "bool") (by rfl) T.n_bool (by decide +kernel) rfl) pa_nil))) (nomark _)) (pe_one (pe_cmpR (op_eqD hr.units) (pv 0) (pv 1) (nomark _)))))))), ?_⟩
  have kl : PySem.W.kitOne K (.type (kname d)) (.type "list") = some (kindB d "list") := kit_data (by decide)
  have kt : PySem.W.kitOne K (.type (kname d)) (.type "tuple") = some (kindB d "tuple") := kit_data (by decide)
  have kb : PySem.W.kitOne K (.type (kname d)) (.type "bool") = some (kindB d "bool") := kit_data (by decide)
  -- two leaves
  have leaf : (kindB d "list" || kindB d "tuple") = false → d.depth = 0 → ∀ Ha, Kp [] H Ha → Dx [] Ha v d → Dx [] Ha u d → SeqAt.shaped d = true → v ≠ .non → ∀ (X : Prop), (Q (.bl true) Ha → X) → X := fun _ _ Ha k _ _ _ _ X f => f (q Ha k)
  clear leaf
  by_cases hnon : d = .none
  · subst hnon
    cases hv
    cases hu
    refine ⟨.non, rfl, rfl, _, rfl, iteT ⟨.non, rfl, rfl, ?_⟩⟩
    exact q H Kp.rfl'
  have hun : u ≠ .non := fun e => by
    subst e
    cases hu
    exact hnon rfl
  refine ⟨u, rfl, rfl, _, rfl, ?_⟩
  rw [decide_eq_false hun]
  refine iteF ⟨u, rfl, by show 2 ≤ sizeLine; decide, fun tp ntp => ⟨u, tp, _, _, _, _, rfl, upd_same, .cons (.ty _) (.cons (.ty _) .nil), ?_, kit_any (d := d), _, rfl, ?_⟩⟩
  · exact tyx_of (hu.kp (Kp.new (S := []) ntp) fun _ z => by cases z)
  have kp1 : Kp [] H (upd H tp (.tup [.ty "list", .ty "tuple"])) := Kp.new ntp
  obtain ⟨H1, e1⟩ : ∃ H1, H1 = upd H tp (.tup [.ty "list", .ty "tuple"]) := ⟨_, rfl⟩
  rw [← e1] at kp1
  show (if (kindB d "list" || kindB d "tuple") = true then _ else _)
  have hv1 : Dx [] H1 v d := hv.kp kp1 fun _ z => by cases z
  have hu1 : Dx [] H1 u d := hu.kp kp1 fun _ z => by cases z
  have shp : d.depth ≤ 64 → SeqAt.shaped d = true := fun e => by
    unfold SeqAt.shaped
    rw [hl, decide_eq_true e]; rfl
  by_cases hk : (kindB d "list" || kindB d "tuple") = true
  · rw [hk]
    refine iteT ?_
    rw [← e1]
    refine ⟨v, rfl, v, .ty "list", _, _, _, rfl, .ty _, tyx_of hv1, kl, u, rfl, u, .ty "list", _, _, _, rfl, .ty _, tyx_of hu1, kl, rfl, _, rfl, ?_⟩
    rw [decide_eq_true (Eq.refl _)]
    refine iteF ⟨v, rfl, v, .ty "tuple", _, _, _, rfl, .ty _, tyx_of hv1, kt, u, rfl, u, .ty "tuple", _, _, _, rfl, .ty _, tyx_of hu1, kt, rfl, _, rfl, ?_⟩
    rw [decide_eq_true (Eq.refl _)]
    refine iteF ?_
    -- what stands in both
    obtain ⟨x1, x2, xs1, xs2, ds, rfl, rfl, hr1, hr2, hlay, hwds, hdep, hseq⟩ : ∃ x1 x2 xs1 xs2 ds, v = .ref x1 ∧ u = .ref x2 ∧ DxA [] H1 xs1 ds ∧ DxA [] H1 xs2 ds ∧ PyData.canLayAll0 ds = true ∧ (ds.length < 100000 ∧ wdAll ds = true) ∧ PyData.depthAll ds + 1 ≤ n ∧
        ((H1 x1 = some (.lst xs1) ∧ H1 x2 = some (.lst xs2)) ∨ (H1 x1 = some (.tup xs1) ∧ H1 x2 = some (.tup xs2))) := by
      cases hv1 with
      | @lst x1 xs1 ds _ h1 r1 =>
        cases hu1 with
        | @lst x2 xs2 _ _ h2 r2 => exact ⟨x1, x2, xs1, xs2, ds, rfl, rfl, r1, r2, hl, by simpa [wdB] using hwd, hdp, .inl ⟨h1, h2⟩⟩
      | @tup x1 xs1 ds _ h1 r1 =>
        cases hu1 with
        | @tup x2 xs2 _ _ h2 r2 => exact ⟨x1, x2, xs1, xs2, ds, rfl, rfl, r1, r2, hl, by simpa [wdB] using hwd, hdp, .inr ⟨h1, h2⟩⟩
      | dic _ h => exact absurd hl (by simp [PyData.canLay0])
      | non => exact absurd rfl hnon
      | bl b => exact nomatch (show (false : Bool) = true from hk)
      | int i => exact nomatch (show (false : Bool) = true from hk)
      | str z => exact nomatch (show (false : Bool) = true from hk)
    have l1 := hr1.len
    have l2 := hr2.len
    have sq1 : SqL K H1 x1 xs1 ∨ SqT K H1 x1 xs1 := by
      rcases hseq with ⟨h1, _⟩ | ⟨h1, _⟩
      · exact .inl (SqL.of h1)
      · exact .inr (SqT.of h1)
    have sq2 : SqL K H1 x2 xs2 ∨ SqT K H1 x2 xs2 := by
      rcases hseq with ⟨_, h1⟩ | ⟨_, h1⟩
      · exact .inl (SqL.of h1)
      · exact .inr (SqT.of h1)
    refine ⟨.ref x1, rfl, x1, xs1, rfl, sq1, .ref x2, rfl, x2, xs2, rfl, sq2, rfl, _, rfl, ?_⟩
    rw [decide_eq_true (by rw [l1, l2])]
    refine iteT ⟨.ref x1, rfl, .ref x2, rfl, x1, x2, xs1, xs2, rfl, ?_⟩
    -- one turn, and the end
    have turn : ∀ (D : Addr), H1 D = none → ∀ (i : Nat) (x : V) (σ0 : L2.St) (Ha Hb : Hp), i < xs1.length → (Ha D = some (.lst (List.replicate i (.bl true))) ∧ Kp [] H1 Ha) → YPair (fun i => xs1[i]?) (fun i => xs2[i]?) i Ha x Hb →
        ∃ (Tp : Addr) (y1 y2 : V) (dd : PyData), x = .ref Tp ∧ Hb Tp = some (.tup [y1, y2]) ∧ Dx [] Hb y1 dd ∧ Dx [] Hb y2 dd ∧ dd.canLay0 = true ∧ wdB dd = true ∧ dd.depth ≤ n - 1 ∧ Kp [] Ha Hb := by
      intro D nD i x σ0 Ha Hb hi hP hy
      obtain ⟨Tp, y1, y2, rfl, nT, rfl, hy1, hy2⟩ := hy
      have kT : Kp [] Ha (upd Ha Tp (.tup [y1, y2])) := Kp.new nT
      obtain ⟨dd, hd1, hx1⟩ := hr1.get hy1
      obtain ⟨dd2, hd2, hx2⟩ := hr2.get hy2
      rw [hd1] at hd2
      cases hd2
      have hm := List.mem_of_getElem? hd1
      refine ⟨Tp, y1, y2, dd, rfl, upd_same, hx1.kp (hP.2.tr kT) (fun _ z => by cases z), hx2.kp (hP.2.tr kT) (fun _ z => by cases z), lay_mem hlay hm, wd_mem hwds.2 hm, ?_, kT⟩
      have := depth_mem hm
      omega
    have n1 : xs1.length = min xs1.length xs2.length := by omega
    have n0 : 0 < n := by omega
    have fin : ∀ (D : Addr), H1 D = none → ∀ (Ha : Hp), (Ha D = some (.lst (List.replicate xs1.length (.bl true))) ∧ Kp [] H1 Ha) → rAll K [V.ref D] Ha Q := by
      intro D nD Ha hP
      refine ⟨D, List.replicate xs1.length true, rfl, SqL.of (by rw [List.map_replicate]; exact hP.1), ?_⟩
      have e : (List.replicate xs1.length true).all id = true := by
        rw [List.all_eq_true]
        intro b hb
        rw [(List.mem_replicate.mp hb).2]; rfl
      rw [e]
      exact q Ha (kp1.tr hP.2)
    have step : ∀ (D : Addr), H1 D = none → ∀ (i : Nat) (Hb Hc : Hp), i < xs1.length → Hb D = some (.lst (List.replicate i (.bl true))) → Kp [] H1 Hb → Kp [] Hb Hc → ∃ acc, Hc D = some (.lst acc) ∧ acc.length < sizeLine ∧ ((upd Hc D (.lst (acc ++ [.bl true]))) D = some (.lst (List.replicate (i + 1) (.bl true))) ∧ Kp [] H1 (upd Hc D (.lst (acc ++ [.bl true])))) := by
      intro D nD i Hb Hc hi hb k1 k2
      have hc := k2.lst (by simp) hb
      refine ⟨_, hc, ?_, ?_, ?_⟩
      · rw [List.length_replicate]
        have := wd_len
        have := hwds.1
        omega
      · rw [upd_same, List.replicate_succ']
      · exact Kp.drop nD ((k1.tr k2).of0.tr (Kp.put (S := [D]) (by simp) hc fun ps e => by cases e))
    rcases hseq with ⟨h1, h2⟩ | ⟨h1, h2⟩
    · refine .inl ⟨SqL.of h1, SqL.of h2, fun D nD => lc_it (walk_zip (K := K) (a := x1) (b := x2) (xs := xs1) (ys := xs2) n1) (fun i Ha => Ha D = some (.lst (List.replicate i (.bl true))) ∧ Kp [] H1 Ha) ⟨upd_same, Kp.new nD⟩ (fun i Ha _ hP => ⟨SqL.of (hP.2.lst (by simp) h1), SqL.of (hP.2.lst (by simp) h2)⟩) (fun i x Ha Hb hi hP hy => ?_) (fun Ha hP => fin D nD Ha hP)⟩
      obtain ⟨Tp, y1, y2, dd, rfl, hT, hx1, hx2, ly, wy, dp, kab⟩ := turn D nD i x [] Ha Hb hi hP hy
      refine ⟨Tp, _, rfl, SqT.of hT, rfl, _, _, rfl, _, _, rfl, rfl, rfl, y1, rfl, y2, rfl, hsp n0 _ _ _ _ ⟨y1, y2, dd, rfl, hx1, hx2, ly, wy, dp, fun Hc kc => step D nD i Hb Hc hi (kab.lst (by simp) hP.1) (hP.2.tr kab) kc⟩⟩
    · refine .inr ⟨SqT.of h1, SqT.of h2, fun D nD => lc_it (walk_zipT (K := K) (a := x1) (b := x2) (xs := xs1) (ys := xs2) n1) (fun i Ha => Ha D = some (.lst (List.replicate i (.bl true))) ∧ Kp [] H1 Ha) ⟨upd_same, Kp.new nD⟩ (fun i Ha _ hP => ⟨SqT.of (hP.2.tup (by simp) h1), SqT.of (hP.2.tup (by simp) h2)⟩) (fun i x Ha Hb hi hP hy => ?_) (fun Ha hP => fin D nD Ha hP)⟩
      obtain ⟨Tp, y1, y2, dd, rfl, hT, hx1, hx2, ly, wy, dp, kab⟩ := turn D nD i x [] Ha Hb hi hP hy
      refine ⟨Tp, _, rfl, SqT.of hT, rfl, _, _, rfl, _, _, rfl, rfl, rfl, y1, rfl, y2, rfl, hsp n0 _ _ _ _ ⟨y1, y2, dd, rfl, hx1, hx2, ly, wy, dp, fun Hc kc => step D nD i Hb Hc hi (kab.lst (by simp) hP.1) (hP.2.tr kab) kc⟩⟩
  · have hk2 : (kindB d "list" || kindB d "tuple") = false := by simpa using hk
    rw [hk2]
    refine iteF ?_
    rw [← e1]
    refine ⟨v, rfl, v, .ty "bool", _, _, _, rfl, .ty _, tyx_of hv1, kb, u, rfl, u, .ty "bool", _, _, _, rfl, .ty _, tyx_of hu1, kb, rfl, _, rfl, ?_⟩
    rw [decide_eq_true (Eq.refl _)]
    have dz : d.depth = 0 := by
      cases d with
      | list _ => exact nomatch (show (true : Bool) = false from hk2)
      | tuple _ => exact nomatch (show (true : Bool) = false from hk2)
      | dict _ => exact absurd hl (by simp [PyData.canLay0])
      | _ => rfl
    have nd := PyData.hasDict_of_canLay _ hl
    have sh := shp (by omega)
    refine iteT ⟨v, rfl, u, rfl, d, d, hv1.dp nd, hu1.dp nd, sh, sh, ?_⟩
    rw [SeqAt.eqv_refl _ hl]
    exact q H1 kp1
theorem ok_law_exact (T : Tx K mg a) : ∀ n, FnOk P w K mg base CX0 (n + 1) a.a_law_exact a.f_law_exact ["found", "due"] (spExact n) := by
  intro n
  induction n with
  | zero => exact ok_law_exactN T 0 (j := 0) (sp := fun _ _ _ _ => False) ⟨fun _ _ _ _ h => h.elim, fun _ _ _ _ _ _ _ _ _ _ _ _ _ h => h.elim⟩ (Nat.le_refl _) fun h => absurd h (Nat.lt_irrefl 0)
  | succ n ih => exact ok_law_exactN T (n + 1) ih (Nat.le_refl _) fun _ vs H Q E h => h
end

/-! ### Embers -/
section
variable {P : Program} {w : World} {K : PySem.W.Frag} {mg : Str → Option Value} {base : Heap} {a : Ad}
def spInit (C TB : Addr) : Sp := fun vs H Q _ => ∃ (e dx : Addr) (v : V) (N : Net), vs = [.ref e, v] ∧ H e = some (.ins C dx []) ∧ Tu H v (netD N) ∧ NetOk N ∧ GxR.TabG H TB ∧
  ∀ w l r H', H w = none → H l = none → H r = none → Emb C H' e w l r ⟨N, 0, 0, [], List.replicate N.length none, []⟩ → Kp [e] H H' → Q .non H'
theorem ok_init (T : Tx K mg a) (TB : GxR.TabB base mg a.cd_is_net a.tb_is_net) : FnOk P w K mg base CX0 8 a.a_Embers___init__ a.f_Embers___init__ ["self", "net"] (spInit a.c_Embers a.tb_is_net) := by
  have G_need_net := ok_need_net (P := P) (w := w) (base := base) T TB
  refine T.F_Embers___init__.ok sc_Embers___init__ (fun vs H Q E h => ?_) (fun cdv A outer s H vs Q E hr h => ?_)
  · obtain ⟨e, dx, v, N, rfl, _⟩ := h
    rfl
  obtain ⟨e, dx, v, N, rfl, he, hd, ok, ht, q⟩ := h
  refine ⟨_, (pss_cons (ps_expr (pe_call G_need_net (hr.mono (by decide)) (by rfl) T.need_net.g T.need_net.F.kp T.need_net.b .nil pass0 (pa_cons (pv 1) pa_nil)))
      (pss_cons (ps_fld (pv 0) (pv 1) rfl)
      (pss_cons (ps_fld (pv 0) pe_int rfl)
      (pss_cons (ps_fld (pv 0) pe_int rfl)
      (pss_cons (ps_fld (pv 0) (pe_lst pa_nil) rfl)
      (pss_cons (ps_fld (pv 0) (pe_lc (own := [("_", 2)]) (g := gName 2) (by rfl) sc_Embers___init__.nd (pi_tup (pv 1)) (blkOk_by (own := [("_", 2)]) (N := s_Embers___init___N) (sc := defScope s_Embers___init__) (by decide +kernel)) (fun _ _ _ _ _ => (pg_name (i := 2) sc_Embers___init__.nd rfl (by first | exact .inl rfl | exact .inr rfl))) (fun _ _ _ _ _ => pts_nil) (fun _ _ _ _ _ => pe_non)) rfl)
      (pss_one (ps_fld (pv 0) (pe_lst pa_nil) rfl)))))))), ?_⟩
  have h12 := ok.hi
  -- need_net(net)
  refine ⟨v, rfl, [], v, N, rfl, hd.dx0, ok, ht, fun Ha ka => ?_⟩
  have hea := ka.ins (by simp) he
  have hda := hd.kt ka.kt0
  -- self._net, self._beat, self._flames
  refine ⟨v, rfl, .ref e, rfl, e, _, dx, _, rfl, hea, T.cl_Embers, T.na_Embers__net, by decide, ?_⟩
  refine ⟨.ref e, rfl, e, _, dx, _, rfl, upd_same, T.cl_Embers, T.na_Embers__beat, Nat.lt_of_le_of_lt (pl ((Nat.le_refl 0))) (by decide), ?_⟩
  refine ⟨.ref e, rfl, e, _, dx, _, rfl, upd_same, T.cl_Embers, T.na_Embers__flames, Nat.lt_of_le_of_lt (pl (pl ((Nat.le_refl 0)))) (by decide), ?_⟩
  obtain ⟨H1, e1⟩ : ∃ H1, H1 = upd (upd (upd Ha e (.ins a.c_Embers dx (putF "_net" v []))) e (.ins a.c_Embers dx (putF "_beat" (.int 0) (putF "_net" v [])))) e (.ins a.c_Embers dx (putF "_flames" (.int 0) (putF "_beat" (.int 0) (putF "_net" v [])))) := ⟨_, rfl⟩
  have he1 : H1 e = some (.ins a.c_Embers dx (putF "_flames" (.int 0) (putF "_beat" (.int 0) (putF "_net" v [])))) := by rw [e1]; exact upd_same
  have k1 : Kp [e] Ha H1 := by
    rw [e1, upd_upd, upd_upd]
    exact Kp.put (by simp) hea fun ps z => by cases z
  have t1 : Kt Ha H1 := k1.kt fun s hs xs => by
    obtain rfl : s = e := by simpa using hs
    rw [hea]; exact fun z => by cases z
  -- self._waiting = []
  refine ⟨Nat.zero_le _, fun wt nw => ?_⟩
  rw [← e1] at nw
  refine ⟨.ref e, rfl, e, _, dx, _, rfl, by rw [← e1, upd_ne (ne_of_none he1 nw)]; exact he1, T.cl_Embers, T.na_Embers__waiting, Nat.lt_of_le_of_lt (pl (pl (pl ((Nat.le_refl 0))))) (by decide), ?_⟩
  rw [← e1]
  obtain ⟨H2, e2⟩ : ∃ H2, H2 = upd H1 wt (.lst []) := ⟨_, rfl⟩
  rw [← e2]
  have k2 : Kp [] H1 H2 := e2 ▸ Kp.new nw
  have hw2 : H2 wt = some (.lst []) := by rw [e2]; exact upd_same
  have he2 := k2.ins (by simp) he1
  obtain ⟨H3, e3⟩ : ∃ H3, H3 = upd H2 e (.ins a.c_Embers dx (putF "_waiting" (.ref wt) (putF "_flames" (.int 0) (putF "_beat" (.int 0) (putF "_net" v []))))) := ⟨_, rfl⟩
  rw [← e3]
  have k3 : Kp [e] H2 H3 := e3 ▸ Kp.put (by simp) he2 fun ps z => by cases z
  have t3 : Kt H2 H3 := e3 ▸ Kt.put he2 fun ps z => by cases z
  have he3 : H3 e = some (.ins a.c_Embers dx (putF "_waiting" (.ref wt) (putF "_flames" (.int 0) (putF "_beat" (.int 0) (putF "_net" v []))))) := by rw [e3]; exact upd_same
  have hew : wt ∉ [e] := by
    have : wt ≠ e := fun z => by rw [z, he1] at nw; cases nw
    simpa using this
  have hw3 := k3.lst hew hw2
  have tA3 : Kt Ha H3 := t1.tr (k2.kt0.tr t3)
  obtain ⟨ad, xs, rfl, hx3, hl3, _⟩ := tnet_at (hda.kt tA3)
  -- self._lights = [None for _ in net]
  refine ⟨.ref ad, rfl, ad, rfl, ⟨_, SqT.of hx3⟩, fun D nD => lc_tup (xs := xs) (fun j H' => H' = upd H3 D (.lst (List.replicate j .non))) rfl (fun j H' _ z => ?_) (fun j y H' hy z => ?_) (fun H' z => ?_)⟩
  · rw [z]
    exact SqT.of ((Kt.new nD) _ _ hx3)
  · rw [z]
    have hj := (List.getElem?_eq_some_iff.mp hy).1
    refine ⟨rfl, _, upd_same, Nat.lt_of_le_of_lt (m := 12) (by rw [List.length_replicate]; omega) (by decide), ?_⟩
    rw [upd_upd, List.replicate_succ']
  rw [z, hl3]
  obtain ⟨H4, e4⟩ : ∃ H4, H4 = upd H3 D (.lst (List.replicate N.length .non)) := ⟨_, rfl⟩
  rw [← e4]
  have k4 : Kp [] H3 H4 := e4 ▸ Kp.new nD
  have hD4 : H4 D = some (.lst (List.replicate N.length .non)) := by rw [e4]; exact upd_same
  have he4 := k4.ins (by simp) he3
  refine ⟨.ref e, rfl, e, _, dx, _, rfl, he4, T.cl_Embers, T.na_Embers__lights, Nat.lt_of_le_of_lt (pl (pl (pl (pl ((Nat.le_refl 0)))))) (by decide), ?_⟩
  obtain ⟨H5, e5⟩ : ∃ H5, H5 = upd H4 e (.ins a.c_Embers dx (putF "_lights" (.ref D) (putF "_waiting" (.ref wt) (putF "_flames" (.int 0) (putF "_beat" (.int 0) (putF "_net" (.ref ad) [])))))) := ⟨_, rfl⟩
  rw [← e5]
  have k5 : Kp [e] H4 H5 := e5 ▸ Kp.put (by simp) he4 fun ps z => by cases z
  have t5 : Kt H4 H5 := e5 ▸ Kt.put he4 fun ps z => by cases z
  have he5 : H5 e = some (.ins a.c_Embers dx (putF "_lights" (.ref D) (putF "_waiting" (.ref wt) (putF "_flames" (.int 0) (putF "_beat" (.int 0) (putF "_net" (.ref ad) [])))))) := by rw [e5]; exact upd_same
  have heD : D ∉ [e] := by
    have : D ≠ e := fun z => by rw [z, he3] at nD; cases nD
    simpa using this
  -- self._rows = []
  refine ⟨Nat.zero_le _, fun rp nr => ?_⟩
  obtain ⟨H6, e6⟩ : ∃ H6, H6 = upd H5 rp (.lst []) := ⟨_, rfl⟩
  rw [← e6]
  have k6 : Kp [] H5 H6 := e6 ▸ Kp.new nr
  have he6 := k6.ins (by simp) he5
  refine ⟨.ref e, rfl, e, _, dx, _, rfl, he6, T.cl_Embers, T.na_Embers__rows, Nat.lt_of_le_of_lt (pl (pl (pl (pl (pl ((Nat.le_refl 0))))))) (by decide), ?_⟩
  rw [em_new]
  obtain ⟨H7, e7⟩ : ∃ H7, H7 = upd H6 e (.ins a.c_Embers dx (emF (.ref ad) 0 0 wt D rp)) := ⟨_, rfl⟩
  rw [← e7]
  have k7 : Kp [e] H6 H7 := e7 ▸ Kp.put (by simp) he6 fun ps z => by cases z
  have t7 : Kt H6 H7 := e7 ▸ Kt.put he6 fun ps z => by cases z
  have her : rp ∉ [e] := by
    have : rp ≠ e := fun z => by rw [z, he5] at nr; cases nr
    simpa using this
  have hr6 : H6 rp = some (.lst []) := by rw [e6]; exact upd_same
  have kA : Kp [e] H H4 := ka.of0.tr (k1.tr (k2.of0.tr (k3.tr k4.of0)))
  have free : ∀ {x Hx}, Kp [e] H Hx → Hx x = none → H x = none := fun {x Hx} k n => by
    cases z : H x with
    | none => rfl
    | some o => exact absurd n (k.tr_ x (by rw [z]; exact fun y => by cases y))
  have kA1 : Kp [e] H H1 := ka.of0.tr k1
  have kA3 : Kp [e] H H3 := kA1.tr (k2.of0.tr k3)
  have kA5 : Kp [e] H H5 := kA.tr k5
  have hw7 := k7.lst hew (k6.lst (by simp) (k5.lst hew (k4.lst (by simp) hw3)))
  have hD7 := k7.lst heD (k6.lst (by simp) (k5.lst heD hD4))
  have hr7 := k7.lst her hr6
  have wD : wt ≠ D := ne_of_none hw3 nD
  have wr : wt ≠ rp := ne_of_none (k5.lst hew (k4.lst (by simp) hw3)) nr
  have Dr : D ≠ rp := ne_of_none (k5.lst heD hD4) nr
  refine q wt D rp H7 (free kA1 nw) (free kA3 nD) (free kA5 nr) ⟨⟨dx, .ref ad, by rw [e7]; exact upd_same, hda.kt (tA3.tr (k4.kt0.tr (t5.tr (k6.kt0.tr t7))))⟩, ⟨_, hw7, .nil⟩, ⟨_, hD7, ?_⟩, ⟨_, hr7, .nil⟩, ⟨wD, wr, Dr⟩, ok, List.length_replicate, fun p z => by cases z⟩ (kA5.tr (k6.of0.tr k7))
  show TuA H7 _ ((List.replicate N.length none).map lightD)
  rw [List.map_replicate]
  exact TuA.rep .non _
def spKindle (C : Addr) : Sp := fun vs H Q _ => ∃ (e w l r : Addr) (s : EmS) (x : Nat), vs = [.ref e, .int x] ∧ Emb C H e w l r s ∧ x < s.N.length ∧ s.W.length < 1000 ∧
  ∀ H', Emb C H' e w l r { s with n := s.n + 1, W := s.W ++ [(s.n, x)] } → Kp [e, w, l, r] H H' → Q (.int s.n) H'
theorem ok_kindle (T : Tx K mg a) : FnOk P w K mg base CX0 4 a.a_Embers_kindle a.f_Embers_kindle ["self", "lamp"] (spKindle a.c_Embers) := by
  have G_need_lamp := ok_need_lamp (P := P) (w := w) (base := base) T
  refine T.F_Embers_kindle.ok sc_Embers_kindle (fun vs H Q E h => ?_) (fun cdv A outer s H vs Q E hr h => ?_)
  · obtain ⟨e, w, l, r, s, x, rfl, _⟩ := h
    rfl
  obtain ⟨e, wp, l, r, st, x, rfl, hE, hx, hW, q⟩ := h
  refine ⟨_, (pss_cons (ps_expr (pe_call G_need_lamp (hr.mono (by decide)) (by rfl) T.need_lamp.g T.need_lamp.F.kp T.need_lamp.b .nil pass0 (pa_cons (pe_fld (pv 0) rfl) (pa_cons (pv 1) pa_nil))))
      (pss_cons (ps_set (i := 2) sc_Embers_kindle.nd rfl (by first | exact .inl rfl | exact .inr rfl) (pe_fld (pv 0) rfl))
      (pss_cons (ps_expr (pe_bm PySem.F.plainAttrs_list PySem.F.slot_list_append PySem.F.type_list_append mt_append (pe_fld (pv 0) rfl) (pa_cons (pe_tup (pa_cons (pv 2) (pa_cons (pv 1) pa_nil))) pa_nil)))
      (pss_cons (ps_fldaug (pv 0) pe_int in_add)
      (pss_one (ps_ret (pv 2))))))), ?_⟩
  obtain ⟨⟨dx, v, h1, h2⟩, ⟨ws, h3, h4⟩, ⟨ls, h5, h6⟩, ⟨rs, h7, h8⟩, nd, ok, ln, wk⟩ := id hE
  -- need_lamp(self._net, lamp)
  refine ⟨.ref e, rfl, e, _, dx, _, _, rfl, h1, T.cl_Embers, T.na_Embers__net, em_net, .int x, rfl, [], v, st.N, x, rfl, h2.dx0, hx, ?_⟩
  -- flame = self._flames
  refine ⟨.ref e, rfl, e, _, dx, _, _, rfl, h1, T.cl_Embers, T.na_Embers__flames, em_flames, ?_⟩
  -- self._waiting.append((flame, lamp))
  refine ⟨.ref e, rfl, e, _, dx, _, _, rfl, h1, T.cl_Embers, T.na_Embers__waiting, em_waiting, .inl ⟨rfl, _, SqL.of h3⟩, ?_⟩
  refine ⟨.int st.n, rfl, .int x, rfl, by show 2 ≤ sizeLine; decide, fun tp ntp => ?_⟩
  have kt : Kp [] H (upd H tp (.tup [.int st.n, .int x])) := Kp.new ntp
  have lw : ws.length < sizeLine := by
    have e1 := h4.len
    rw [List.length_map] at e1
    exact Nat.lt_of_lt_of_le (show ws.length < 1000 by omega) (by decide)
  refine ⟨wp, ws, .ref tp, rfl, rfl, kt.lst (by simp) h3, lw, ?_⟩
  obtain ⟨H1, e1⟩ : ∃ H1, H1 = upd H tp (.tup [.int st.n, .int x]) := ⟨_, rfl⟩
  rw [← e1] at kt ⊢
  have htp : H1 tp = some (.tup [.int st.n, .int x]) := by rw [e1]; exact upd_same
  have hw1 := kt.lst (by simp) h3
  obtain ⟨H2, e2⟩ : ∃ H2, H2 = upd H1 wp (.lst (ws ++ [.ref tp])) := ⟨_, rfl⟩
  rw [← e2]
  have k2 : Kp [wp] H1 H2 := e2 ▸ Kp.put (by simp) hw1 fun ps z => by cases z
  have t2 : Kt H1 H2 := e2 ▸ Kt.put hw1 fun ps z => by cases z
  have ew : e ∉ [wp] := by
    have : e ≠ wp := ne_of h1 h3 fun z => by cases z
    simpa using this
  have he2 := k2.ins ew (kt.ins (by simp) h1)
  -- self._flames += 1
  refine ⟨.ref e, rfl, e, _, dx, _, _, rfl, he2, T.cl_Embers, T.na_Embers__flames, em_flames, _, _, rfl, rfl, dx, _, he2, by show 6 < 1000; decide, ?_⟩
  rw [em_putFlames]
  obtain ⟨H3, e3⟩ : ∃ H3, H3 = upd H2 e (.ins a.c_Embers dx (emF v st.b (st.n + 1) wp l r)) := ⟨_, rfl⟩
  rw [← e3]
  have k3 : Kp [e] H2 H3 := e3 ▸ Kp.put (by simp) he2 fun ps z => by cases z
  have t3 : Kt H2 H3 := e3 ▸ Kt.put he2 fun ps z => by cases z
  have tt : Kt H H3 := kt.kt0.tr (t2.tr t3)
  have we : wp ∉ [e] := by
    have : e ≠ wp := ne_of h1 h3 fun z => by cases z
    simpa using this.symm
  have le : l ∉ [e] := by
    have : e ≠ l := ne_of h1 h5 fun z => by cases z
    simpa using this.symm
  have re : r ∉ [e] := by
    have : e ≠ r := ne_of h1 h7 fun z => by cases z
    simpa using this.symm
  have hl3 := k3.lst le (k2.lst (by simpa using nd.1.symm) (kt.lst (by simp) h5))
  have hr3 := k3.lst re (k2.lst (by simpa using nd.2.1.symm) (kt.lst (by simp) h7))
  refine ⟨.int st.n, rfl, q H3 ⟨⟨dx, v, by rw [e3]; exact upd_same, h2.kt tt⟩, ⟨_, k3.lst we (by rw [e2]; exact upd_same), ?_⟩, ⟨_, hl3, h6.kt tt⟩, ⟨_, hr3, h8.kt tt⟩, nd, ok, ln, fun p hp => ?_⟩ ?_⟩
  · show TuA H3 _ ((st.W ++ [(st.n, x)]).map waitD)
    rw [List.map_append]
    exact (h4.kt tt).app (.cons (.tup ((t2.tr t3) _ _ htp) (.cons (.int _) (.cons (.int _) .nil))) .nil)
  · rcases List.mem_append.mp hp with z | z
    · exact wk p z
    · rw [List.mem_singleton.mp z]; exact hx
  · refine kt.of0.tr ((k2.wk fun x z => ?_).tr (k3.wk fun x z => ?_))
    · simp only [List.mem_cons, List.not_mem_nil, or_false] at z ⊢; exact .inr (.inl z)
    · simp only [List.mem_cons, List.not_mem_nil, or_false] at z ⊢; exact .inl z
/-- _darken(comers): what is over goes dark -/
def spDark (C : Addr) : Sp := fun vs H Q _ => ∃ (e w l r c : Addr) (ps : List Addr) (css : List (List Nat)) (s : EmS), vs = [.ref e, .ref c] ∧ Emb C H e w l r s ∧ Bag H c ps css ∧ (∀ x ∈ c :: ps, x ∉ [e, w, l, r]) ∧ css.length = s.N.length ∧ tot css ≤ 1000 ∧
  ∀ p xs H', H p = none → H' p = some (.lst xs) → TuA H' xs ((darkN s.N s.b s.N.length ⟨s.L, css, []⟩).rows.map rowD) → Emb C H' e w l r { s with L := (darkN s.N s.b s.N.length ⟨s.L, css, []⟩).L } → Bag H' c ps (darkN s.N s.b s.N.length ⟨s.L, css, []⟩).css → Kp (l :: ps) H H' → Q (.ref p) H'
theorem ok_darken (T : Tx K mg a) : FnOk P w K mg base CX0 1 a.a_Embers__darken a.f_Embers__darken ["self", "comers"] (spDark a.c_Embers) := by
  refine T.F_Embers__darken.ok sc_Embers__darken (fun vs H Q E h => ?_) (fun cdv A outer s H vs Q E hr h => ?_)
  · obtain ⟨e, w, l, r, c, ps, css, s, rfl, _⟩ := h
    rfl
  obtain ⟨e, wp, l, r, c, ps, css, st, rfl, hE, hB, hdj, hcl, htt, q⟩ := h
  refine ⟨_, (pss_cons (ps_set (i := 2) sc_Embers__darken.nd rfl (by first | exact .inl rfl | exact .inr rfl) (pe_lst pa_nil))
      (pss_cons (ps_for PassesOwn.never rfl (pi_enumT (by rfl) T.n_enumerate (pa_cons (pe_fld (pv 0) rfl) pa_nil)) (pg_tup (by rfl) (pgs_cons (pg_name (i := 3) sc_Embers__darken.nd rfl (by first | exact .inl rfl | exact .inr rfl)) (pgs_cons (pg_tup (by rfl) (pgs_cons (pg_name (i := 4) sc_Embers__darken.nd rfl (by first | exact .inl rfl | exact .inr rfl)) (pgs_cons (pg_name (i := 5) sc_Embers__darken.nd rfl (by first | exact .inl rfl | exact .inr rfl)) pgs_nil))) pgs_nil))) (pss_cons (ps_set (i := 6) sc_Embers__darken.nd rfl (by first | exact .inl rfl | exact .inr rfl) (pe_ix ix_list (pe_fld (pv 0) rfl) (pv 3) (fun _ _ => rfl)))
      (pss_cons (ps_if (PW.pt (pw_or (pt_cmpR op_isN (pv 6) pe_non (nomark _)) (pw_or1 (pt_cmpR op_gt (pe_op op_add (pe_ix ix_tup (pv 6) pe_int (fun _ _ => rfl)) (pv 4)) (pe_fld (pv 0) rfl) (nomark _))))) (pss_one ps_continue) pss_nil)
      (pss_cons (ps_asg pe_non (pg_sub (pe_fld (pv 0) rfl) (pv 3) set_list))
      (pss_one (ps_if (pt_cmpR op_isN (pv 5) pe_non (nomark _)) (pss_one (ps_expr (pe_bm PySem.F.plainAttrs_list PySem.F.slot_list_append PySem.F.type_list_append mt_append (pv 2) (pa_cons (pe_tup (pa_cons pe_str (pa_cons (pe_fld (pv 0) rfl) (pa_cons (pv 3) (pa_cons (pe_ix ix_tup (pv 6) pe_int (fun _ _ => rfl)) pa_nil))))) pa_nil)))) (pss_one (ps_expr (pe_bm PySem.F.plainAttrs_list PySem.F.slot_list_append PySem.F.type_list_append mt_append (pe_ix ix_list (pv 1) (pv 5) (fun _ _ => rfl)) (pa_cons (pe_ix ix_tup (pv 6) pe_int (fun _ _ => rfl)) pa_nil))))))))))
      (pss_one (ps_ret (pv 2))))), ?_⟩
  have h12 := hE.ok.hi
  have ok := hE.ok
  -- ended = []
  refine ⟨Nat.zero_le _, fun p np => ?_⟩
  obtain ⟨H1, e1⟩ : ∃ H1, H1 = upd H p (.lst []) := ⟨_, rfl⟩
  rw [← e1]
  have k1 : Kp [] H H1 := e1 ▸ Kp.new np
  have hp1 : H1 p = some (.lst []) := by rw [e1]; exact upd_same
  have hE1 : Emb a.c_Embers H1 e wp l r st := hE.kp k1 k1.kt0 fun _ _ => by simp
  have hB1 : Bag H1 c ps css := hB.kp k1 fun _ _ => by simp
  have pE : ∀ x ∈ [e, wp, l, r], x ≠ p := fun x hx z => hE.tr x hx (z ▸ np)
  have pB : ∀ x ∈ c :: ps, x ≠ p := fun x hx z => hB.tr x hx (z ▸ np)
  obtain ⟨⟨dx0, v, h1, h2⟩, _⟩ := id hE1
  obtain ⟨ad, xs, rfl, hx1, hl1, _⟩ := tnet_at h2
  have d0 : ∀ i, (darkN st.N st.b i ⟨st.L, css, []⟩).L.length = st.N.length ∧ (darkN st.N st.b i ⟨st.L, css, []⟩).css.length = st.N.length ∧ (darkN st.N st.b i ⟨st.L, css, []⟩).rows.length + tot (darkN st.N st.b i ⟨st.L, css, []⟩).css ≤ 1000 + i := fun i => by
    obtain ⟨a1, a2, a3⟩ := darkN_len st.N st.b ⟨st.L, css, []⟩ i
    refine ⟨a1.trans hE.ln, a2.trans hcl, Nat.le_trans a3 ?_⟩
    show 0 + tot css + i ≤ _
    omega
  -- for lamp, (length, onward) in enumerate(self._net)
  refine ⟨.ref e, rfl, e, _, dx0, _, _, rfl, h1, T.cl_Embers, T.na_Embers__net, em_net, ad, xs, rfl, SqT.of hx1,
    for_it (walk_enumT (K := K) (a := ad) (xs := xs)) (fun i σ H' => ∃ (o3 o4 o5 o6 : Option V) (rs : List V), σ = [some (.ref e), some (.ref c), some (.ref p), o3, o4, o5, o6] ∧ H' p = some (.lst rs) ∧ TuA H' rs ((darkN st.N st.b i ⟨st.L, css, []⟩).rows.map rowD) ∧
      Emb a.c_Embers H' e wp l r { st with L := (darkN st.N st.b i ⟨st.L, css, []⟩).L } ∧ Bag H' c ps (darkN st.N st.b i ⟨st.L, css, []⟩).css ∧ Kp (p :: l :: ps) H1 H' ∧ Kt H1 H') ⟨none, none, none, none, [], rfl, hp1, .nil, hE1, hB1, .rfl', .rfl'⟩ (fun i σ H' _ hP => ?_) (fun i x σ H2 H3 hi hP hy => ?_) (fun σ H2 hP => ?_)⟩
  · obtain ⟨_, _, _, _, _, _, _, _, _, _, _, t⟩ := hP
    exact SqT.of (t _ _ hx1)
  · obtain ⟨o3, o4, o5, o6, rs, rfl, hp2, tr2, hE2, hB2, k2, t2⟩ := hP
    obtain ⟨T1, x1, y1, rfl, nT, rfl, ex, ey⟩ := hy
    cases ex
    have ey : xs[i]? = some y1 := ey
    rw [hl1] at hi
    obtain ⟨d, hd⟩ : ∃ d, d = darkN st.N st.b i ⟨st.L, css, []⟩ := ⟨_, rfl⟩
    have hds : darkN st.N st.b (i + 1) ⟨st.L, css, []⟩ = darkK st.N st.b i d := by rw [hd]; rfl
    obtain ⟨dl, dc, dt⟩ := d0 i
    rw [hds]
    rw [← hd] at tr2 hE2 hB2 dl dc dt
    obtain ⟨pr, hpr⟩ : ∃ pr, st.N[i]? = some pr := ⟨st.N[i], List.getElem?_eq_getElem hi⟩
    have tT : Kt H2 (upd H2 T1 (.tup [.int (i : Nat), y1])) := Kt.new nT
    have kT : Kp [] H2 (upd H2 T1 (.tup [.int (i : Nat), y1])) := Kp.new nT
    obtain ⟨H3, e3⟩ : ∃ H3, H3 = upd H2 T1 (.tup [.int (i : Nat), y1]) := ⟨_, rfl⟩
    have hT3 : H3 T1 = some (.tup [.int (i : Nat), y1]) := by rw [e3]; exact upd_same
    rw [← e3] at tT kT ⊢
    have tA : Kt H1 H3 := t2.tr tT
    obtain ⟨ad2, xs2, ea, hx3, _, hat3⟩ := tnet_at (h2.kt tA)
    cases ea
    have exs : xs2 = xs := by
      have := tA _ _ hx1
      rw [hx3] at this
      cases this
      rfl
    subst exs
    obtain ⟨la, hla, hlp⟩ := hat3 i pr hpr
    rw [ey] at hla
    cases hla
    have hE3 : Emb a.c_Embers H3 e wp l r { st with L := d.L } := hE2.kp kT tT fun _ _ => by simp
    have hB3 : Bag H3 c ps d.css := hB2.kp kT fun _ _ => by simp
    have hp3 := kT.lst (by simp) hp2
    have tr3 := tr2.kt tT
    obtain ⟨⟨dx, v3, q1, q2⟩, _, ⟨ls, q3, q4⟩, _, nd, _⟩ := id hE3
    have q3' : H3 l = some (.lst ls) := q3
    have lls : ls.length = st.N.length := by
      have := q4.len
      rw [List.length_map] at this
      exact this.trans dl
    refine ⟨T1, _, rfl, SqT.of hT3, rfl, _, _, rfl, _, _, rfl, la, _, rfl, SqT.of hlp, rfl, _, _, rfl, _, _, rfl, rfl, rfl, ?_⟩
    -- light = self._lights[lamp]
    obtain ⟨x, hx⟩ : ∃ x, d.L[i]? = some x := ⟨d.L[i]'(by omega), List.getElem?_eq_getElem _⟩
    have hxg := getD_some hx
    obtain ⟨lv, hlv, tlv⟩ := q4.get' (i := i) (d := lightD x) (by rw [List.getElem?_map, hx]; rfl)
    refine ⟨.ref e, rfl, e, _, dx, _, _, rfl, q1, T.cl_Embers, T.na_Embers__lights, em_lights, .int i, rfl, l, ls, i, lv, rfl, rfl, SqL.of q3', atI_nat hlv, ?_⟩
    have k3 : Kp (p :: l :: ps) H1 H3 := k2.tr kT.of0
    rcases light_at tlv with ⟨rfl, rfl⟩ | ⟨f, t, lt, rfl, rfl, hlt⟩
    · refine ⟨.non, rfl, rfl, _, rfl, ?_⟩
      rw [decide_eq_true (Eq.refl V.non)]
      refine iteT ?_
      refine iteT ?_
      have e5 : darkK st.N st.b i d = d := by unfold darkK; rw [hxg]
      rw [e5]
      exact ⟨_, _, _, _, rs, rfl, hp3, tr3, hE3, hB3, k3, tA⟩
    · refine ⟨.ref lt, rfl, rfl, _, rfl, iteF ⟨.ref lt, rfl, lt, _, 1, .int (t : Nat), rfl, rfl, SqT.of hlt, atI_nat (j := 1) rfl, .int pr.1, rfl, _, _, rfl, rfl, .ref e, rfl, e, _, dx, _, _, rfl, q1, T.cl_Embers, T.na_Embers__beat, em_beat, _, _, rfl, rfl, _, rfl, ?_⟩⟩
      have eb : burnOf st.N i = pr.1 := burnOf_get hpr
      by_cases hst : (st.b : Int) < (t : Int) + pr.1
      · rw [decide_eq_true (show (t : Int) + pr.1 > (st.b : Int) from hst)]
        refine iteT ?_
        have e5 : darkK st.N st.b i d = d := by unfold darkK; rw [hxg]; show (if _ then _ else _) = _; rw [eb, if_pos hst]
        rw [e5]
        exact ⟨_, _, _, _, rs, rfl, hp3, tr3, hE3, hB3, k3, tA⟩
      · rw [decide_eq_false (show ¬ (t : Int) + pr.1 > (st.b : Int) from hst)]
        refine iteF ?_
        -- self._lights[lamp] = None
        refine ⟨.ref e, rfl, e, _, dx, _, _, rfl, q1, T.cl_Embers, T.na_Embers__lights, em_lights, .int i, rfl, l, ls, i, i, rfl, rfl, q3', Evl.ixN_nat (by omega), ?_⟩
        obtain ⟨H4, e4⟩ : ∃ H4, H4 = upd H3 l (.lst (ls.set i .non)) := ⟨_, rfl⟩
        rw [← e4]
        have k4 : Kp [l] H3 H4 := e4 ▸ Kp.put (by simp) q3' fun ps z => by cases z
        have t4 : Kt H3 H4 := e4 ▸ Kt.put q3' fun ps z => by cases z
        have hl4 : H4 l = some (.lst (ls.set i .non)) := by rw [e4]; exact upd_same
        have lne : ∀ x ∈ [e, wp, r], x ∉ [l] := fun x hx => by
          obtain ⟨_, ⟨w1, hw1, _⟩, _, ⟨r1, hr1, _⟩, _⟩ := id hE3
          have z1 : e ≠ l := ne_of q1 q3' fun z => by cases z
          simp only [List.mem_cons, List.not_mem_nil, or_false] at hx ⊢
          rcases hx with rfl | rfl | rfl
          · exact z1
          · exact nd.1
          · exact nd.2.2.symm
        have q14 := k4.ins (lne e (by simp)) q1
        have hE4 : Emb a.c_Embers H4 e wp l r { st with L := d.L.set i none } := by
          obtain ⟨⟨dx', v', a1, a2⟩, ⟨ws, a3, a4⟩, _, ⟨rs', a7, a8⟩, b1, b2, b3, b4⟩ := id hE3
          refine ⟨⟨dx', v', k4.ins (lne e (by simp)) a1, a2.kt t4⟩, ⟨ws, k4.lst (lne wp (by simp)) a3, a4.kt t4⟩, ⟨_, hl4, ?_⟩, ⟨rs', k4.lst (lne r (by simp)) a7, a8.kt t4⟩, b1, b2, by show (d.L.set i none).length = _; rw [List.length_set]; exact dl, b4⟩
          show TuA H4 _ ((d.L.set i none).map lightD)
          rw [List.map_set]
          exact (q4.kt t4).set .non i
        have dj : ∀ x ∈ c :: ps, x ∉ [l] := fun x hx z => hdj x hx (by rw [List.mem_singleton.mp z]; simp)
        have hB4 : Bag H4 c ps d.css := hB3.kp k4 dj
        have hpl : p ∉ [l] := by
          have := pE l (by simp)
          simpa using this.symm
        have hp4 := k4.lst hpl hp3
        have hlt4 := t4 _ _ hlt
        have tr4 := tr3.kt t4
        have k04 : Kp (p :: l :: ps) H1 H4 := k3.tr (k4.wk fun x z => by simp only [List.mem_cons, List.not_mem_nil, or_false] at z ⊢; exact .inr (.inl z))
        have tA4 := tA.tr t4
        -- if onward is None
        rcases z : pr.2 with _ | y
        · refine ⟨.non, rfl, rfl, _, rfl, iteT ?_⟩
          -- ended.append(("ended", self._beat, lamp, light[0]))
          refine ⟨.ref p, rfl, .inl ⟨rfl, _, SqL.of hp4⟩, .ref e, rfl, e, _, dx, _, _, rfl, q14, T.cl_Embers, T.na_Embers__beat, em_beat, .int i, rfl, .ref lt, rfl, lt, _, 0, .int (f : Nat), rfl, rfl, SqT.of hlt4, atI_nat (j := 0) rfl, by show 4 ≤ sizeLine; decide, fun tp ntp => ?_⟩
          have k5 : Kp [] H4 (upd H4 tp (.tup [.str "ended", .int st.b, .int i, .int f])) := Kp.new ntp
          have lrs : rs.length < sizeLine := by
            have := tr2.len
            rw [List.length_map] at this
            exact Nat.lt_of_lt_of_le (show rs.length < 2000 by omega) (by decide)
          refine ⟨p, rs, .ref tp, rfl, rfl, k5.lst (by simp) hp4, lrs, ?_⟩
          obtain ⟨H5, e5⟩ : ∃ H5, H5 = upd H4 tp (.tup [.str "ended", .int st.b, .int i, .int f]) := ⟨_, rfl⟩
          rw [← e5] at k5 ⊢
          have htp5 : H5 tp = some (.tup [.str "ended", .int st.b, .int i, .int f]) := by rw [e5]; exact upd_same
          have hp5 := k5.lst (by simp) hp4
          obtain ⟨H6, e6⟩ : ∃ H6, H6 = upd H5 p (.lst (rs ++ [.ref tp])) := ⟨_, rfl⟩
          rw [← e6]
          have k6 : Kp [p] H5 H6 := e6 ▸ Kp.put (by simp) hp5 fun ps z => by cases z
          have t6 : Kt H5 H6 := e6 ▸ Kt.put hp5 fun ps z => by cases z
          have ed : darkK st.N st.b i d = ⟨d.L.set i none, d.css, d.rows ++ [Row.ended st.b i f]⟩ := by
            unfold darkK
            rw [hxg]
            show (if _ then _ else _) = _
            rw [eb, if_neg hst, nxt_get hpr, z]
          rw [ed]
          have t56 := k5.kt0.tr t6
          refine ⟨_, _, _, _, rs ++ [.ref tp], rfl, by rw [e6]; exact upd_same, ?_, (hE4.kp k5 k5.kt0 fun _ _ => by simp).kp k6 t6 fun x hx => by simpa using pE x hx, (hB4.kp k5 fun _ _ => by simp).kp k6 fun x hx => by simpa using pB x hx, k04.tr (k5.of0.tr (k6.wk fun x z => by simp only [List.mem_cons, List.not_mem_nil, or_false] at z ⊢; exact .inl z)), tA4.tr t56⟩
          show TuA H6 _ ((d.rows ++ [Row.ended st.b i f]).map rowD)
          rw [List.map_append]
          exact (tr4.kt t56).app (.cons (.tup (t6 _ _ htp5) (.cons (.str _) (.cons (.int _) (.cons (.int _) (.cons (.int _) .nil))))) .nil)
        · have hyN : y < st.N.length := ok.nx pr (List.mem_of_getElem? hpr) y z
          refine ⟨.int y, rfl, rfl, _, rfl, iteF ?_⟩
          -- comers[onward].append(light[0])
          obtain ⟨pp, g, hg, hpp, hppv, hHp, hpm⟩ := hB4.get (i := y) (by omega)
          refine ⟨.ref c, rfl, .int y, rfl, c, _, y, .ref pp, rfl, rfl, SqL.of hB4.top, atI_nat hppv, .inl ⟨rfl, _, SqL.of hHp⟩, .ref lt, rfl, lt, _, 0, .int (f : Nat), rfl, rfl, SqT.of hlt4, atI_nat (j := 0) rfl, pp, natV g, .int (f : Nat), rfl, rfl, hHp, ?_, ?_⟩
          · have := tot_mem (List.mem_of_getElem? hg)
            rw [natV_len]
            exact Nat.lt_of_lt_of_le (show g.length < 2000 by omega) (by decide)
          rw [← natV_app]
          obtain ⟨H5, e5⟩ : ∃ H5, H5 = upd H4 pp (.lst (natV (g ++ [f]))) := ⟨_, rfl⟩
          rw [← e5]
          have k5 : Kp [pp] H4 H5 := e5 ▸ Kp.put (by simp) hHp fun ps z => by cases z
          have t5 : Kt H4 H5 := e5 ▸ Kt.put hHp fun ps z => by cases z
          have hB5 : Bag H5 c ps (d.css.set y (g ++ [f])) := e5 ▸ hB4.put hpp (g ++ [f])
          have ed : darkK st.N st.b i d = ⟨d.L.set i none, d.css.set y (g ++ [f]), d.rows⟩ := by
            unfold darkK
            rw [hxg]
            show (if _ then _ else _) = _
            rw [eb, if_neg hst, nxt_get hpr, z]
            show (⟨_, d.css.set y (d.css.getD y [] ++ [f]), _⟩ : Dk) = _
            rw [getD_css hg]
          rw [ed]
          have hppE : ∀ x ∈ [e, wp, l, r], x ∉ [pp] := fun x hx z => by
            obtain rfl : x = pp := by simpa using z
            exact hdj x (List.mem_cons_of_mem _ hpm) hx
          refine ⟨_, _, _, _, rs, rfl, k5.lst (by have := pB pp (List.mem_cons_of_mem _ hpm); simpa using this.symm) hp4, tr4.kt t5, hE4.kp k5 t5 hppE, hB5, k04.tr (k5.wk fun x z => ?_), tA4.tr t5⟩
          obtain rfl : x = pp := by simpa using z
          exact List.mem_cons_of_mem _ (List.mem_cons_of_mem _ hpm)
  · obtain ⟨o3, o4, o5, o6, rs, rfl, hp2, tr2, hE2, hB2, k2, t2⟩ := hP
    rw [hl1] at tr2 hE2 hB2
    exact ⟨.ref p, rfl, q p rs H2 np hp2 tr2 hE2 hB2 (Kp.drop np (k1.of0.tr k2))⟩
theorem set_same {L : List Lt} {k : Nat} {x : Lt} (h : L[k]? = some x) : L.set k x = L := by
  obtain ⟨hk, rfl⟩ := List.getElem?_eq_some_iff.mp h
  exact List.set_getElem_self hk
def keeper : Lt → Nat
  | none => 0
  | some (g, _) => g
def spMeet (C : Addr) : Sp := fun vs H Q _ => ∃ (e w l r : Addr) (s : EmS) (k : Nat) (q : Addr) (fs : List Nat), vs = [.ref e, .int k, .ref q] ∧ Emb C H e w l r s ∧ k < s.N.length ∧ H q = some (.lst (natV fs)) ∧ fs.length < 2000 ∧ q ∉ [l] ∧
  ∀ p xs H', H p = none → H' p = some (.lst xs) → TuA H' xs ((meet s.b k (s.L.getD k none) fs).2.map rowD) → Emb C H' e w l r { s with L := s.L.set k (meet s.b k (s.L.getD k none) fs).1 } → Kp [l] H H' → Q (.ref p) H'
theorem ok_meet (T : Tx K mg a) : FnOk P w K mg base CX0 1 a.a_Embers__meet a.f_Embers__meet ["self", "lamp", "flames"] (spMeet a.c_Embers) := by
  refine T.F_Embers__meet.ok sc_Embers__meet (fun vs H Q E h => ?_) (fun cdv A outer s H vs Q E hr h => ?_)
  · obtain ⟨e, w, l, r, s, k, q, fs, rfl, _⟩ := h
    rfl
  obtain ⟨e, wp, l, r, st, k, fq, fs, rfl, hE, hk, hfq, hfl, hfq2, q⟩ := h
  refine ⟨_, (pss_cons (ps_set (i := 3) sc_Embers__meet.nd rfl (by first | exact .inl rfl | exact .inr rfl) (pe_lst pa_nil))
      (pss_cons (ps_set (i := 4) sc_Embers__meet.nd rfl (by first | exact .inl rfl | exact .inr rfl) (pv 2))
      (C8.pss_cut (ps_if (PW.pt (pw_and (pt_truth (pv 2) (by intro _; rfl)) (pw_and1 (pt_cmpR op_isN (pe_ix ix_list (pe_fld (pv 0) rfl) (pv 1) (fun _ _ => rfl)) pe_non (nomark _))))) (pss_cons (ps_asg (pe_tup (pa_cons (pe_ix ix_list (pv 2) pe_int (fun _ _ => rfl)) (pa_cons (pe_fld (pv 0) rfl) pa_nil))) (pg_sub (pe_fld (pv 0) rfl) (pv 1) set_list))
      (pss_cons (ps_expr (pe_bm PySem.F.plainAttrs_list PySem.F.slot_list_append PySem.F.type_list_append mt_append (pv 3) (pa_cons (pe_tup (pa_cons pe_str (pa_cons (pe_fld (pv 0) rfl) (pa_cons (pv 1) (pa_cons (pe_ix ix_list (pv 2) pe_int (fun _ _ => rfl)) pa_nil))))) pa_nil)))
      (pss_one (ps_set (i := 4) sc_Embers__meet.nd rfl (by first | exact .inl rfl | exact .inr rfl) (pe_slice sl_list (pv 2) (po_some pe_int) po_none))))) pss_nil)
      (pss_cons (ps_for PassesOwn.never rfl (pi_list (pv 4)) (pg_name (i := 5) sc_Embers__meet.nd rfl (by first | exact .inl rfl | exact .inr rfl)) (pss_one (ps_expr (pe_bm PySem.F.plainAttrs_list PySem.F.slot_list_append PySem.F.type_list_append mt_append (pv 3) (pa_cons (pe_tup (pa_cons pe_str (pa_cons (pe_fld (pv 0) rfl) (pa_cons (pv 1) (pa_cons (pv 5) (pa_cons (pe_ix ix_tup (pe_ix ix_list (pe_fld (pv 0) rfl) (pv 1) (fun _ _ => rfl)) pe_int (fun _ _ => rfl)) pa_nil)))))) pa_nil)))))
      (pss_one (ps_ret (pv 3))))))), ?_⟩
  -- rows = [], lost = flames
  refine ⟨Nat.zero_le _, fun p np => ⟨.ref fq, rfl, ?_⟩⟩
  obtain ⟨H1, e1⟩ : ∃ H1, H1 = upd H p (.lst []) := ⟨_, rfl⟩
  rw [← e1]
  have k1 : Kp [] H H1 := e1 ▸ Kp.new np
  have hp1 : H1 p = some (.lst []) := by rw [e1]; exact upd_same
  have hE1 : Emb a.c_Embers H1 e wp l r st := hE.kp k1 k1.kt0 fun _ _ => by simp
  have hq1 := k1.lst (by simp) hfq
  have pE : ∀ x ∈ [e, wp, l, r], x ≠ p := fun x hx z => hE.tr x hx (z ▸ np)
  have qp : fq ≠ p := ne_of_none hfq np
  have hkL : k < st.L.length := by rw [hE.ln]; exact hk
  obtain ⟨x, hx⟩ : ∃ x, st.L[k]? = some x := ⟨st.L[k], List.getElem?_eq_getElem hkL⟩
  have hxg := getD_some hx
  rw [hxg] at q
  have same : (meet st.b k x fs).1 = x → st.L.set k x = st.L := fun _ => set_same hx
  obtain ⟨⟨dx, v, q1, q2⟩, _, ⟨ls, q3, q4⟩, _, nd, _⟩ := id hE1
  obtain ⟨Mid, hMid⟩ : ∃ Mid : L2.St → Hp → Prop, Mid = fun σ' H' => ∃ (q2 : Addr) (gs : List Nat) (xs0 : List V) (R0 : List Em.Row) (y : Lt), σ' = [some (.ref e), some (.int k), some (.ref fq), some (.ref p), some (.ref q2), none] ∧ H' q2 = some (.lst (natV gs)) ∧ gs.length < 2000 ∧ R0.length ≤ 1 ∧
      H' p = some (.lst xs0) ∧ TuA H' xs0 (R0.map rowD) ∧ Emb a.c_Embers H' e wp l r { st with L := st.L.set k y } ∧ q2 ≠ p ∧ (gs = [] ∨ ∃ g t, y = some (g, t)) ∧ y = (meet st.b k x fs).1 ∧ R0 ++ gs.map (fun f => Row.lost st.b k f (keeper y)) = (meet st.b k x fs).2 ∧ Kp [l] H H' := ⟨_, rfl⟩
  refine ⟨Mid, ?_, fun σ' H2 hM => ?_⟩
  · have hE1' : Emb a.c_Embers H1 e wp l r { st with L := st.L.set k x } := by rw [set_same hx]; exact hE1
    cases fs with
    | nil =>
      refine ⟨.ref fq, rfl, _, .inl ⟨_, SqL.of hq1, rfl⟩, ?_⟩
      refine iteF ?_
      refine iteF ?_
      show Mid _ _
      rw [hMid]
      have em : meet st.b k x [] = (x, []) := by
        rcases x with _ | ⟨g, t⟩ <;> rfl
      exact ⟨fq, [], [], [], x, rfl, hq1, by decide, by decide, hp1, .nil, hE1', qp, .inl rfl, by rw [em], by rw [em]; rfl, k1.of0⟩
    | cons f rr =>
      refine ⟨.ref fq, rfl, _, .inl ⟨_, SqL.of hq1, rfl⟩, ?_⟩
      refine iteT ?_
      obtain ⟨lv, hlv, tlv⟩ := q4.get' (i := k) (d := lightD x) (by rw [List.getElem?_map, hx]; rfl)
      refine ⟨.ref e, rfl, e, _, dx, _, _, rfl, q1, T.cl_Embers, T.na_Embers__lights, em_lights, .int k, rfl, l, ls, k, lv, rfl, rfl, SqL.of q3, atI_nat hlv, rfl, _, rfl, ?_⟩
      rcases light_at tlv with ⟨rfl, rfl⟩ | ⟨g, t, lt, rfl, rfl, hlt⟩
      · refine iteT ?_
        -- self._lights[lamp] = (flames[0], self._beat)
        refine ⟨.ref fq, rfl, fq, _, 0, .int (f : Nat), rfl, rfl, SqL.of hq1, atI_nat (j := 0) rfl, .ref e, rfl, e, _, dx, _, _, rfl, q1, T.cl_Embers, T.na_Embers__beat, em_beat, by show 2 ≤ sizeLine; decide, fun tp ntp => ?_⟩
        have k2 : Kp [] H1 (upd H1 tp (.tup [.int (f : Nat), .int st.b])) := Kp.new ntp
        refine ⟨.ref e, rfl, e, _, dx, _, _, rfl, k2.ins (by simp) q1, T.cl_Embers, T.na_Embers__lights, em_lights, .int k, rfl, l, ls, k, k, rfl, rfl, k2.lst (by simp) q3, Evl.ixN_nat (by
          have := q4.len
          rw [List.length_map] at this
          omega), ?_⟩
        obtain ⟨H2, e2⟩ : ∃ H2, H2 = upd H1 tp (.tup [.int (f : Nat), .int st.b]) := ⟨_, rfl⟩
        rw [← e2] at k2 ⊢
        have htp2 : H2 tp = some (.tup [.int (f : Nat), .int st.b]) := by rw [e2]; exact upd_same
        have ql2 := k2.lst (by simp) q3
        obtain ⟨H3, e3⟩ : ∃ H3, H3 = upd H2 l (.lst (ls.set k (.ref tp))) := ⟨_, rfl⟩
        rw [← e3]
        have k3 : Kp [l] H2 H3 := e3 ▸ Kp.put (by simp) ql2 fun ps z => by cases z
        have t3 : Kt H2 H3 := e3 ▸ Kt.put ql2 fun ps z => by cases z
        have lne : ∀ x ∈ [e, wp, r], x ∉ [l] := fun x hx => by
          obtain ⟨_, ⟨w1, hw1, _⟩, _, ⟨r1, hr1, _⟩, _⟩ := id hE1
          have z1 : e ≠ l := ne_of q1 q3 fun z => by cases z
          simp only [List.mem_cons, List.not_mem_nil, or_false] at hx ⊢
          rcases hx with rfl | rfl | rfl
          · exact z1
          · exact nd.1
          · exact nd.2.2.symm
        have hE3 : Emb a.c_Embers H3 e wp l r { st with L := st.L.set k (some (f, st.b)) } := by
          obtain ⟨⟨dx', v', a1, a2⟩, ⟨ws, a3, a4⟩, _, ⟨rs', a7, a8⟩, b1, b2, b3, b4⟩ := hE1.kp k2 k2.kt0 fun _ _ => by simp
          refine ⟨⟨dx', v', k3.ins (lne e (by simp)) a1, a2.kt t3⟩, ⟨ws, k3.lst (lne wp (by simp)) a3, a4.kt t3⟩, ⟨_, by rw [e3]; exact upd_same, ?_⟩, ⟨rs', k3.lst (lne r (by simp)) a7, a8.kt t3⟩, b1, b2, by show (st.L.set k _).length = _; rw [List.length_set]; exact hE.ln, b4⟩
          show TuA H3 _ ((st.L.set k _).map lightD)
          rw [List.map_set]
          exact (q4.kt (k2.kt0.tr t3)).set (.tup (t3 _ _ htp2) (.cons (.int _) (.cons (.int _) .nil))) k
        obtain ⟨⟨dx3, v3, q13, _⟩, _⟩ := id hE3
        have hpl : p ∉ [l] := by simpa using (pE l (by simp)).symm
        have hp3 := k3.lst hpl (k2.lst (by simp) hp1)
        have hq3 := k3.lst hfq2 (k2.lst (by simp) hq1)
        -- rows.append(("lit", self._beat, lamp, flames[0]))
        refine ⟨.ref p, rfl, .inl ⟨rfl, _, SqL.of hp3⟩, .ref e, rfl, e, _, dx3, _, _, rfl, q13, T.cl_Embers, T.na_Embers__beat, em_beat, .int k, rfl, .ref fq, rfl, fq, _, 0, .int (f : Nat), rfl, rfl, SqL.of hq3, atI_nat (j := 0) rfl, by show 4 ≤ sizeLine; decide, fun t4 nt4 => ?_⟩
        have k4 : Kp [] H3 (upd H3 t4 (.tup [.str "lit", .int st.b, .int k, .int f])) := Kp.new nt4
        refine ⟨p, [], .ref t4, rfl, rfl, k4.lst (by simp) hp3, by decide, ?_⟩
        obtain ⟨H4, e4⟩ : ∃ H4, H4 = upd H3 t4 (.tup [.str "lit", .int st.b, .int k, .int f]) := ⟨_, rfl⟩
        rw [← e4] at k4 ⊢
        have ht4 : H4 t4 = some (.tup [.str "lit", .int st.b, .int k, .int f]) := by rw [e4]; exact upd_same
        have hp4 := k4.lst (by simp) hp3
        obtain ⟨H5, e5⟩ : ∃ H5, H5 = upd H4 p (.lst ([] ++ [.ref t4])) := ⟨_, rfl⟩
        rw [← e5]
        have k5 : Kp [p] H4 H5 := e5 ▸ Kp.put (by simp) hp4 fun ps z => by cases z
        have t5 : Kt H4 H5 := e5 ▸ Kt.put hp4 fun ps z => by cases z
        have hq5 := k5.lst (by simpa using qp) (k4.lst (by simp) hq3)
        -- lost = flames[1:]
        refine ⟨.ref fq, rfl, _, rfl, fq, _, rfl, SqL.of hq5, fun q6 nq6 => ?_⟩
        have ecut : cutV (natV (f :: rr)) (some 1) none = natV rr := natV_cut1 (i := 1) (g := f :: rr) (by simp)
        rw [ecut]
        obtain ⟨H6, e6⟩ : ∃ H6, H6 = upd H5 q6 (.lst (natV rr)) := ⟨_, rfl⟩
        rw [← e6]
        have k6 : Kp [] H5 H6 := e6 ▸ Kp.new nq6
        have hp5 : H5 p = some (.lst [.ref t4]) := by rw [e5]; exact upd_same
        show Mid _ _
        rw [hMid]
        refine ⟨q6, rr, [.ref t4], [.lit st.b k f], some (f, st.b), rfl, by rw [e6]; exact upd_same, by simp at hfl; omega, by simp, k6.lst (by simp) hp5, ?_, ((hE3.kp k4 k4.kt0 fun _ _ => by simp).kp k5 t5 fun x hx => by simpa using pE x hx).kp k6 k6.kt0 fun _ _ => by simp, (ne_of_none hp5 nq6).symm, .inr ⟨_, _, rfl⟩, rfl, rfl, ?_⟩
        · exact .cons (.tup (k6.kt0 _ _ (t5 _ _ ht4)) (.cons (.str _) (.cons (.int _) (.cons (.int _) (.cons (.int _) .nil))))) .nil
        · have kk : Kp [p, l] H H6 := k1.of0.tr (k2.of0.tr ((k3.wk fun x z => by simp only [List.mem_cons, List.not_mem_nil, or_false] at z ⊢; exact .inr z).tr (k4.of0.tr ((k5.wk fun x z => by simp only [List.mem_cons, List.not_mem_nil, or_false] at z ⊢; exact .inl z).tr k6.of0))))
          exact Kp.drop np kk
      · refine iteF ?_
        show Mid _ _
        rw [hMid]
        exact ⟨fq, f :: rr, [], [], some (g, t), rfl, hq1, hfl, by decide, hp1, .nil, hE1', qp, .inr ⟨_, _, rfl⟩, rfl, rfl, k1.of0⟩
  · rw [hMid] at hM
    obtain ⟨q2', gs, xs0, R0, y, rfl, hq2, hgl, hRl, hp2, tr2, hE2, q2p, hgy, ey, eR, k2⟩ := hM
    obtain ⟨W0, hW0⟩ : ∃ W0 : Nat → List Em.Row, W0 = fun j => R0 ++ (gs.take j).map (fun f => Row.lost st.b k f (keeper y)) := ⟨_, rfl⟩
    refine ⟨.ref q2', rfl, q2', rfl, ⟨_, SqL.of hq2⟩, for_list (xs := natV gs) (fun j σ H' => ∃ (o5 : Option V) (xs : List V), σ = [some (.ref e), some (.int k), some (.ref fq), some (.ref p), some (.ref q2'), o5] ∧ H' p = some (.lst xs) ∧ TuA H' xs ((W0 j).map rowD) ∧ Emb a.c_Embers H' e wp l r { st with L := st.L.set k y } ∧ Kp [p] H2 H') ⟨none, xs0, rfl, hp2, by rw [hW0]; simpa using tr2, hE2, .rfl'⟩ (fun j σ H' _ hP => ?_) (fun j z σ H3 hz hP => ?_) (fun σ H3 hP => ?_)⟩
    · obtain ⟨_, _, _, _, _, _, k3⟩ := hP
      exact SqL.of (k3.lst (by simpa using q2p) hq2)
    · obtain ⟨o5, xs, rfl, hp3, tr3, hE3, k3⟩ := hP
      obtain ⟨f, hf, rfl⟩ : ∃ f : Nat, gs[j]? = some f ∧ z = .int (f : Int) := by
        unfold natV at hz
        rw [List.getElem?_map] at hz
        cases q1 : gs[j]? with
        | none => rw [q1] at hz; cases hz
        | some u => rw [q1] at hz; exact ⟨u, rfl, (Option.some.inj hz).symm⟩
      obtain ⟨g, t, rfl⟩ : ∃ g t, y = some (g, t) := by
        rcases hgy with rfl | h
        · cases hf
        · exact h
      obtain ⟨⟨dx3, v3, q13, _⟩, _, ⟨ls3, q33, q43⟩, _⟩ := id hE3
      have hlk : (st.L.set k (some (g, t)))[k]? = some (some (g, t)) := List.getElem?_set_self hkL
      obtain ⟨lv, hlv, tlv⟩ := q43.get' (i := k) (d := lightD (some (g, t))) (by rw [List.getElem?_map, hlk]; rfl)
      rcases light_at tlv with ⟨hh, _⟩ | ⟨g', t', lt, hh, rfl, hlt⟩
      · cases hh
      cases hh
      refine ⟨.ref p, rfl, .inl ⟨rfl, _, SqL.of hp3⟩, .ref e, rfl, e, _, dx3, _, _, rfl, q13, T.cl_Embers, T.na_Embers__beat, em_beat, .int k, rfl, .int f, rfl, .ref e, rfl, e, _, dx3, _, _, rfl, q13, T.cl_Embers, T.na_Embers__lights, em_lights, .int k, rfl, l, ls3, k, .ref lt, rfl, rfl, SqL.of q33, atI_nat hlv, lt, _, 0, .int (g : Nat), rfl, rfl, SqT.of hlt, atI_nat (j := 0) rfl, by show 5 ≤ sizeLine; decide, fun t4 nt4 => ?_⟩
      have k4 : Kp [] H3 (upd H3 t4 (.tup [.str "lost", .int st.b, .int k, .int f, .int g])) := Kp.new nt4
      have lx : xs.length < sizeLine := by
        have e1 := tr3.len
        have e2 : (W0 j).length ≤ 1 + gs.length := by
          rw [hW0]
          show (R0 ++ (gs.take j).map _).length ≤ _
          rw [List.length_append, List.length_map, List.length_take]
          omega
        rw [List.length_map] at e1
        exact Nat.lt_of_lt_of_le (show xs.length < 3000 by omega) (by decide)
      refine ⟨p, xs, .ref t4, rfl, rfl, k4.lst (by simp) hp3, lx, ?_⟩
      obtain ⟨H4, e4⟩ : ∃ H4, H4 = upd H3 t4 (.tup [.str "lost", .int st.b, .int k, .int f, .int g]) := ⟨_, rfl⟩
      rw [← e4] at k4 ⊢
      have ht4 : H4 t4 = some (.tup [.str "lost", .int st.b, .int k, .int f, .int g]) := by rw [e4]; exact upd_same
      have hp4 := k4.lst (by simp) hp3
      obtain ⟨H5, e5⟩ : ∃ H5, H5 = upd H4 p (.lst (xs ++ [.ref t4])) := ⟨_, rfl⟩
      rw [← e5]
      have k5 : Kp [p] H4 H5 := e5 ▸ Kp.put (by simp) hp4 fun ps z => by cases z
      have t5 : Kt H4 H5 := e5 ▸ Kt.put hp4 fun ps z => by cases z
      refine ⟨_, xs ++ [.ref t4], rfl, by rw [e5]; exact upd_same, ?_, (hE3.kp k4 k4.kt0 fun _ _ => by simp).kp k5 t5 fun x hx => by simpa using pE x hx, k3.tr (k4.of0.tr k5)⟩
      have eW : W0 (j + 1) = W0 j ++ [Row.lost st.b k f g] := by
        rw [hW0]
        show R0 ++ (gs.take (j + 1)).map _ = R0 ++ (gs.take j).map _ ++ _
        rw [List.take_add_one, hf, List.map_append, List.append_assoc]
        rfl
      rw [eW, List.map_append]
      exact (tr3.kt (k4.kt0.tr t5)).app (.cons (.tup (t5 _ _ ht4) (.cons (.str _) (.cons (.int _) (.cons (.int _) (.cons (.int _) (.cons (.int _) .nil)))))) .nil)
    · obtain ⟨o5, xs, rfl, hp3, tr3, hE3, k3⟩ := hP
      have eW : W0 (natV gs).length = (meet st.b k x fs).2 := by
        rw [hW0, natV_len]
        show R0 ++ (gs.take gs.length).map _ = _
        rw [List.take_length]
        exact eR
      rw [eW] at tr3
      rw [ey] at hE3
      exact ⟨.ref p, rfl, q p xs H3 np hp3 tr3 hE3 (Kp.drop np ((k2.wk fun x z => List.mem_cons_of_mem _ z).tr (k3.wk fun x z => by
        rw [List.mem_singleton.mp z]; exact List.mem_cons_self)))⟩
def spGoOn (C : Addr) : Sp := fun vs H Q _ => ∃ (e w l r : Addr) (s : EmS), vs = [.ref e] ∧ Emb C H e w l r s ∧ s.W.length ≤ 500 ∧
  ∀ w' p xs H', H w' = none → H p = none → p ≠ w' → H' p = some (.lst xs) → TuA H' xs (s.rows.map rowD) → Emb C H' e w' l r s.go → Kp [e, l] H H' → Q (.ref p) H'
theorem ok_go_on (T : Tx K mg a) : FnOk P w K mg base CX0 2 a.a_Embers__go_on a.f_Embers__go_on ["self"] (spGoOn a.c_Embers) := by
  have G_Embers__darken := ok_darken (P := P) (w := w) (base := base) T
  have G_Embers__meet := ok_meet (P := P) (w := w) (base := base) T
  refine T.F_Embers__go_on.ok sc_Embers__go_on (fun vs H Q E h => ?_) (fun cdv A outer s H vs Q E hr h => ?_)
  · obtain ⟨e, w, l, r, s, rfl, _⟩ := h
    rfl
  obtain ⟨e, wp, l, r, st, rfl, hE, hW, q⟩ := h
  refine ⟨_, (pss_cons (ps_setLc (i := 1) (own := [("_", 2)]) (g := gName 2) (by rfl) sc_Embers__go_on.nd rfl rfl (sw_true rfl rfl rfl (by decide +kernel)) (pi_tup (pe_fld (pv 0) rfl)) (blkOk_by (own := [("_", 2)]) (N := s_Embers__go_on_N) (sc := defScope s_Embers__go_on) (by decide +kernel)) (fun _ _ _ _ _ => (pg_name (i := 2) sc_Embers__go_on.nd rfl (by first | exact .inl rfl | exact .inr rfl))) (fun _ _ _ _ _ => pts_nil) (fun _ _ _ _ _ => (pe_lst pa_nil)))
      (pss_cons (ps_set (i := 3) sc_Embers__go_on.nd rfl (by first | exact .inl rfl | exact .inr rfl) (pe_meth (pv 0) T.cl_Embers T.m_Embers__darken G_Embers__darken (hr.mono (by decide)) T.b_Embers__darken .nil pass0 (pa_cons (pv 1) pa_nil)))
      (pss_cons (ps_for PassesOwn.never rfl (pi_list (pe_fld (pv 0) rfl)) (pg_tup (by rfl) (pgs_cons (pg_name (i := 4) sc_Embers__go_on.nd rfl (by first | exact .inl rfl | exact .inr rfl)) (pgs_cons (pg_name (i := 5) sc_Embers__go_on.nd rfl (by first | exact .inl rfl | exact .inr rfl)) pgs_nil))) (pss_one (ps_expr (pe_bm PySem.F.plainAttrs_list PySem.F.slot_list_append PySem.F.type_list_append mt_append (pe_ix ix_list (pv 1) (pv 5) (fun _ _ => rfl)) (pa_cons (pv 4) pa_nil)))))
      (pss_cons (ps_fld (pv 0) (pe_lst pa_nil) rfl)
      (pss_cons (ps_for PassesOwn.never rfl (pi_enum (by rfl) T.n_enumerate (pa_cons (pv 1) pa_nil)) (pg_tup (by rfl) (pgs_cons (pg_name (i := 5) sc_Embers__go_on.nd rfl (by first | exact .inl rfl | exact .inr rfl)) (pgs_cons (pg_name (i := 6) sc_Embers__go_on.nd rfl (by first | exact .inl rfl | exact .inr rfl)) pgs_nil))) (pss_one (ps_expr (pe_bm PySem.F.plainAttrs_list PySem.F.slot_list_extend PySem.F.type_list_extend mt_extend (pv 3) (pa_cons (pe_meth (pv 0) T.cl_Embers T.m_Embers__meet G_Embers__meet (hr.mono (by decide)) T.b_Embers__meet .nil pass0 (pa_cons (pv 5) (pa_cons (pe_callB cr_sortedI (by rfl) T.n_sorted (by decide +kernel) (pa_cons (pv 6) pa_nil)) pa_nil))) pa_nil)))))
      (pss_cons (ps_fldaug (pv 0) pe_int in_add)
      (pss_one (ps_ret (pv 3))))))))), ?_⟩
  have h12 := hE.ok.hi
  obtain ⟨⟨dx, v, q1, q2⟩, _, ⟨ls, q3, q4⟩, _, nd, _⟩ := id hE
  obtain ⟨ad, xs, rfl, hx1, hl1, _⟩ := tnet_at q2
  -- comers = [[] for _ in self._net]
  refine ⟨.ref e, rfl, e, _, dx, _, _, rfl, q1, T.cl_Embers, T.na_Embers__net, em_net, ad, rfl, ⟨_, SqT.of hx1⟩, fun c nc => lc_tup (xs := xs) (fun j H' => ∃ ps, Bag H' c ps (List.replicate j []) ∧ (∀ x ∈ c :: ps, H x = none) ∧ Kp [] H H') ?_ (fun j H' _ hP => ?_) (fun j y H' hy hP => ?_) (fun H1 hP => ?_)⟩
  · exact ⟨[], ⟨upd_same, by simp, rfl, fun i p g hp => by simp at hp⟩, fun x hx => by rw [List.mem_singleton.mp hx]; exact nc, Kp.new nc⟩
  · obtain ⟨_, _, _, k⟩ := hP
    exact SqT.of (k.kt0 _ _ hx1)
  · obtain ⟨ps, hB, hn, k⟩ := hP
    have hj := (List.getElem?_eq_some_iff.mp hy).1
    refine ⟨rfl, Nat.zero_le _, fun q5 nq5 => ⟨_, (Kp.new (S := []) nq5).lst (by simp) hB.top, ?_, ps ++ [q5], ?_, fun x hx => ?_, ?_⟩⟩
    · have := hB.len
      rw [List.length_replicate] at this
      rw [List.length_map]
      exact Nat.lt_of_lt_of_le (show ps.length < 1000 by omega) (by decide)
    · rw [List.replicate_succ']
      exact hB.more nq5
    · rcases List.mem_cons.mp hx with z | z
      · exact hn x (by rw [z]; exact List.mem_cons_self)
      · rcases List.mem_append.mp z with z | z
        · exact hn x (List.mem_cons_of_mem _ z)
        · rw [List.mem_singleton.mp z]
          cases y : H q5 with
          | none => rfl
          | some o => exact absurd nq5 (k.tr_ q5 (by rw [y]; exact fun y => by cases y))
    · have k5 : Kp [] H (upd H' q5 (.lst [])) := k.tr (Kp.new nq5)
      exact Kp.drop nc (k5.of0.tr (Kp.put (S := [c]) (by simp) ((Kp.new (S := []) nq5).lst (by simp) hB.top) fun ps z => by cases z))
  rw [hl1] at hP
  obtain ⟨ps, hB1, hn, k1⟩ := hP
  have dj : ∀ x ∈ c :: ps, x ∉ [e, wp, l, r] := fun x hx z => hE.tr x z (hn x hx)
  have hE1 := hE.kp k1 k1.kt0 fun _ _ => by simp
  have q11 := k1.ins (by simp) q1
  -- rows = self._darken(comers)
  refine ⟨.ref e, rfl, e, dx, _, rfl, q11, em_no (by decide +kernel), .ref c, rfl, e, wp, l, r, c, ps, _, st, rfl, hE1, hB1, dj, List.length_replicate, by rw [tot_rep]; exact Nat.zero_le _, fun p xs0 H2 np hp2 tr2 hE2 hB2 k2 => ?_⟩
  obtain ⟨d, hd⟩ : ∃ d, d = darkA st.N st.b st.L := ⟨_, rfl⟩
  have hd' : darkN st.N st.b st.N.length ⟨st.L, List.replicate st.N.length [], []⟩ = d := hd.symm
  rw [hd'] at tr2 hE2 hB2
  obtain ⟨dl, dc, dt⟩ := darkA_len (b := st.b) hE.ln
  rw [← hd] at dl dc dt
  have npH : H p = none := by
    cases z : H p with
    | none => rfl
    | some o => exact absurd np (k1.tr_ p (by rw [z]; exact fun y => by cases y))
  have pB : ∀ x ∈ c :: ps, x ≠ p := fun x hx z => hB1.tr x hx (z ▸ np)
  have pE : ∀ x ∈ [e, wp, l, r], x ≠ p := fun x hx z => hE.tr x hx (z ▸ npH)
  obtain ⟨⟨dx2, v2, q12, _⟩, ⟨ws, q52, q62⟩, _⟩ := id hE2
  have lws : ws.length = st.W.length := by
    have := q62.len
    rwa [List.length_map] at this
  have wkN : ∀ p ∈ st.W, p.2 < st.N.length := hE.wk
  -- for flame, lamp in self._waiting
  refine ⟨.ref e, rfl, e, _, dx2, _, _, rfl, q12, T.cl_Embers, T.na_Embers__waiting, em_waiting, wp, rfl, ⟨_, SqL.of q52⟩, for_list (xs := ws) (fun j σ H' => ∃ (o4 o5 o6 : Option V), σ = [some (.ref e), some (.ref c), none, some (.ref p), o4, o5, o6] ∧ Bag H' c ps (addW d.css (st.W.take j)) ∧ Kp ps H2 H' ∧ Kt H2 H') ⟨none, none, none, rfl, hB2, .rfl', .rfl'⟩ (fun j σ H' _ hP => ?_) (fun j x σ H3 hx hP => ?_) (fun σ H3 hP => ?_)⟩
  · obtain ⟨_, _, _, _, _, k, _⟩ := hP
    exact SqL.of (k.lst (fun z => dj wp (List.mem_cons_of_mem _ z) (by simp)) q52)
  · obtain ⟨o4, o5, o6, rfl, hB3, k3, t3⟩ := hP
    obtain ⟨dd, hdd, tx⟩ := (q62.kt t3).get hx
    obtain ⟨pw, hpw, rfl⟩ : ∃ pw, st.W[j]? = some pw ∧ dd = waitD pw := by
      rw [List.getElem?_map] at hdd
      cases z : st.W[j]? with
      | none => rw [z] at hdd; cases hdd
      | some u => rw [z] at hdd; exact ⟨u, rfl, (Option.some.inj hdd).symm⟩
    obtain ⟨wa, rfl, hwa⟩ := wait_at tx
    have hpN := wkN pw (List.mem_of_getElem? hpw)
    obtain ⟨al, at_⟩ := addW_len (st.W.take j) d.css
    obtain ⟨pp, g, hg, hpp, hppv, hHp, hpm⟩ := hB3.get (i := pw.2) (by rw [al, dc]; exact hpN)
    refine ⟨wa, _, rfl, SqT.of hwa, rfl, _, _, rfl, _, _, rfl, rfl, ?_⟩
    refine ⟨.ref c, rfl, .int pw.2, rfl, c, _, pw.2, .ref pp, rfl, rfl, SqL.of hB3.top, atI_nat hppv, .inl ⟨rfl, _, SqL.of hHp⟩, .int pw.1, rfl, pp, natV g, .int pw.1, rfl, rfl, hHp, ?_, ?_⟩
    · have := tot_mem (List.mem_of_getElem? hg)
      have h2 : (st.W.take j).length ≤ st.W.length := by rw [List.length_take]; omega
      rw [natV_len]
      exact Nat.lt_of_lt_of_le (show g.length < 2000 by omega) (by decide)
    rw [← natV_app]
    have hB4 := hB3.put hpp (g ++ [pw.1])
    have eA : addW d.css (st.W.take (j + 1)) = (addW d.css (st.W.take j)).set pw.2 (g ++ [pw.1]) := by
      rw [List.take_add_one, hpw]
      show addW d.css (st.W.take j ++ [pw]) = _
      rw [addW_more]
      unfold addK
      rw [getD_css hg]
    refine ⟨_, _, _, rfl, by rw [eA]; exact hB4, k3.tr (Kp.put hpm hHp fun ps z => by cases z), t3.tr (Kt.put hHp fun ps z => by cases z)⟩
  obtain ⟨o4, o5, o6, rfl, hB3, k3, t3⟩ := hP
  rw [lws, List.take_length] at hB3
  have psE : ∀ x ∈ [e, wp, l, r], x ∉ ps := fun x hx z => dj x (List.mem_cons_of_mem _ z) hx
  have hE3 := hE2.kp k3 t3 psE
  have hp3 := k3.lst (fun z => pB p (List.mem_cons_of_mem _ z) rfl) hp2
  have tr3 := tr2.kt t3
  have k13 : Kp (l :: ps) H1 H3 := k2.tr (k3.wk fun x z => List.mem_cons_of_mem _ z)
  -- self._waiting = []
  refine ⟨Nat.zero_le _, fun w' nw => ?_⟩
  obtain ⟨H4, e4⟩ : ∃ H4, H4 = upd H3 w' (.lst []) := ⟨_, rfl⟩
  rw [← e4]
  have k4 : Kp [] H3 H4 := e4 ▸ Kp.new nw
  have hw4 : H4 w' = some (.lst []) := by rw [e4]; exact upd_same
  have hE4 := hE3.kp k4 k4.kt0 fun _ _ => by simp
  obtain ⟨⟨dx4, v4, q14, q24⟩, _, ⟨ls4, q34, q44⟩, ⟨rs4, q74, q84⟩, _⟩ := id hE4
  refine ⟨.ref e, rfl, e, _, dx4, _, rfl, q14, T.cl_Embers, T.na_Embers__waiting, by show 6 < 1000; decide, ?_⟩
  rw [em_putWaiting]
  obtain ⟨H5, e5⟩ : ∃ H5, H5 = upd H4 e (.ins a.c_Embers dx4 (emF v4 st.b st.n w' l r)) := ⟨_, rfl⟩
  rw [← e5]
  have k5 : Kp [e] H4 H5 := e5 ▸ Kp.put (by simp) q14 fun ps z => by cases z
  have t5 : Kt H4 H5 := e5 ▸ Kt.put q14 fun ps z => by cases z
  have w'n : ∀ x, H3 x ≠ none → x ≠ w' := fun x hx z => hx (z ▸ nw)
  have w'e : w' ≠ e := fun z => by rw [z] at hw4; rw [hw4] at q14; cases q14
  have el : l ∉ [e] := by simpa using (ne_of q14 q34 fun z => by cases z).symm
  have er : r ∉ [e] := by simpa using (ne_of q14 q74 fun z => by cases z).symm
  have hE5 : Emb a.c_Embers H5 e w' l r { st with W := [], L := d.L } := by
    refine ⟨⟨dx4, v4, by rw [e5]; exact upd_same, q24.kt t5⟩, ⟨[], k5.lst (by simpa using w'e) hw4, .nil⟩, ⟨ls4, k5.lst el q34, q44.kt t5⟩, ⟨rs4, k5.lst er q74, q84.kt t5⟩, ⟨?_, ?_, nd.2.2⟩, hE.ok, dl, fun p z => by cases z⟩
    · exact (w'n l (hE3.tr l (by simp))).symm
    · exact (w'n r (hE3.tr r (by simp))).symm
  have hB5 : Bag H5 c ps (addW d.css st.W) := (hB3.kp k4 fun _ _ => by simp).kp k5 fun x hx => by
    have := dj x hx
    simp only [List.mem_cons, List.not_mem_nil, or_false, not_or] at this ⊢
    exact this.1
  have pe : p ∉ [e] := by simpa using (pE e (by simp)).symm
  have hp5 := k5.lst pe (k4.lst (by simp) hp3)
  have tr5 := tr3.kt (k4.kt0.tr t5)
  obtain ⟨al, at_⟩ := addW_len st.W d.css
  obtain ⟨M, hM⟩ : ∃ M : Nat → Ms, M = fun i => meetN st.b (addW d.css st.W) i ⟨d.L, d.rows⟩ := ⟨_, rfl⟩
  have M0 : ∀ i, (M i).L.length = st.N.length ∧ (M i).rows.length ≤ 2000 := fun i => by
    rw [hM]
    obtain ⟨a1, a2⟩ := meetN_len st.b (addW d.css st.W) ⟨d.L, d.rows⟩ i
    refine ⟨a1.trans dl, Nat.le_trans a2 ?_⟩
    have := tot_take (addW d.css st.W) i
    show d.rows.length + _ ≤ _
    omega
  have pne : ∀ x ∈ c :: ps, x ∉ [p, l] := fun x hx z => by
    simp only [List.mem_cons, List.not_mem_nil, or_false] at z
    rcases z with z | z
    · exact pB x hx z
    · exact dj x hx (by simp [z])
  have pw' : p ≠ w' := w'n p (by rw [hp3]; exact fun z => by cases z)
  -- for lamp, flames in enumerate(comers)
  refine ⟨.ref c, rfl, c, _, rfl, SqL.of hB5.top, for_it (walk_enum (K := K) (a := c) (xs := ps.map V.ref)) (fun i σ H' => ∃ (o4 o5 o6 : Option V) (xs : List V), σ = [some (.ref e), some (.ref c), none, some (.ref p), o4, o5, o6] ∧ H' p = some (.lst xs) ∧ TuA H' xs ((M i).rows.map rowD) ∧ Emb a.c_Embers H' e w' l r { st with W := [], L := (M i).L } ∧ Bag H' c ps (addW d.css st.W) ∧ Kp [p, l] H5 H') ⟨o4, o5, o6, xs0, rfl, hp5, by rw [hM]; exact tr5, by rw [hM]; exact hE5, hB5, .rfl'⟩ (fun i σ H' _ hP => ?_) (fun i x σ H6 H7 hi hP hy => ?_) (fun σ H6 hP => ?_)⟩
  · obtain ⟨_, _, _, _, _, _, _, _, hB6, _⟩ := hP
    exact SqL.of hB6.top
  · obtain ⟨o4, o5, o6, xs6, rfl, hp6, tr6, hE6, hB6, k6⟩ := hP
    obtain ⟨T1, x1, y1, rfl, nT, rfl, ex, ey⟩ := hy
    cases ex
    have ey : (ps.map V.ref)[i]? = some y1 := ey
    rw [List.length_map] at hi
    have hiN : i < st.N.length := by
      have := hB6.len
      omega
    obtain ⟨pp, g, hg, hpp, hppv, hHp, hpm⟩ := hB6.get (i := i) (by omega)
    rw [ey] at hppv
    cases hppv
    have kT : Kp [] H6 (upd H6 T1 (.tup [.int (i : Nat), .ref pp])) := Kp.new nT
    obtain ⟨H7, e7⟩ : ∃ H7, H7 = upd H6 T1 (.tup [.int (i : Nat), .ref pp]) := ⟨_, rfl⟩
    have hT7 : H7 T1 = some (.tup [.int (i : Nat), .ref pp]) := by rw [e7]; exact upd_same
    rw [← e7] at kT ⊢
    have hE7 := hE6.kp kT kT.kt0 fun _ _ => by simp
    have hB7 := hB6.kp kT fun _ _ => by simp
    have hp7 := kT.lst (by simp) hp6
    have tr7 := tr6.kt kT.kt0
    obtain ⟨⟨dx7, v7, q17, _⟩, _⟩ := id hE7
    have lg : g.length ≤ 1000 := by
      have := tot_mem (List.mem_of_getElem? hg)
      omega
    refine ⟨T1, _, rfl, SqT.of hT7, rfl, _, _, rfl, _, _, rfl, rfl, ?_⟩
    -- rows.extend(self._meet(lamp, sorted(flames)))
    refine ⟨.ref p, rfl, .inl ⟨rfl, _, SqL.of hp7⟩, .ref e, rfl, e, dx7, _, rfl, q17, em_no (by decide +kernel), .int i, rfl, .ref pp, rfl, pp, _, rfl, by rw [← natV_map]; exact SqL.of (kT.lst (by simp) hHp), fun ns' sp_ hperm hup nsp => ?_⟩
    have hns := srt_of hperm hup
    subst hns
    rw [← natV_map]
    have k8 : Kp [] H7 (upd H7 sp_ (.lst (natV (srt g)))) := Kp.new nsp
    obtain ⟨H8, e8⟩ : ∃ H8, H8 = upd H7 sp_ (.lst (natV (srt g))) := ⟨_, rfl⟩
    rw [← e8] at k8 ⊢
    have hs8 : H8 sp_ = some (.lst (natV (srt g))) := by rw [e8]; exact upd_same
    have hE8 := hE7.kp k8 k8.kt0 fun _ _ => by simp
    have hp8 := k8.lst (by simp) hp7
    have spl : sp_ ∉ [l] := by
      have : l ≠ sp_ := fun z => hE7.tr l (by simp) (z ▸ nsp)
      simpa using this.symm
    refine ⟨e, w', l, r, _, i, sp_, srt g, rfl, hE8, hiN, hs8, by rw [srt_len]; omega, spl, fun p2 xs2 H9 np2 hp9 tr9 hE9 k9 => ?_⟩
    obtain ⟨m, hm⟩ : ∃ m, m = meet st.b i ((M i).L.getD i none) (srt g) := ⟨_, rfl⟩
    have hm' : meet st.b i ((M i).L.getD i none) (srt g) = m := hm.symm
    have eM : M (i + 1) = ⟨(M i).L.set i m.1, (M i).rows ++ m.2⟩ := by
      rw [hm, hM]
      show meetK st.b (addW d.css st.W) i _ = _
      unfold meetK
      rw [getD_css hg]
    have tr9' : TuA H9 xs2 (m.2.map rowD) := by rw [hm]; exact tr9
    have hE9' : Emb a.c_Embers H9 e w' l r { st with W := [], L := (M (i + 1)).L } := by rw [eM, hm]; exact hE9
    have pl : p ∉ [l] := by simpa using (pE l (by simp)).symm
    have hp9' := k9.lst pl hp8
    have t9 : Kt H8 H9 := k9.kt fun s hs xs => by
      obtain rfl : s = l := by simpa using hs
      exact hE8.nt s (by simp) xs
    have lx1 : xs6.length ≤ 2000 := by
      have := tr6.len
      rw [List.length_map] at this
      rw [this]; exact (M0 i).2
    have lx2 : xs2.length ≤ 2000 := by
      have h1 := tr9'.len
      rw [List.length_map] at h1
      have h2 := (M0 (i + 1)).2
      rw [eM] at h2
      have h3 : ((M i).rows ++ m.2).length ≤ 2000 := h2
      rw [List.length_append] at h3
      omega
    refine ⟨p, p2, xs6, xs2, rfl, rfl, hp9', hp9, Nat.le_trans (show xs6.length + xs2.length ≤ 4000 by omega) (by decide), ?_⟩
    obtain ⟨H10, e10⟩ : ∃ H10, H10 = upd H9 p (.lst (xs6 ++ xs2)) := ⟨_, rfl⟩
    rw [← e10]
    have k10 : Kp [p] H9 H10 := e10 ▸ Kp.put (by simp) hp9' fun ps z => by cases z
    have t10 : Kt H9 H10 := e10 ▸ Kt.put hp9' fun ps z => by cases z
    have pEw : ∀ x ∈ [e, w', l, r], x ∉ [p] := fun x hx => by
      simp only [List.mem_cons, List.not_mem_nil, or_false] at hx ⊢
      rcases hx with rfl | rfl | rfl | rfl
      · exact pE _ (by simp)
      · exact pw'.symm
      · exact pE _ (by simp)
      · exact pE _ (by simp)
    have kk : Kp [p, l] H6 H10 := kT.of0.tr (k8.of0.tr ((k9.wk fun x z => by simp only [List.mem_cons, List.not_mem_nil, or_false] at z ⊢; exact .inr z).tr (k10.wk fun x z => by simp only [List.mem_cons, List.not_mem_nil, or_false] at z ⊢; exact .inl z)))
    refine ⟨_, _, _, xs6 ++ xs2, rfl, by rw [e10]; exact upd_same, ?_, hE9'.kp k10 t10 pEw, hB6.kp kk pne, k6.tr kk⟩
    rw [eM, List.map_append]
    exact ((tr7.kt (k8.kt0.tr t9)).app tr9').kt t10
  · obtain ⟨o4, o5, o6, xs6, rfl, hp6, tr6, hE6, hB6, k6⟩ := hP
    have e0 : (ps.map V.ref).length = st.N.length := by
      have := hB6.len
      rw [List.length_map]
      omega
    rw [e0] at tr6 hE6
    have eB : M st.N.length = beatA st.N st.b st.L st.W := by
      rw [hM, hd]
      rfl
    rw [eB] at tr6 hE6
    obtain ⟨⟨dx6, v6, q16, q26⟩, ⟨ws6, q56, q66⟩, ⟨ls6, q36, q46⟩, ⟨rs6, q76, q86⟩, nd6, b1, b2, b3⟩ := id hE6
    -- self._beat += 1
    refine ⟨.ref e, rfl, e, _, dx6, _, _, rfl, q16, T.cl_Embers, T.na_Embers__beat, em_beat, _, _, rfl, rfl, dx6, _, q16, by show 6 < 1000; decide, ?_⟩
    rw [em_putBeat]
    obtain ⟨H7, e7⟩ : ∃ H7, H7 = upd H6 e (.ins a.c_Embers dx6 (emF v6 (st.b + 1) st.n w' l r)) := ⟨_, rfl⟩
    rw [← e7]
    have k7 : Kp [e] H6 H7 := e7 ▸ Kp.put (by simp) q16 fun ps z => by cases z
    have t7 : Kt H6 H7 := e7 ▸ Kt.put q16 fun ps z => by cases z
    have w'e2 : w' ∉ [e] := by simpa using w'e
    have freeH : ∀ {x}, H3 x = none → H x = none := fun {x} n => by
      cases z : H x with
      | none => rfl
      | some o => exact absurd n (k13.tr_ x (k1.tr_ x (by rw [z]; exact fun y => by cases y)))
    refine ⟨.ref p, rfl, q w' p xs6 H7 (freeH nw) npH pw' (k7.lst pe hp6) (tr6.kt t7) ⟨⟨dx6, v6, by rw [e7]; exact upd_same, q26.kt t7⟩, ⟨ws6, k7.lst w'e2 q56, q66.kt t7⟩, ⟨ls6, k7.lst el q36, q46.kt t7⟩, ⟨rs6, k7.lst er q76, q86.kt t7⟩, nd6, b1, b2, b3⟩ ?_⟩
    -- what else was written is new
    have kAll : Kp (p :: c :: ps ++ [e, l]) H H7 := by
      refine k1.of0.tr ((k13.wk fun x z => ?_).tr (k4.of0.tr ((k5.wk fun x z => ?_).tr ((k6.wk fun x z => ?_).tr (k7.wk fun x z => ?_)))))
      · simp only [List.mem_cons, List.mem_append, List.cons_append, List.not_mem_nil, or_false] at z ⊢
        rcases z with z | z
        · exact .inr (.inr (.inr (.inr z)))
        · exact .inr (.inr (.inl z))
      · simp only [List.mem_cons, List.mem_append, List.cons_append, List.not_mem_nil, or_false] at z ⊢
        exact .inr (.inr (.inr (.inl z)))
      · simp only [List.mem_cons, List.mem_append, List.cons_append, List.not_mem_nil, or_false] at z ⊢
        rcases z with z | z
        · exact .inl z
        · exact .inr (.inr (.inr (.inr z)))
      · simp only [List.mem_cons, List.mem_append, List.cons_append, List.not_mem_nil, or_false] at z ⊢
        exact .inr (.inr (.inr (.inl z)))
    refine ⟨fun b o nb h t => kAll.at_ b o (fun z => ?_) h t, kAll.tab, kAll.tr_⟩
    rcases List.mem_append.mp z with z | z
    · rcases List.mem_cons.mp z with z | z
      · rw [z, npH] at h; cases h
      · rw [hn b z] at h; cases h
    · exact nb z
/-! ### go, coming, happened, burning -/
theorem goN_N (s : EmS) : ∀ k, (s.goN k).1.N = s.N ∧ (s.goN k).1.R = s.R ∧ (s.goN k).1.n = s.n ∧ (s.goN k).1.b = s.b + k
  | 0 => ⟨rfl, rfl, rfl, rfl⟩
  | k + 1 => let ⟨a1, a2, a3, a4⟩ := goN_N s k; ⟨a1, a2, a3, by show (s.goN k).1.b + 1 = _; omega⟩
theorem goN_W (s : EmS) : ∀ k, (s.goN k).1.W.length ≤ s.W.length
  | 0 => Nat.le_refl _
  | k + 1 => Nat.zero_le _
theorem goN_L {s : EmS} (h : s.L.length = s.N.length) (h12 : s.N.length ≤ 12) : ∀ k, (s.goN k).1.L.length = s.N.length ∧ (s.goN k).2.length ≤ (12 + s.W.length) * k
  | 0 => ⟨h, Nat.le_refl _⟩
  | k + 1 => by
    obtain ⟨a1, a2⟩ := goN_L h h12 k
    obtain ⟨b1, _⟩ := goN_N s k
    have h1 : (s.goN k).1.L.length = (s.goN k).1.N.length := by rw [b1]; exact a1
    obtain ⟨c1, c2⟩ := beatA_len (b := (s.goN k).1.b) (W := (s.goN k).1.W) h1
    have h2 := goN_W s k
    refine ⟨c1.trans (by rw [b1]), ?_⟩
    show ((s.goN k).2 ++ (s.goN k).1.rows).length ≤ _
    have h3 : (s.goN k).1.rows.length ≤ (s.goN k).1.N.length + (s.goN k).1.W.length := c2
    rw [b1] at h3
    rw [List.length_append, Nat.mul_succ]
    omega
def spIsWhole : Sp := fun vs H Q _ => ∃ x : Int, vs = [.int x] ∧ Q (.bl true) H
theorem ok_is_whole (T : Tx K mg a) : FnOk P w K mg base CX0 1 a.a_is_whole a.f_is_whole ["thing"] spIsWhole := by
  refine fn_ofQ (fun vs H Q E h => ?_) fun vs H Q E h => ?_
  · obtain ⟨x, rfl, _⟩ := h
    rfl
  · obtain ⟨x, rfl, q⟩ := h
    refine ⟨.bl true, q, fun hd OK => ?_⟩
    have OT : Tx (Qc.mk P w K mg H hd).K (Qc.mk P w K mg H hd).mg a := T
    have := qf_is_whole (S := []) OK OT (.int x)
    exact fun A R args us s r => this A R args us s (r.mono (by decide))
def spGo (C : Addr) : Sp := fun vs H Q _ => ∃ (e w l r : Addr) (s : EmS) (n : Nat), vs = [.ref e, .int n] ∧ Emb C H e w l r s ∧ 1 ≤ n ∧ n ≤ 400 ∧ s.W.length ≤ 500 ∧ s.R.length ≤ 10000000 ∧
  ∀ w' p xs H', H w' = none → H p = none → p ≠ w' → H' p = some (.lst xs) → TuA H' xs ((s.goN n).2.map rowD) → Emb C H' e w' l r { (s.goN n).1 with R := s.R ++ (s.goN n).2 } → Kp [e, l, r] H H' → Q (.ref p) H'
theorem ok_go (T : Tx K mg a) : FnOk P w K mg base CX0 3 a.a_Embers_go a.f_Embers_go ["self", "beats"] (spGo a.c_Embers) := by
  have G_Embers__go_on := ok_go_on (P := P) (w := w) (base := base) T
  have G_is_whole := ok_is_whole (P := P) (w := w) (base := base) T
  refine okD T.F_Embers_go sc_Embers_go (fun vs H Q E h => ?_) (fun cdv A outer s H vs Q E hr h => ?_)
  · obtain ⟨e, w, l, r, s, n, rfl, _⟩ := h
    rfl
  obtain ⟨e, wp, l, r, st, n, rfl, hE, hn1, hn2, hW, hR, q⟩ := h
  refine ⟨_, (pss_cons (ps_if (PW.pt (pw_or (pt_not (pt_val (pe_call G_is_whole (hr.mono (by decide)) (by rfl) T.is_whole.g T.is_whole.F.kp T.is_whole.b .nil pass0 (pa_cons (pv 1) pa_nil)))) (pw_or (pt_cmpR op_lt (pv 1) pe_int (nomark _)) (pw_or1 (pt_cmpR op_gt (pv 1) (pe_glob (v := .int 400) rfl T.c_MOST_BEATS.choose_spec ⟨_, rfl⟩) (nomark _)))))) (pss_one ps_never) pss_nil)
      (pss_cons (ps_set (i := 2) sc_Embers_go.nd rfl (by first | exact .inl rfl | exact .inr rfl) (pe_lst pa_nil))
      (pss_cons (ps_for PassesOwn.never rfl (pi_range1 (by rfl) T.n_range (pa_cons (pv 1) pa_nil)) (pg_name (i := 3) sc_Embers_go.nd rfl (by first | exact .inl rfl | exact .inr rfl)) (pss_one (ps_expr (pe_bm PySem.F.plainAttrs_list PySem.F.slot_list_extend PySem.F.type_list_extend mt_extend (pv 2) (pa_cons (pe_meth0 (pv 0) T.cl_Embers T.m_Embers__go_on G_Embers__go_on (hr.mono (by decide)) T.b_Embers__go_on .nil pass0) pa_nil)))))
      (pss_cons (ps_expr (pe_bm PySem.F.plainAttrs_list PySem.F.slot_list_extend PySem.F.type_list_extend mt_extend (pe_fld (pv 0) rfl) (pa_cons (pv 2) pa_nil)))
      (pss_one (ps_ret (pv 2))))))), ?_⟩
  have h12 := hE.ok.hi
  refine ⟨.int n, rfl, n, rfl, true, rfl, ?_⟩
  refine iteF ⟨.int n, rfl, _, _, rfl, rfl, _, rfl, ?_⟩
  rw [decide_eq_false (show ¬ (n : Int) < 1 by omega)]
  refine iteF ⟨.int n, rfl, _, _, rfl, rfl, _, rfl, ?_⟩
  rw [decide_eq_false (show ¬ (n : Int) > 400 by omega)]
  refine iteF ?_
  -- told = []
  refine ⟨Nat.zero_le _, fun p np => ?_⟩
  obtain ⟨H1, e1⟩ : ∃ H1, H1 = upd H p (.lst []) := ⟨_, rfl⟩
  rw [← e1]
  have k1 : Kp [] H H1 := e1 ▸ Kp.new np
  have hp1 : H1 p = some (.lst []) := by rw [e1]; exact upd_same
  have hE1 := hE.kp k1 k1.kt0 fun _ _ => by simp
  have pE : ∀ x ∈ [e, wp, l, r], x ≠ p := fun x hx z => hE.tr x hx (z ▸ np)
  have lenN := fun i => goN_L hE.ln h12 i
  -- for _ in range(beats)
  refine ⟨.int n, rfl, n, rfl, by omega, by omega, for_range (n := n) (fun i σ H' => ∃ (o3 : Option V) (wi : Addr) (xs : List V), σ = [some (.ref e), some (.int n), some (.ref p), o3] ∧ H' p = some (.lst xs) ∧ TuA H' xs ((st.goN i).2.map rowD) ∧ Emb a.c_Embers H' e wi l r (st.goN i).1 ∧ ((i = 0 ∧ wi = wp) ∨ (H wi = none ∧ wi ≠ p)) ∧ Kp [p, e, l] H1 H') ⟨none, wp, [], rfl, hp1, .nil, hE1, .inl ⟨rfl, rfl⟩, .rfl'⟩ (fun i σ H2 hi hP => ?_) (fun σ H2 hP => ?_)⟩
  · obtain ⟨o3, wi, xs, rfl, hp2, tr2, hE2, hwi, k2⟩ := hP
    obtain ⟨⟨dx, v, q1, _⟩, _⟩ := id hE2
    refine ⟨.ref p, rfl, .inl ⟨rfl, _, SqL.of hp2⟩, .ref e, rfl, e, dx, _, rfl, q1, em_no (by decide +kernel), e, wi, l, r, _, rfl, hE2, Nat.le_trans (goN_W st i) hW, fun w' p2 xs2 H3 nw' np2 hpw hp3 tr3 hE3 k3 => ?_⟩
    have t3 : Kt H2 H3 := k3.kt fun s hs ys => hE2.nt s (by
      simp only [List.mem_cons, List.not_mem_nil, or_false] at hs ⊢
      rcases hs with z | z
      · exact .inl z
      · exact .inr (.inr (.inl z))) ys
    have pel : p ∉ [e, l] := by
      simp only [List.mem_cons, List.not_mem_nil, or_false, not_or]
      exact ⟨(pE e (by simp)).symm, (pE l (by simp)).symm⟩
    have hp3' := k3.lst pel hp2
    have lx := (lenN (i + 1)).2
    have hm : (12 + st.W.length) * (i + 1) ≤ 512 * 400 := Nat.mul_le_mul (by omega) (by omega)
    have ly : xs.length + xs2.length ≤ 512 * 400 := by
      have h1 := tr2.len
      have h2 := tr3.len
      rw [List.length_map] at h1 h2
      have h3 : ((st.goN i).2 ++ (st.goN i).1.rows).length ≤ (12 + st.W.length) * (i + 1) := lx
      rw [List.length_append] at h3
      omega
    refine ⟨p, p2, xs, xs2, rfl, rfl, hp3', hp3, Nat.le_trans ly (by rw [sizeLine_eq]; decide), ?_⟩
    obtain ⟨H4, e4⟩ : ∃ H4, H4 = upd H3 p (.lst (xs ++ xs2)) := ⟨_, rfl⟩
    rw [← e4]
    have k4 : Kp [p] H3 H4 := e4 ▸ Kp.put (by simp) hp3' fun ps z => by cases z
    have t4 : Kt H3 H4 := e4 ▸ Kt.put hp3' fun ps z => by cases z
    have pw' : p ≠ w' := ne_of_none hp2 nw'
    refine ⟨_, w', xs ++ xs2, rfl, by rw [e4]; exact upd_same, ?_, hE3.kp k4 t4 fun x hx => ?_, .inr ⟨?_, pw'.symm⟩, k2.tr ((k3.wk fun x z => List.mem_cons_of_mem _ z).tr (k4.wk fun x z => by rw [List.mem_singleton.mp z]; exact List.mem_cons_self))⟩
    · show TuA H4 _ (((st.goN i).2 ++ (st.goN i).1.rows).map rowD)
      rw [List.map_append]
      exact ((tr2.kt t3).app tr3).kt t4
    · simp only [List.mem_cons, List.not_mem_nil, or_false] at hx ⊢
      rcases hx with rfl | rfl | rfl | rfl
      · exact pE _ (by simp)
      · exact pw'.symm
      · exact pE _ (by simp)
      · exact pE _ (by simp)
    · cases z : H w' with
      | none => rfl
      | some o => exact absurd nw' (k2.tr_ w' (k1.tr_ w' (by rw [z]; exact fun y => by cases y)))
  · obtain ⟨o3, wi, xs, rfl, hp2, tr2, hE2, hwi, k2⟩ := hP
    obtain ⟨hwn, hwp⟩ : H wi = none ∧ wi ≠ p := by
      rcases hwi with ⟨z, _⟩ | z
      · omega
      · exact z
    obtain ⟨⟨dx, v, q1, q2⟩, ⟨ws, q5, q6⟩, ⟨ls, q3, q4⟩, ⟨rs, q7, q8⟩, nd, b1, b2, b3⟩ := id hE2
    obtain ⟨g1, g2, _, _⟩ := goN_N st n
    have lrs : rs.length = st.R.length := by
      have := q8.len
      rw [List.length_map, g2] at this
      exact this
    have lxs : xs.length ≤ 512 * 400 := by
      have h1 := tr2.len
      rw [List.length_map] at h1
      have h2 := (lenN n).2
      have h3 : (12 + st.W.length) * n ≤ 512 * 400 := Nat.mul_le_mul (by omega) (by omega)
      omega
    -- self._rows.extend(told)
    refine ⟨.ref e, rfl, e, _, dx, _, _, rfl, q1, T.cl_Embers, T.na_Embers__rows, em_rows, .inl ⟨rfl, _, SqL.of q7⟩, .ref p, rfl, r, p, rs, xs, rfl, rfl, q7, hp2, Nat.le_trans (show rs.length + xs.length ≤ 10000000 + 512 * 400 by omega) (by rw [sizeLine_eq]; decide), ?_⟩
    obtain ⟨H3, e3⟩ : ∃ H3, H3 = upd H2 r (.lst (rs ++ xs)) := ⟨_, rfl⟩
    rw [← e3]
    have k3 : Kp [r] H2 H3 := e3 ▸ Kp.put (by simp) q7 fun ps z => by cases z
    have t3 : Kt H2 H3 := e3 ▸ Kt.put q7 fun ps z => by cases z
    have er : e ∉ [r] := by simpa using ne_of q1 q7 fun z => by cases z
    have pr : p ∉ [r] := by simpa using (pE r (by simp)).symm
    refine ⟨.ref p, rfl, q wi p xs H3 hwn np hwp.symm (k3.lst pr hp2) (tr2.kt t3) ⟨⟨dx, v, k3.ins er q1, q2.kt t3⟩, ⟨ws, k3.lst (by simpa using nd.2.1) q5, q6.kt t3⟩, ⟨ls, k3.lst (by simpa using nd.2.2) q3, q4.kt t3⟩, ⟨rs ++ xs, by rw [e3]; exact upd_same, ?_⟩, nd, b1, b2, b3⟩ ?_⟩
    · show TuA H3 _ ((st.R ++ (st.goN n).2).map rowD)
      rw [List.map_append]
      rw [g2] at q8
      exact (q8.app tr2).kt t3
    · refine Kp.drop np (k1.of0.tr ((k2.wk fun x z => ?_).tr (k3.wk fun x z => ?_)))
      · simp only [List.mem_cons, List.not_mem_nil, or_false] at z ⊢
        rcases z with z | z | z
        · exact .inl z
        · exact .inr (.inl z)
        · exact .inr (.inr (.inl z))
      · rw [List.mem_singleton.mp z]; simp
theorem go_binds (T : Tx K mg a) : ∃ ds, Vals [V.int 1] ds ∧ Binds K a.f_Embers_go ["self", "beats"] ds :=
  T.F_Embers_go.binds0 1 (by decide) rfl fun D doc pm an cdv ct us ks hl hk => match us, ks, hl, hk with
    | [u], [k], _, _ => ⟨_, _, _, _, _, _, rfl, rfl, rfl⟩
def spComing (C : Addr) : Sp := fun vs H Q _ => ∃ (e w l r : Addr) (s : EmS), vs = [.ref e] ∧ Emb C H e w l r s ∧ Q (.int s.b) H
theorem ok_coming (T : Tx K mg a) : FnOk P w K mg base CX0 1 a.a_Embers_coming a.f_Embers_coming ["self"] (spComing a.c_Embers) := by
  refine T.F_Embers_coming.ok sc_Embers_coming (fun vs H Q E h => ?_) (fun cdv A outer s H vs Q E hr h => ?_)
  · obtain ⟨e, w, l, r, s, rfl, _⟩ := h
    rfl
  obtain ⟨e, wp, l, r, st, rfl, hE, q⟩ := h
  refine ⟨_, (pss_one (ps_ret (pe_fld (pv 0) rfl))), ?_⟩
  obtain ⟨⟨dx, v, q1, _⟩, _⟩ := id hE
  exact ⟨.ref e, rfl, e, _, dx, _, _, rfl, q1, T.cl_Embers, T.na_Embers__beat, em_beat, q⟩
def spHappened (C : Addr) : Sp := fun vs H Q _ => ∃ (e w l r : Addr) (s : EmS), vs = [.ref e] ∧ Emb C H e w l r s ∧ ∀ p xs H', H p = none → H' p = some (.lst xs) → TuA H' xs (s.R.map rowD) → Kp [] H H' → Q (.ref p) H'
theorem ok_happened (T : Tx K mg a) : FnOk P w K mg base CX0 1 a.a_Embers_happened a.f_Embers_happened ["self"] (spHappened a.c_Embers) := by
  refine T.F_Embers_happened.ok sc_Embers_happened (fun vs H Q E h => ?_) (fun cdv A outer s H vs Q E hr h => ?_)
  · obtain ⟨e, w, l, r, s, rfl, _⟩ := h
    rfl
  obtain ⟨e, wp, l, r, st, rfl, hE, q⟩ := h
  refine ⟨_, (pss_one (ps_ret (pe_callTy call_list_of (by rfl) T.n_list (by decide +kernel) (pa_cons (pe_fld (pv 0) rfl) pa_nil)))), ?_⟩
  obtain ⟨⟨dx, v, q1, _⟩, _, _, ⟨rs, q7, q8⟩, _⟩ := id hE
  exact ⟨.ref e, rfl, e, _, dx, _, _, rfl, q1, T.cl_Embers, T.na_Embers__rows, em_rows, r, rs, rfl, .inl (SqL.of q7), fun p np => q p rs _ np upd_same (q8.kt (Kt.new np)) (Kp.new np)⟩
end

/-! ### the law's own plan and walk -/
section
variable {P : Program} {w : World} {K : PySem.W.Frag} {mg : Str → Option Value} {base : Heap} {a : Ad}
def spPlan : Sp := fun vs H Q _ => ∃ (p : Addr) (v : V) (N : Net) (long most n : Nat), vs = [.ref p, v, .int long, .int most] ∧ Jar H p n ∧ n < 80000 ∧ Tu H v (netD N) ∧ NetOk N ∧ 1 ≤ long ∧ long ≤ 100 ∧ 1 ≤ most ∧ most ≤ 100 ∧
  ∀ c ps css H', Bag H' c ps css → css.length = long → (∀ x ∈ c :: ps, H x = none) → (∀ g ∈ css, ∀ k ∈ g, k < N.length) → tot css ≤ most → Kp [p] H H' → Jar H' p (n + 300) → Q (.ref c) H'
theorem ok_law_plan (T : Tx K mg a) : FnOk P w K mg base CX0 2 a.a_law_plan a.f_law_plan ["jar", "land", "long", "most"] spPlan := by
  have G_law_pull := ok_law_pull (P := P) (w := w) (base := base) T
  refine T.law_plan.F.ok sc_law_plan (fun vs H Q E h => ?_) (fun cdv A outer s H vs Q E hr h => ?_)
  · obtain ⟨p, v, N, long, most, n, rfl, _⟩ := h
    rfl
  obtain ⟨p, v, N, long, most, n, rfl, hj, hn, hd, ok, hl1, hl2, hm1, hm2, q⟩ := h
  refine ⟨_, (pss_cons (ps_setLc (i := 4) (own := [("at", 5)]) (g := gName 5) (by rfl) sc_law_plan.nd rfl rfl (sw_true rfl rfl rfl (by decide +kernel)) (pi_range1 (by rfl) T.n_range (pa_cons (pv 2) pa_nil)) (blkOk_by (own := [("at", 5)]) (N := s_law_plan_N) (sc := defScope s_law_plan) (by decide +kernel)) (fun _ _ _ _ _ => (pg_name (i := 5) sc_law_plan.nd rfl (by first | exact .inl rfl | exact .inr rfl))) (fun _ _ _ _ _ => pts_nil) (fun _ _ _ _ _ => (pe_lst pa_nil)))
      (pss_cons (ps_set (i := 6) sc_law_plan.nd rfl (by first | exact .inl rfl | exact .inr rfl) (pe_ix ix_list (pe_lst (pa_cons (pv 2) (pa_cons pe_int pa_nil))) (pe_call G_law_pull (hr.mono (by decide)) (by rfl) T.law_pull.g T.law_pull.F.kp T.law_pull.b .nil pass0 (pa_cons (pv 0) (pa_cons pe_int pa_nil))) (fun _ _ => rfl)))
      (pss_cons (ps_for PassesOwn.never rfl (pi_range1 (by rfl) T.n_range (pa_cons (pe_op op_add pe_int (pe_call G_law_pull (hr.mono (by decide)) (by rfl) T.law_pull.g T.law_pull.F.kp T.law_pull.b .nil pass0 (pa_cons (pv 0) (pa_cons (pv 3) pa_nil)))) pa_nil)) (pg_name (i := 7) sc_law_plan.nd rfl (by first | exact .inl rfl | exact .inr rfl)) (pss_one (ps_expr (pe_bm PySem.F.plainAttrs_list PySem.F.slot_list_append PySem.F.type_list_append mt_append (pe_ix ix_list (pv 4) (pe_call G_law_pull (hr.mono (by decide)) (by rfl) T.law_pull.g T.law_pull.F.kp T.law_pull.b .nil pass0 (pa_cons (pv 0) (pa_cons (pe_callB (call_min2 rfl) (by rfl) T.n_min (by decide +kernel) (pa_cons (pv 6) (pa_cons (pv 2) pa_nil))) pa_nil))) (fun _ _ => rfl)) (pa_cons (pe_call G_law_pull (hr.mono (by decide)) (by rfl) T.law_pull.g T.law_pull.F.kp T.law_pull.b .nil pass0 (pa_cons (pv 0) (pa_cons (pe_callB call_len_seq (by rfl) T.n_len (by decide +kernel) (pa_cons (pv 1) pa_nil)) pa_nil))) pa_nil)))))
      (pss_one (ps_ret (pv 4)))))), ?_⟩
  have h12 := ok.hi
  have h01 := ok.lo
  have c8 : (100 : Int) < 2 ^ 8000 := by decide
  -- found = [[] for at in range(long)]
  refine ⟨.int long, rfl, long, rfl, by omega, by omega, fun c nc => lc_range (n := long) (fun j H' => ∃ ps, BagNew H c ps j H') ⟨[], BagNew.start nc⟩ (fun j H' hj hP => ?_) (fun H1 hP => ?_)⟩
  · obtain ⟨ps, hB⟩ := hP
    refine ⟨rfl, Nat.zero_le _, fun q5 nq5 => ⟨_, (hB.step nq5).1, ?_, _, (hB.step nq5).2⟩⟩
    have := hB.bag.len
    rw [List.length_replicate] at this
    rw [List.length_map]
    exact Nat.lt_of_lt_of_le (show ps.length < 1000 by omega) (by decide)
  obtain ⟨ps, hB⟩ := hP
  have j1 : Jar H1 p n := hj.kp hB.kp (by simp)
  have pB : ∀ x ∈ c :: ps, x ∉ [p] := fun x hx z => by
    rw [List.mem_singleton.mp z] at hx
    exact hj.tr (hB.new p hx)
  -- near = [long, 6][_law_pull(jar, 2)]
  refine ⟨.int long, rfl, by show 2 ≤ sizeLine; decide, fun l nl => ?_⟩
  have kl : Kp [] H1 (upd H1 l (.lst [.int long, .int 6])) := Kp.new nl
  refine ⟨.ref p, rfl, p, 2, n, rfl, by decide, by decide, j1.new nl, by omega, fun r1 H2 a1 b1 k2 j2 => ?_⟩
  obtain ⟨nv, hv, hm⟩ := at_mem (xs := [.int (long : Nat), .int 6]) a1 (by simpa using b1)
  refine ⟨l, _, r1, nv, rfl, rfl, SqL.of (k2.lst (j1.ni nl) upd_same), hv, ?_⟩
  obtain ⟨nr, rfl, hnr⟩ : ∃ nr : Int, nv = .int nr ∧ 1 ≤ nr := by
    simp only [List.mem_cons, List.not_mem_nil, or_false] at hm
    rcases hm with rfl | rfl
    · exact ⟨_, rfl, by omega⟩
    · exact ⟨_, rfl, by decide⟩
  have k12 : Kp [p] H1 H2 := kl.of0.tr k2
  have hB2 : Bag H2 c ps (List.replicate long []) := hB.bag.kp k12 pB
  have t12 : Kt H1 H2 := k12.kt j1.nt
  have tH1 := hB.kp.kt0
  -- for turn in range(1 + _law_pull(jar, most))
  refine ⟨.ref p, rfl, .int most, rfl, p, most, _, rfl, by omega, by omega, j2, by omega, fun r2 H3 a3 b3 k3 j3 => ⟨_, _, rfl, rfl, ?_⟩⟩
  have htm : (1 + r2).toNat ≤ most := by omega
  have hB3 : Bag H3 c ps (List.replicate long []) := hB2.kp k3 pB
  have t13 : Kt H1 H3 := t12.tr (k3.kt j2.nt)
  refine ⟨1 + r2, rfl, by omega, by omega, for_range (n := (1 + r2).toNat) (fun i σ H' => ∃ (o7 : Option V) (css : List (List Nat)), σ = [some (.ref p), some v, some (.int long), some (.int most), some (.ref c), none, some (.int nr), o7] ∧ Bag H' c ps css ∧ css.length = long ∧ (∀ g ∈ css, ∀ k ∈ g, k < N.length) ∧ tot css ≤ i ∧ Kp (p :: ps) H3 H' ∧ Kt H3 H' ∧ Jar H' p (n + 2 + 2 * i)) ⟨none, _, rfl, hB3, List.length_replicate, fun g hg k hk => ?_, by rw [tot_rep]; exact Nat.zero_le _, .rfl', .rfl', j3⟩ (fun i σ H4 hi hP => ?_) (fun σ H4 hP => ?_)⟩
  · rw [(List.mem_replicate.mp hg).2] at hk
    cases hk
  · obtain ⟨o7, css, rfl, hB4, hcl, hlt, htt, k4, t4, j4⟩ := hP
    refine ⟨.ref c, rfl, .ref p, rfl, .int nr, rfl, .int long, rfl, _, _, rfl, ?_⟩
    obtain ⟨mn, hmn, hmn1, hmn2⟩ : ∃ mn : Int, mn = (if (long : Int) < nr then (long : Int) else nr) ∧ 1 ≤ mn ∧ mn ≤ long := by
      refine ⟨_, rfl, ?_, ?_⟩ <;> split <;> omega
    rw [← hmn]
    refine ⟨p, mn, _, rfl, by omega, by omega, j4, by omega, fun r4 H5 a5 b5 k5 j5 => ?_⟩
    obtain ⟨jx, rfl⟩ := Int.eq_ofNat_of_zero_le a5
    have hB5 := hB4.kp k5 pB
    obtain ⟨pp, g, hg, hpp, hppv, hHp, hpm⟩ := hB5.get (i := jx) (by omega)
    refine ⟨c, _, jx, .ref pp, rfl, rfl, SqL.of hB5.top, atI_nat hppv, .inl ⟨rfl, _, SqL.of hHp⟩, ?_⟩
    have t5 : Kt H3 H5 := t4.tr (k5.kt j4.nt)
    obtain ⟨ad, xs, rfl, hx5, hl5, _⟩ := tnet_at (hd.kt (tH1.tr (t13.tr t5)))
    refine ⟨.ref p, rfl, .ref ad, rfl, ad, xs, rfl, .inr (SqT.of hx5), p, _, _, rfl, by omega, by omega, j5, by omega, fun r6 H6 a6 b6 k6 j6 => ?_⟩
    obtain ⟨kx, rfl⟩ := Int.eq_ofNat_of_zero_le a6
    have hB6 := hB5.kp k6 pB
    have hHp6 := hB6.at_ jx pp g hpp hg
    have lg := tot_mem (List.mem_of_getElem? hg)
    refine ⟨pp, natV g, .int kx, rfl, rfl, hHp6, ?_, ?_⟩
    · rw [natV_len]
      exact Nat.lt_of_lt_of_le (show g.length < 1000 by omega) (by decide)
    rw [← natV_app]
    have ppp : pp ∉ [p] := pB pp (List.mem_cons_of_mem _ hpm)
    have k7 : Kp [pp] H6 (upd H6 pp (.lst (natV (g ++ [kx])))) := Kp.put (by simp) hHp6 fun ps z => by cases z
    have t7 : Kt H6 (upd H6 pp (.lst (natV (g ++ [kx])))) := Kt.put hHp6 fun ps z => by cases z
    have hB7 := hB6.put hpp (g ++ [kx])
    have ex : css.set jx (g ++ [kx]) = css.set jx (css.getD jx [] ++ [kx]) := by rw [getD_css hg]
    refine ⟨_, css.set jx (g ++ [kx]), rfl, hB7, by rw [List.length_set]; exact hcl, fun g' hg' k hk => ?_, ?_, k4.tr ((k5.wk fun x z => ?_).tr ((k6.wk fun x z => ?_).tr (k7.wk fun x z => ?_))), t5.tr ((k6.kt j5.nt).tr t7), (j6.kp k7 (by
      have : pp ≠ p := by simpa using ppp
      simpa using this.symm)).mono (by omega)⟩
    · rcases List.mem_or_eq_of_mem_set hg' with z | z
      · exact hlt g' z k hk
      · rw [z] at hk
        rcases List.mem_append.mp hk with y | y
        · exact hlt g (List.mem_of_getElem? hg) k y
        · rw [List.mem_singleton.mp y]
          omega
    · rw [ex]
      have := tot_put css jx kx
      omega
    · rw [List.mem_singleton.mp z]; exact List.mem_cons_self
    · rw [List.mem_singleton.mp z]; exact List.mem_cons_self
    · rw [List.mem_singleton.mp z]; exact List.mem_cons_of_mem _ hpm
  · obtain ⟨o7, css, rfl, hB4, hcl, hlt, htt, k4, t4, j4⟩ := hP
    have kA : Kp (p :: ps) H H4 := hB.kp.of0.tr ((k12.wk fun x z => by rw [List.mem_singleton.mp z]; exact List.mem_cons_self).tr ((k3.wk fun x z => by rw [List.mem_singleton.mp z]; exact List.mem_cons_self).tr k4))
    refine ⟨.ref c, rfl, q c ps css H4 hB4 hcl hB.new hlt (by omega) ⟨fun b o nb h t => kA.at_ b o (fun z => ?_) h t, kA.tab, kA.tr_⟩ (j4.mono (by omega))⟩
    rcases List.mem_cons.mp z with z | z
    · exact nb (by simp [z])
    · rw [hB.new b (List.mem_cons_of_mem _ z)] at h
      cases h
def spCame : Sp := fun vs H Q _ => ∃ (bp c : Addr) (ps : List Addr) (css : List (List Nat)) (b : Nat) (L : List Lt) (bs : List V), vs = [.ref bp, .ref c, .int b] ∧ H bp = some (.lst bs) ∧ TuA H bs (L.map (burnD b)) ∧ Bag H c ps css ∧ css.length = L.length ∧ bp ∉ c :: ps ∧ tot css ≤ 1000 ∧ L.length ≤ 12 ∧
  ∀ p xs bs' H', H p = none → H' p = some (.lst xs) → TuA H' xs ((meetN b css L.length ⟨L, []⟩).rows.map rowD) → H' bp = some (.lst bs') → TuA H' bs' ((meetN b css L.length ⟨L, []⟩).L.map (burnD b)) → Kp [bp] H H' → Q (.ref p) H'
theorem ok_law_came (T : Tx K mg a) : FnOk P w K mg base CX0 1 a.a_law_came a.f_law_came ["burns", "come", "at"] spCame := by
  refine T.law_came.F.ok sc_law_came (fun vs H Q E h => ?_) (fun cdv A outer s H vs Q E hr h => ?_)
  · obtain ⟨bp, c, ps, css, b, L, bs, rfl, _⟩ := h
    rfl
  obtain ⟨bp, c, ps, css, b, L, bs, rfl, hb, tb, hB, hcl, hbc, htt, hL, q⟩ := h
  refine ⟨_, (pss_cons (ps_set (i := 3) sc_law_came.nd rfl (by first | exact .inl rfl | exact .inr rfl) (pe_lst pa_nil))
      (pss_cons (ps_for PassesOwn.never rfl (pi_range1 (by rfl) T.n_range (pa_cons (pe_callB call_len_seq (by rfl) T.n_len (by decide +kernel) (pa_cons (pv 0) pa_nil)) pa_nil)) (pg_name (i := 4) sc_law_came.nd rfl (by first | exact .inl rfl | exact .inr rfl)) (pss_one (ps_for PassesOwn.never rfl (pi_list (pe_callB cr_sortedI (by rfl) T.n_sorted (by decide +kernel) (pa_cons (pe_ix ix_list (pv 1) (pv 4) (fun _ _ => rfl)) pa_nil))) (pg_name (i := 5) sc_law_came.nd rfl (by first | exact .inl rfl | exact .inr rfl)) (pss_one (ps_if (pt_cmpR op_isN (pe_ix ix_list (pv 0) (pv 4) (fun _ _ => rfl)) pe_non (nomark _)) (pss_cons (ps_asg (pe_tup (pa_cons (pv 5) (pa_cons pe_int pa_nil))) (pg_sub (pv 0) (pv 4) set_list))
      (pss_one (ps_expr (pe_bm PySem.F.plainAttrs_list PySem.F.slot_list_append PySem.F.type_list_append mt_append (pv 3) (pa_cons (pe_tup (pa_cons pe_str (pa_cons (pv 2) (pa_cons (pv 4) (pa_cons (pv 5) pa_nil))))) pa_nil))))) (pss_one (ps_expr (pe_bm PySem.F.plainAttrs_list PySem.F.slot_list_append PySem.F.type_list_append mt_append (pv 3) (pa_cons (pe_tup (pa_cons pe_str (pa_cons (pv 2) (pa_cons (pv 4) (pa_cons (pv 5) (pa_cons (pe_ix ix_tup (pe_ix ix_list (pv 0) (pv 4) (fun _ _ => rfl)) pe_int (fun _ _ => rfl)) pa_nil)))))) pa_nil)))))))))
      (pss_one (ps_ret (pv 3))))), ?_⟩
  -- rows = []
  refine ⟨Nat.zero_le _, fun p np => ?_⟩
  obtain ⟨H1, e1⟩ : ∃ H1, H1 = upd H p (.lst []) := ⟨_, rfl⟩
  rw [← e1]
  have k1 : Kp [] H H1 := e1 ▸ Kp.new np
  have hp1 : H1 p = some (.lst []) := by rw [e1]; exact upd_same
  have hb1 := k1.lst (by simp) hb
  have tb1 := tb.kt k1.kt0
  have hB1 := hB.kp k1 fun _ _ => by simp
  have pb : p ≠ bp := (ne_of_none hb np).symm
  have pB : ∀ x ∈ c :: ps, x ∉ [p, bp] := fun x hx z => by
    simp only [List.mem_cons, List.not_mem_nil, or_false] at z
    rcases z with z | z
    · exact hB.tr x hx (z ▸ np)
    · exact hbc (z ▸ hx)
  have lbs : bs.length = L.length := by
    have := tb.len
    rwa [List.length_map] at this
  obtain ⟨M, hM⟩ : ∃ M : Nat → Ms, M = fun i => meetN b css i ⟨L, []⟩ := ⟨_, rfl⟩
  have M0 : ∀ i, (M i).L.length = L.length ∧ (M i).rows.length ≤ 1000 := fun i => by
    rw [hM]
    obtain ⟨a1, a2⟩ := meetN_len b css ⟨L, []⟩ i
    refine ⟨a1, Nat.le_trans a2 ?_⟩
    have := tot_take css i
    show 0 + _ ≤ _
    omega
  -- for k in range(len(burns))
  refine ⟨.ref bp, rfl, bp, bs, rfl, .inl (SqL.of hb1), L.length, by rw [lbs], by omega, by omega, for_range (n := L.length) (fun i σ H' => ∃ (o4 o5 : Option V) (xs bs' : List V), σ = [some (.ref bp), some (.ref c), some (.int b), some (.ref p), o4, o5] ∧ H' p = some (.lst xs) ∧ TuA H' xs ((M i).rows.map rowD) ∧ H' bp = some (.lst bs') ∧ TuA H' bs' ((M i).L.map (burnD b)) ∧ Kp [p, bp] H1 H' ∧ Kt H1 H') ⟨none, none, [], bs, rfl, hp1, by rw [hM]; exact .nil, hb1, by rw [hM]; exact tb1, .rfl', .rfl'⟩ (fun i σ H2 hi hP => ?_) (fun σ H2 hP => ?_)⟩
  · obtain ⟨o4, o5, xs, bs2, rfl, hp2, tr2, hb2, tb2, k2, t2⟩ := hP
    rw [show (0 + (i : Int)) = (i : Int) by omega]
    have hB2 := hB1.kp k2 pB
    obtain ⟨pp, g, hg, hpp, hppv, hHp, hpm⟩ := hB2.get (i := i) (by omega)
    obtain ⟨l0, hl0⟩ : ∃ l0, (M i).L[i]? = some l0 := ⟨(M i).L[i]'(by rw [(M0 i).1]; exact hi), List.getElem?_eq_getElem _⟩
    have hl0g := getD_some hl0
    obtain ⟨fs, hfs⟩ : ∃ fs, fs = srt g := ⟨_, rfl⟩
    have lfs : fs.length ≤ 1000 := by
      have := tot_mem (List.mem_of_getElem? hg)
      rw [hfs, srt_len]
      omega
    have eM : M (i + 1) = ⟨(M i).L.set i (meet b i l0 fs).1, (M i).rows ++ (meet b i l0 fs).2⟩ := by
      rw [hM]
      show meetK b css i _ = _
      unfold meetK
      rw [getD_css hg, ← hfs]
      have : (meetN b css i ⟨L, []⟩).L.getD i none = l0 := by rw [hM] at hl0g; exact hl0g
      rw [this]
    -- for flame in sorted(come[k])
    refine ⟨.ref c, rfl, .int i, rfl, c, _, i, .ref pp, rfl, rfl, SqL.of hB2.top, atI_nat hppv, pp, _, rfl, by rw [← natV_map]; exact SqL.of hHp, fun ns' sp_ hperm hup nsp => ?_⟩
    have hns := srt_of hperm hup
    subst hns
    rw [← natV_map, ← hfs]
    have k3 : Kp [] H2 (upd H2 sp_ (.lst (natV fs))) := Kp.new nsp
    obtain ⟨H3, e3⟩ : ∃ H3, H3 = upd H2 sp_ (.lst (natV fs)) := ⟨_, rfl⟩
    rw [← e3] at k3 ⊢
    have hs3 : H3 sp_ = some (.lst (natV fs)) := by rw [e3]; exact upd_same
    have sp1 : sp_ ∉ [p, bp] := by
      have h1 : p ≠ sp_ := ne_of_none hp2 nsp
      have h2 : bp ≠ sp_ := ne_of_none hb2 nsp
      simp [h1.symm, h2.symm]
    refine ⟨sp_, rfl, ⟨_, SqL.of hs3⟩, for_list (xs := natV fs) (fun j σ H' => ∃ (o5 : Option V) (xs bs' : List V), σ = [some (.ref bp), some (.ref c), some (.int b), some (.ref p), some (.int i), o5] ∧ H' p = some (.lst xs) ∧ TuA H' xs (((M i).rows ++ (meet b i l0 (fs.take j)).2).map rowD) ∧ H' bp = some (.lst bs') ∧ TuA H' bs' (((M i).L.set i (meet b i l0 (fs.take j)).1).map (burnD b)) ∧ Kp [p, bp] H3 H' ∧ Kt H3 H') ⟨o5, xs, bs2, rfl, k3.lst (by simp) hp2, ?_, k3.lst (by simp) hb2, ?_, .rfl', .rfl'⟩ (fun j σ H' _ hP => ?_) (fun j z σ H4 hz hP => ?_) (fun σ H4 hP => ?_)⟩
    · have : (meet b i l0 []).2 = [] := by rcases l0 with _ | ⟨_, _⟩ <;> rfl
      show TuA H3 xs (((M i).rows ++ (meet b i l0 []).2).map rowD)
      rw [this, List.append_nil]
      exact tr2.kt k3.kt0
    · have : (meet b i l0 []).1 = l0 := by rcases l0 with _ | ⟨_, _⟩ <;> rfl
      show TuA H3 bs2 (((M i).L.set i (meet b i l0 []).1).map (burnD b))
      rw [this, set_self hl0]
      exact tb2.kt k3.kt0
    · obtain ⟨_, _, _, _, _, _, _, _, k4, _⟩ := hP
      exact SqL.of (k4.lst sp1 hs3)
    · obtain ⟨o5, xs4, bs4, rfl, hp4, tr4, hb4, tb4, k4, t4⟩ := hP
      obtain ⟨f, hf, rfl⟩ : ∃ f : Nat, fs[j]? = some f ∧ z = .int (f : Int) := by
        unfold natV at hz
        rw [List.getElem?_map] at hz
        cases q1 : fs[j]? with
        | none => rw [q1] at hz; cases hz
        | some u => rw [q1] at hz; exact ⟨u, rfl, (Option.some.inj hz).symm⟩
      obtain ⟨m, hm⟩ : ∃ m, m = meet b i l0 (fs.take j) := ⟨_, rfl⟩
      have eT : fs.take (j + 1) = fs.take j ++ [f] := by rw [List.take_add_one, hf]; rfl
      have eS := meet_snoc b i f l0 (fs.take j)
      rw [← eT, ← hm] at eS
      rw [← hm] at tr4 tb4
      have hiL : i < (M i).L.length := by rw [(M0 i).1]; exact hi
      have hlm : ((M i).L.set i m.1)[i]? = some m.1 := List.getElem?_set_self hiL
      obtain ⟨lv, hlv, tlv⟩ := tb4.get' (i := i) (d := burnD b m.1) (by rw [List.getElem?_map, hlm]; rfl)
      have lb4 : bs4.length = L.length := by
        have := tb4.len
        rw [List.length_map, List.length_set] at this
        exact this.trans (M0 i).1
      have lx4 : xs4.length ≤ 3000 := by
        have h1 := tr4.len
        rw [List.length_map, List.length_append] at h1
        have h2 := (M0 i).2
        have h3 : m.2.length ≤ 1000 := by rw [hm, meet_len, List.length_take]; omega
        omega
      have lx5 : xs4.length < sizeLine := Nat.lt_of_lt_of_le (show xs4.length < 4000 by omega) (by decide)
      -- if burns[k] is None
      refine ⟨.ref bp, rfl, .int i, rfl, bp, bs4, i, lv, rfl, rfl, SqL.of hb4, atI_nat hlv, rfl, _, rfl, ?_⟩
      rcases burn_at tlv with ⟨hm1, rfl⟩ | ⟨g0, t0, la, hm1, rfl, hla⟩
      · rw [hm1] at eS
        refine iteT ?_
        -- burns[k] = (flame, 0)
        refine ⟨.int f, rfl, by show 2 ≤ sizeLine; decide, fun tp ntp => ?_⟩
        have k5 : Kp [] H4 (upd H4 tp (.tup [.int (f : Nat), .int 0])) := Kp.new ntp
        refine ⟨.ref bp, rfl, .int i, rfl, bp, bs4, i, i, rfl, rfl, k5.lst (by simp) hb4, Evl.ixN_nat (by omega), ?_⟩
        obtain ⟨H5, e5⟩ : ∃ H5, H5 = upd H4 tp (.tup [.int (f : Nat), .int 0]) := ⟨_, rfl⟩
        rw [← e5] at k5 ⊢
        have htp5 : H5 tp = some (.tup [.int (f : Nat), .int 0]) := by rw [e5]; exact upd_same
        have hb5 := k5.lst (by simp) hb4
        obtain ⟨H6, e6⟩ : ∃ H6, H6 = upd H5 bp (.lst (bs4.set i (.ref tp))) := ⟨_, rfl⟩
        rw [← e6]
        have k6 : Kp [bp] H5 H6 := e6 ▸ Kp.put (by simp) hb5 fun ps z => by cases z
        have t6 : Kt H5 H6 := e6 ▸ Kt.put hb5 fun ps z => by cases z
        have hp6 := k6.lst (by simpa using pb) (k5.lst (by simp) hp4)
        have hb6 : H6 bp = some (.lst (bs4.set i (.ref tp))) := by rw [e6]; exact upd_same
        -- rows.append(("lit", at, k, flame))
        refine ⟨.ref p, rfl, .inl ⟨rfl, _, SqL.of hp6⟩, .int b, rfl, .int i, rfl, .int f, rfl, by show 4 ≤ sizeLine; decide, fun t7 nt7 => ?_⟩
        have k7 : Kp [] H6 (upd H6 t7 (.tup [.str "lit", .int b, .int i, .int f])) := Kp.new nt7
        refine ⟨p, xs4, .ref t7, rfl, rfl, k7.lst (by simp) hp6, lx5, ?_⟩
        obtain ⟨H7, e7⟩ : ∃ H7, H7 = upd H6 t7 (.tup [.str "lit", .int b, .int i, .int f]) := ⟨_, rfl⟩
        rw [← e7] at k7 ⊢
        have ht7 : H7 t7 = some (.tup [.str "lit", .int b, .int i, .int f]) := by rw [e7]; exact upd_same
        have hp7 := k7.lst (by simp) hp6
        obtain ⟨H8, e8⟩ : ∃ H8, H8 = upd H7 p (.lst (xs4 ++ [.ref t7])) := ⟨_, rfl⟩
        rw [← e8]
        have k8 : Kp [p] H7 H8 := e8 ▸ Kp.put (by simp) hp7 fun ps z => by cases z
        have t8 : Kt H7 H8 := e8 ▸ Kt.put hp7 fun ps z => by cases z
        have t68 : Kt H6 H8 := k7.kt0.tr t8
        have t48 : Kt H4 H8 := k5.kt0.tr (t6.tr t68)
        refine ⟨_, xs4 ++ [.ref t7], _, rfl, by rw [e8]; exact upd_same, ?_, k8.lst (by simpa using pb.symm) (k7.lst (by simp) hb6), ?_, k4.tr (k5.of0.tr ((k6.wk fun x z => ?_).tr (k7.of0.tr (k8.wk fun x z => ?_)))), t4.tr t48⟩
        · rw [eS, ← List.append_assoc, List.map_append]
          exact (tr4.kt t48).app (.cons (.tup (t8 _ _ ht7) (.cons (.str _) (.cons (.int _) (.cons (.int _) (.cons (.int _) .nil))))) .nil)
        · rw [eS]
          have e9 : (M i).L.set i (some (f, b)) = ((M i).L.set i m.1).set i (some (f, b)) := by rw [List.set_set]
          show TuA H8 _ (((M i).L.set i (some (f, b))).map (burnD b))
          rw [e9, List.map_set]
          refine (tb4.kt t48).set (.tup ((t6.tr t68) _ _ htp5) (.cons (.int _) (.cons ?_ .nil))) i
          rw [show ((b : Int) - (b : Nat)) = 0 by omega]
          exact .int 0
        · rw [List.mem_singleton.mp z]; simp
        · rw [List.mem_singleton.mp z]; simp
      · rw [hm1] at eS
        refine iteF ?_
        refine ⟨.ref p, rfl, .inl ⟨rfl, _, SqL.of hp4⟩, .int b, rfl, .int i, rfl, .int f, rfl, .ref bp, rfl, .int i, rfl, bp, bs4, i, .ref la, rfl, rfl, SqL.of hb4, atI_nat hlv, la, _, 0, .int (g0 : Nat), rfl, rfl, SqT.of hla, atI_nat (j := 0) rfl, by show 5 ≤ sizeLine; decide, fun t7 nt7 => ?_⟩
        have k7 : Kp [] H4 (upd H4 t7 (.tup [.str "lost", .int b, .int i, .int f, .int g0])) := Kp.new nt7
        refine ⟨p, xs4, .ref t7, rfl, rfl, k7.lst (by simp) hp4, lx5, ?_⟩
        obtain ⟨H7, e7⟩ : ∃ H7, H7 = upd H4 t7 (.tup [.str "lost", .int b, .int i, .int f, .int g0]) := ⟨_, rfl⟩
        rw [← e7] at k7 ⊢
        have ht7 : H7 t7 = some (.tup [.str "lost", .int b, .int i, .int f, .int g0]) := by rw [e7]; exact upd_same
        have hp7 := k7.lst (by simp) hp4
        obtain ⟨H8, e8⟩ : ∃ H8, H8 = upd H7 p (.lst (xs4 ++ [.ref t7])) := ⟨_, rfl⟩
        rw [← e8]
        have k8 : Kp [p] H7 H8 := e8 ▸ Kp.put (by simp) hp7 fun ps z => by cases z
        have t8 : Kt H7 H8 := e8 ▸ Kt.put hp7 fun ps z => by cases z
        have t48 : Kt H4 H8 := k7.kt0.tr t8
        refine ⟨_, xs4 ++ [.ref t7], bs4, rfl, by rw [e8]; exact upd_same, ?_, k8.lst (by simpa using pb.symm) (k7.lst (by simp) hb4), ?_, k4.tr (k7.of0.tr (k8.wk fun x z => ?_)), t4.tr t48⟩
        · rw [eS, ← List.append_assoc, List.map_append]
          exact (tr4.kt t48).app (.cons (.tup (t8 _ _ ht7) (.cons (.str _) (.cons (.int _) (.cons (.int _) (.cons (.int _) (.cons (.int _) .nil)))))) .nil)
        · rw [eS]
          rw [hm1] at tb4
          exact tb4.kt t48
        · rw [List.mem_singleton.mp z]; simp
    · obtain ⟨o5, xs4, bs4, rfl, hp4, tr4, hb4, tb4, k4, t4⟩ := hP
      rw [natV_len, List.take_length] at tr4 tb4
      refine ⟨_, _, xs4, bs4, rfl, hp4, by rw [eM]; exact tr4, hb4, by rw [eM]; exact tb4, k2.tr (k3.of0.tr k4), t2.tr (k3.kt0.tr t4)⟩
  · obtain ⟨o4, o5, xs, bs2, rfl, hp2, tr2, hb2, tb2, k2, t2⟩ := hP
    rw [hM] at tr2 tb2
    exact ⟨.ref p, rfl, q p xs bs2 H2 np hp2 tr2 hb2 tb2 (Kp.drop np (k1.of0.tr k2))⟩
def spWalked : Sp := fun vs H Q _ => ∃ (v : V) (c : Addr) (ps : List Addr) (css : List (List Nat)) (N : Net), vs = [v, .ref c] ∧ Tu H v (netD N) ∧ NetOk N ∧ Bag H c ps css ∧ (∀ g ∈ css, ∀ k ∈ g, k < N.length) ∧ css.length ≤ 100 ∧ tot css ≤ 200 ∧
  ∀ t rp sp xs ys H', H' t = some (.tup [.ref rp, .ref sp]) → H rp = none → H sp = none → rp ≠ sp → H' rp = some (.lst xs) → TuA H' xs ((wk N css css.length).rows.map rowD) → H' sp = some (.lst ys) → Stood H' [rp, sp] N css css.length ys → (∀ (j : Nat) (q : Addr), ys[j]? = some (.ref q) → H q = none) → Kp [] H H' → Q (.ref t) H'
theorem ok_law_walked (T : Tx K mg a) : FnOk P w K mg base CX0 2 a.a_law_walked a.f_law_walked ["land", "plan"] spWalked := by
  have G_law_came := ok_law_came (P := P) (w := w) (base := base) T
  refine T.law_walked.F.ok sc_law_walked (fun vs H Q E h => ?_) (fun cdv A outer s H vs Q E hr h => ?_)
  · obtain ⟨v, c, ps, css, N, rfl, _⟩ := h
    rfl
  obtain ⟨v, c, ps, css, N, rfl, hd, ok, hB, hlt, hcl, htt, q⟩ := h
  refine ⟨_, (pss_cons (ps_set (i := 2) sc_law_walked.nd rfl (by first | exact .inl rfl | exact .inr rfl) (pe_op op_rep (pe_lst (pa_cons pe_non pa_nil)) (pe_callB call_len_seq (by rfl) T.n_len (by decide +kernel) (pa_cons (pv 0) pa_nil))))
      (pss_cons (ps_set (i := 3) sc_law_walked.nd rfl (by first | exact .inl rfl | exact .inr rfl) (pe_lst pa_nil))
      (pss_cons (ps_set (i := 4) sc_law_walked.nd rfl (by first | exact .inl rfl | exact .inr rfl) (pe_lst pa_nil))
      (pss_cons (ps_set (i := 5) sc_law_walked.nd rfl (by first | exact .inl rfl | exact .inr rfl) pe_int)
      (pss_cons (ps_for PassesOwn.never rfl (pi_range1 (by rfl) T.n_range (pa_cons (pe_callB call_len_seq (by rfl) T.n_len (by decide +kernel) (pa_cons (pv 1) pa_nil)) pa_nil)) (pg_name (i := 6) sc_law_walked.nd rfl (by first | exact .inl rfl | exact .inr rfl)) (pss_cons (ps_setLc (i := 7) (own := [("k", 8)]) (g := gName 8) (by rfl) sc_law_walked.nd rfl rfl (sw_true rfl rfl rfl (by decide +kernel)) (pi_range1 (by rfl) T.n_range (pa_cons (pe_callB call_len_seq (by rfl) T.n_len (by decide +kernel) (pa_cons (pv 0) pa_nil)) pa_nil)) (blkOk_by (own := [("k", 8)]) (N := s_law_walked_N) (sc := defScope s_law_walked) (by decide +kernel)) (fun _ _ _ _ _ => (pg_name (i := 8) sc_law_walked.nd rfl (by first | exact .inl rfl | exact .inr rfl))) (fun _ _ _ _ _ => pts_nil) (fun _ _ _ _ _ => (pe_lst pa_nil)))
      (pss_cons (ps_for PassesOwn.never rfl (pi_range1 (by rfl) T.n_range (pa_cons (pe_callB call_len_seq (by rfl) T.n_len (by decide +kernel) (pa_cons (pv 0) pa_nil)) pa_nil)) (pg_name (i := 8) sc_law_walked.nd rfl (by first | exact .inl rfl | exact .inr rfl)) (pss_one (ps_if (pt_cmpR op_notN (pe_ix ix_list (pv 2) (pv 8) (fun _ _ => rfl)) pe_non (nomark _)) (pss_cons (ps_asg (pe_tup (pa_cons (pe_ix ix_tup (pe_ix ix_list (pv 2) (pv 8) (fun _ _ => rfl)) pe_int (fun _ _ => rfl)) (pa_cons (pe_op op_add (pe_ix ix_tup (pe_ix ix_list (pv 2) (pv 8) (fun _ _ => rfl)) pe_int (fun _ _ => rfl)) pe_int) pa_nil))) (pg_sub (pv 2) (pv 8) set_list))
      (pss_one (ps_if (pt_cmpR op_eq (pe_ix ix_tup (pe_ix ix_list (pv 2) (pv 8) (fun _ _ => rfl)) pe_int (fun _ _ => rfl)) (pe_ix ix_tup (pe_ix ix_tup (pv 0) (pv 8) (fun _ _ => rfl)) pe_int (fun _ _ => rfl)) (nomark _)) (pss_cons (ps_if (pt_cmpR op_isN (pe_ix ix_tup (pe_ix ix_tup (pv 0) (pv 8) (fun _ _ => rfl)) pe_int (fun _ _ => rfl)) pe_non (nomark _)) (pss_one (ps_expr (pe_bm PySem.F.plainAttrs_list PySem.F.slot_list_append PySem.F.type_list_append mt_append (pv 3) (pa_cons (pe_tup (pa_cons pe_str (pa_cons (pv 6) (pa_cons (pv 8) (pa_cons (pe_ix ix_tup (pe_ix ix_list (pv 2) (pv 8) (fun _ _ => rfl)) pe_int (fun _ _ => rfl)) pa_nil))))) pa_nil)))) (pss_one (ps_expr (pe_bm PySem.F.plainAttrs_list PySem.F.slot_list_append PySem.F.type_list_append mt_append (pe_ix ix_list (pv 7) (pe_ix ix_tup (pe_ix ix_tup (pv 0) (pv 8) (fun _ _ => rfl)) pe_int (fun _ _ => rfl)) (fun _ _ => rfl)) (pa_cons (pe_ix ix_tup (pe_ix ix_list (pv 2) (pv 8) (fun _ _ => rfl)) pe_int (fun _ _ => rfl)) pa_nil)))))
      (pss_one (ps_asg pe_non (pg_sub (pv 2) (pv 8) set_list)))) pss_nil))) pss_nil)))
      (pss_cons (ps_for PassesOwn.never rfl (pi_list (pe_ix ix_list (pv 1) (pv 6) (fun _ _ => rfl))) (pg_name (i := 8) sc_law_walked.nd rfl (by first | exact .inl rfl | exact .inr rfl)) (pss_cons (ps_expr (pe_bm PySem.F.plainAttrs_list PySem.F.slot_list_append PySem.F.type_list_append mt_append (pe_ix ix_list (pv 7) (pv 8) (fun _ _ => rfl)) (pa_cons (pv 5) pa_nil)))
      (pss_one (ps_set (i := 5) sc_law_walked.nd rfl (by first | exact .inl rfl | exact .inr rfl) (pe_op op_add (pv 5) pe_int)))))
      (pss_cons (ps_expr (pe_bm PySem.F.plainAttrs_list PySem.F.slot_list_extend PySem.F.type_list_extend mt_extend (pv 3) (pa_cons (pe_call G_law_came (hr.mono (by decide)) (by rfl) T.law_came.g T.law_came.F.kp T.law_came.b .nil pass0 (pa_cons (pv 2) (pa_cons (pv 7) (pa_cons (pv 6) pa_nil)))) pa_nil)))
      (pss_one (ps_expr (pe_bm PySem.F.plainAttrs_list PySem.F.slot_list_append PySem.F.type_list_append mt_append (pv 4) (pa_cons (pe_callTy call_list_of (by rfl) T.n_list (by decide +kernel) (pa_cons (pv 2) pa_nil)) pa_nil)))))))))
      (pss_one (ps_ret (pe_tup (pa_cons (pv 3) (pa_cons (pv 4) pa_nil)))))))))), ?_⟩
  have h12 := ok.hi
  obtain ⟨ad, xn, rfl, hx, hln, _⟩ := tnet_at hd
  -- burns = [None] * len(land)
  refine ⟨by show 1 ≤ sizeLine; decide, fun l0 nl0 => ?_⟩
  have k0 : Kp [] H (upd H l0 (.lst [.non])) := Kp.new nl0
  refine ⟨.ref ad, rfl, ad, xn, rfl, .inr (SqT.of (k0.kt0 _ _ hx)), l0, _, _, rfl, rfl, upd_same, by omega, by omega, ?_, fun bp nbp => ?_⟩
  · rw [hln]
    exact Nat.le_trans (show [V.non].length * ((N.length : Int)).toNat ≤ 12 by show 1 * _ ≤ 12; omega) (by decide)
  have erep : (List.replicate ((xn.length : Int)).toNat [V.non]).flatten = List.replicate N.length .non := by
    rw [hln, Int.toNat_natCast]
    generalize N.length = m
    induction m with
    | zero => rfl
    | succ m ih => rw [List.replicate_succ, List.flatten_cons, ih]; rfl
  rw [erep]
  obtain ⟨Ha, ea⟩ : ∃ Ha, Ha = upd (upd H l0 (.lst [.non])) bp (.lst (List.replicate N.length .non)) := ⟨_, rfl⟩
  rw [← ea]
  have ka : Kp [] H Ha := ea ▸ k0.tr (Kp.new nbp)
  have hba : Ha bp = some (.lst (List.replicate N.length .non)) := by rw [ea]; exact upd_same
  -- rows = [], stands = []
  refine ⟨Nat.zero_le _, fun rp nrp => ?_⟩
  obtain ⟨Hb, eb⟩ : ∃ Hb, Hb = upd Ha rp (.lst []) := ⟨_, rfl⟩
  rw [← eb]
  have kb : Kp [] Ha Hb := eb ▸ Kp.new nrp
  have hrb : Hb rp = some (.lst []) := by rw [eb]; exact upd_same
  refine ⟨Nat.zero_le _, fun sp nsp => ?_⟩
  obtain ⟨H1, e1⟩ : ∃ H1, H1 = upd Hb sp (.lst []) := ⟨_, rfl⟩
  rw [← e1]
  have k1 : Kp [] Hb H1 := e1 ▸ Kp.new nsp
  have hs1 : H1 sp = some (.lst []) := by rw [e1]; exact upd_same
  have kH1 : Kp [] H H1 := ka.tr (kb.tr k1)
  have hb1 := k1.lst (by simp) (kb.lst (by simp) hba)
  have hr1 := k1.lst (by simp) hrb
  have brp : bp ≠ rp := ne_of_none hba nrp
  have bsp : bp ≠ sp := ne_of_none (kb.lst (by simp) hba) nsp
  have rsp : rp ≠ sp := ne_of_none hrb nsp
  have freeH : ∀ {x Hx}, Kp [] H Hx → Hx x = none → H x = none := fun {x Hx} k n => by
    cases z : H x with
    | none => rfl
    | some o => exact absurd n (k.tr_ x (by rw [z]; exact fun y => by cases y))
  have nbH : H bp = none := freeH k0 nbp
  have nrH : H rp = none := freeH ka nrp
  have nsH : H sp = none := freeH (ka.tr kb) nsp
  have cS : ∀ x ∈ c :: ps, x ∉ [bp, rp, sp] := fun x hx z => by
    simp only [List.mem_cons, List.not_mem_nil, or_false] at z
    rcases z with z | z | z
    · exact hB.tr x hx (z ▸ nbH)
    · exact hB.tr x hx (z ▸ nrH)
    · exact hB.tr x hx (z ▸ nsH)
  have hB1 := hB.kp kH1 fun _ _ => by simp
  have hx1 := kH1.kt0 _ _ hx
  have hd1 := hd.kt kH1.kt0
  have lps : (ps.map V.ref).length = css.length := by rw [List.length_map, hB.len]
  -- for at in range(len(plan))
  refine ⟨.ref c, rfl, c, _, rfl, .inl (SqL.of hB1.top), css.length, by rw [lps], by omega, by omega, for_range (n := css.length) (fun i σ H' => ∃ (o6 o7 o8 : Option V) (bs xs ys : List V), σ = [some (.ref ad), some (.ref c), some (.ref bp), some (.ref rp), some (.ref sp), some (.int (wk N css i).many), o6, o7, o8] ∧
      H' bp = some (.lst bs) ∧ TuA H' bs ((wk N css i).L.map (burnD ((i : Int) - 1))) ∧ H' rp = some (.lst xs) ∧ TuA H' xs ((wk N css i).rows.map rowD) ∧ H' sp = some (.lst ys) ∧ Stood H' [bp, rp, sp] N css i ys ∧ (∀ (j : Nat) (q : Addr), ys[j]? = some (.ref q) → H q = none) ∧ Kp [bp, rp, sp] H1 H' ∧ Kt H1 H')
    ⟨none, none, none, _, [], [], rfl, hb1, ?_, hr1, .nil, hs1, ⟨rfl, fun j hj => absurd hj (Nat.not_lt_zero _)⟩, fun j q hj => (by cases hj), .rfl', .rfl'⟩ (fun i σ H2 hi hP => ?_) (fun σ H2 hP => ?_)⟩
  · show TuA H1 _ ((List.replicate N.length none).map _)
    rw [List.map_replicate]
    exact TuA.rep .non _
  · obtain ⟨o6, o7, o8, bs, xs, ys, rfl, hb2, tb2, hr2, tr2, hs2, st2, nq2, k2, t2⟩ := hP
    rw [show (0 + (i : Int)) = (i : Int) by omega]
    have hx2 := t2 _ _ hx1
    obtain ⟨wl, wr, wm⟩ := wk_len (N := N) (css := css) i
    have fr := wk_fresh (css := css) ok i
    obtain ⟨L, hL⟩ : ∃ L, L = (wk N css i).L := ⟨_, rfl⟩
    obtain ⟨R, hR⟩ : ∃ R, R = (wk N css i).rows := ⟨_, rfl⟩
    rw [← hL] at tb2 wl fr
    rw [← hR] at tr2 wr
    have lR : R.length ≤ 1500 := by
      have := tot_take css i
      have : N.length * i ≤ 12 * 100 := Nat.mul_le_mul h12 (by omega)
      omega
    -- come = [[] for k in range(len(land))]
    refine ⟨.ref ad, rfl, ad, xn, rfl, .inr (SqT.of hx2), N.length, by rw [hln], by omega, by omega, fun cc ncc => lc_range (n := N.length) (fun j H' => ∃ pps, BagNew H2 cc pps j H') ⟨[], BagNew.start ncc⟩ (fun j H' hj hP => ?_) (fun H3 hP => ?_)⟩
    · obtain ⟨pps, hN⟩ := hP
      refine ⟨rfl, Nat.zero_le _, fun q5 nq5 => ⟨_, (hN.step nq5).1, ?_, _, (hN.step nq5).2⟩⟩
      have := hN.bag.len
      rw [List.length_replicate] at this
      rw [List.length_map]
      exact Nat.lt_of_lt_of_le (show pps.length < 1000 by omega) (by decide)
    obtain ⟨pps, hN⟩ := hP
    have k3 := hN.kp
    have t3 := k3.kt0
    have hb3 := k3.lst (by simp) hb2
    have tb3 := tb2.kt t3
    have hr3 := k3.lst (by simp) hr2
    have tr3 := tr2.kt t3
    have cB : ∀ x ∈ cc :: pps, H2 x = none := hN.new
    have ccS : ∀ x ∈ cc :: pps, x ∉ [bp, rp, sp] := fun x hx z => by
      have := cB x hx
      simp only [List.mem_cons, List.not_mem_nil, or_false] at z
      rcases z with z | z | z <;> rw [z] at this
      · rw [this] at hb2; cases hb2
      · rw [this] at hr2; cases hr2
      · rw [this] at hs2; cases hs2
    have t13 : Kt H1 H3 := t2.tr t3
    obtain ⟨D, hD⟩ : ∃ D : Nat → Dk, D = fun k => darkN N i k ⟨L, List.replicate N.length [], []⟩ := ⟨_, rfl⟩
    have D0 : ∀ k, (D k).L.length = N.length ∧ (D k).css.length = N.length ∧ (D k).rows.length + tot (D k).css ≤ k := fun k => by
      rw [hD]
      obtain ⟨a1, a2, a3⟩ := darkN_len N i ⟨L, List.replicate N.length [], []⟩ k
      refine ⟨a1.trans wl, a2.trans List.length_replicate, Nat.le_trans a3 ?_⟩
      show 0 + tot (List.replicate N.length []) + k ≤ k
      rw [tot_rep]
      omega
    -- for k in range(len(land))
    refine ⟨.ref ad, rfl, ad, xn, rfl, .inr (SqT.of (t13 _ _ hx1)), N.length, by rw [hln], by omega, by omega, for_range (n := N.length) (fun k σ H' => ∃ (o8 : Option V) (bs xs : List V), σ = [some (.ref ad), some (.ref c), some (.ref bp), some (.ref rp), some (.ref sp), some (.int (wk N css i).many), some (.int i), some (.ref cc), o8] ∧
        H' bp = some (.lst bs) ∧ TuA H' bs (mixD i k (D k).L) ∧ H' rp = some (.lst xs) ∧ TuA H' xs ((R ++ (D k).rows).map rowD) ∧ Bag H' cc pps (D k).css ∧ Kp (bp :: rp :: pps) H3 H' ∧ Kt H3 H') ⟨o8, bs, xs, rfl, hb3, ?_, hr3, ?_, by rw [hD]; exact hN.bag, .rfl', .rfl'⟩ (fun k σ H4 hk hP => ?_) (fun σ H4 hP => ?_)⟩
    · rw [hD]
      show TuA H3 bs (mixD i 0 L)
      rw [mixD_zero]
      exact tb3
    · rw [hD]
      show TuA H3 xs ((R ++ []).map rowD)
      rw [List.append_nil]
      exact tr3
    · obtain ⟨o8, bs4, xs4, rfl, hb4, tb4, hr4, tr4, hB4, k4, t4⟩ := hP
      rw [show (0 + (k : Int)) = (k : Int) by omega]
      obtain ⟨pr, hpr⟩ : ∃ pr, N[k]? = some pr := ⟨N[k], List.getElem?_eq_getElem hk⟩
      obtain ⟨dl, dc, dt⟩ := D0 k
      obtain ⟨d, hd'⟩ : ∃ d, d = D k := ⟨_, rfl⟩
      have hds : D (k + 1) = darkK N i k d := by rw [hd', hD]; rfl
      rw [← hd'] at tb4 tr4 hB4 dl dc dt
      rw [hds]
      obtain ⟨x, hxk⟩ : ∃ x, d.L[k]? = some x := ⟨d.L[k]'(by omega), List.getElem?_eq_getElem _⟩
      have hxg := getD_some hxk
      obtain ⟨lv, hlv, tlv⟩ := tb4.get' (mixD_get hxk)
      rw [if_neg (Nat.lt_irrefl k)] at tlv
      have lb4 : bs4.length = N.length := by
        have := tb4.len
        rw [mixD_len] at this
        omega
      have lx4 : xs4.length < sizeLine := by
        have := tr4.len
        rw [List.length_map, List.length_append] at this
        exact Nat.lt_of_lt_of_le (show xs4.length < 2000 by omega) (by decide)
      -- if burns[k] is not None
      refine ⟨.ref bp, rfl, .int k, rfl, bp, bs4, k, lv, rfl, rfl, SqL.of hb4, atI_nat hlv, rfl, _, rfl, ?_⟩
      rcases burn_at tlv with ⟨rfl, rfl⟩ | ⟨f, t, la, rfl, rfl, hla⟩
      · refine iteF ?_
        have e5 : darkK N i k d = d := by unfold darkK; rw [hxg]
        rw [e5]
        exact ⟨_, bs4, xs4, rfl, hb4, by rw [mixD_none hxk]; exact tb4, hr4, tr4, hB4, k4, t4⟩
      · refine iteT ?_
        have eb' : burnOf N k = pr.1 := burnOf_get hpr
        have hLk : L[k]? = some (some (f, t)) := by
          have : (darkN N i k ⟨L, List.replicate N.length [], []⟩).L[k]? = some (some (f, t)) := by rw [← hxk, hd', hD]
          exact (darkN_get k this).1
        obtain ⟨f1, f2⟩ := fr k f t hLk
        rw [eb'] at f2
        -- burns[k] = (burns[k][0], burns[k][1] + 1)
        refine ⟨.ref bp, rfl, .int k, rfl, bp, bs4, k, .ref la, rfl, rfl, SqL.of hb4, atI_nat hlv, la, _, 0, .int (f : Nat), rfl, rfl, SqT.of hla, atI_nat (j := 0) rfl, .ref bp, rfl, .int k, rfl, bp, bs4, k, .ref la, rfl, rfl, SqL.of hb4, atI_nat hlv, la, _, 1, .int ((i : Int) - 1 - (t : Nat)), rfl, rfl, SqT.of hla, atI_nat (j := 1) rfl, _, _, rfl, rfl, by show 2 ≤ sizeLine; decide, fun tp ntp => ?_⟩
        have k5 : Kp [] H4 (upd H4 tp (.tup [.int (f : Nat), .int ((i : Int) - 1 - (t : Nat) + 1)])) := Kp.new ntp
        refine ⟨.ref bp, rfl, .int k, rfl, bp, bs4, k, k, rfl, rfl, k5.lst (by simp) hb4, Evl.ixN_nat (by omega), ?_⟩
        obtain ⟨H5, e5⟩ : ∃ H5, H5 = upd H4 tp (.tup [.int (f : Nat), .int ((i : Int) - 1 - (t : Nat) + 1)]) := ⟨_, rfl⟩
        rw [← e5] at k5 ⊢
        have htp5 : H5 tp = some (.tup [.int (f : Nat), .int ((i : Int) - (t : Nat))]) := by rw [e5, upd_same]; congr 5; omega
        have hb5 := k5.lst (by simp) hb4
        obtain ⟨H6, e6⟩ : ∃ H6, H6 = upd H5 bp (.lst (bs4.set k (.ref tp))) := ⟨_, rfl⟩
        rw [← e6]
        have k6 : Kp [bp] H5 H6 := e6 ▸ Kp.put (by simp) hb5 fun ps z => by cases z
        have t6 : Kt H5 H6 := e6 ▸ Kt.put hb5 fun ps z => by cases z
        have hb6 : H6 bp = some (.lst (bs4.set k (.ref tp))) := by rw [e6]; exact upd_same
        have htp6 := t6 _ _ htp5
        have hg6 : (bs4.set k (.ref tp))[k]? = some (.ref tp) := List.getElem?_set_self (by omega)
        have t46 : Kt H4 H6 := k5.kt0.tr t6
        have t16 : Kt H1 H6 := t13.tr (t4.tr t46)
        have k46 : Kp (bp :: rp :: pps) H4 H6 := k5.of0.tr (k6.wk fun x z => by rw [List.mem_singleton.mp z]; simp)
        have bpps : ∀ x ∈ cc :: pps, x ∉ [bp] := fun x hx z => ccS x hx (by rw [List.mem_singleton.mp z]; simp)
        have hB6 : Bag H6 cc pps d.css := (hB4.kp k5 fun _ _ => by simp).kp k6 bpps
        have hr6 := k6.lst (by simpa using brp.symm) (k5.lst (by simp) hr4)
        have tr6 := tr4.kt t46
        obtain ⟨ad2, xs2, ea2, hx6, _, hat6⟩ := tnet_at (hd1.kt t16)
        cases ea2
        have exs : xs2 = xn := by
          have := t16 _ _ hx1
          rw [hx6] at this
          cases this
          rfl
        subst exs
        obtain ⟨ll, hll, hllp⟩ := hat6 k pr hpr
        -- if burns[k][1] == land[k][0]
        refine ⟨.ref bp, rfl, .int k, rfl, bp, _, k, .ref tp, rfl, rfl, SqL.of hb6, atI_nat hg6, tp, _, 1, .int ((i : Int) - (t : Nat)), rfl, rfl, SqT.of htp6, atI_nat (j := 1) rfl, .ref ad, rfl, .int k, rfl, ad, xs2, k, .ref ll, rfl, rfl, SqT.of hx6, atI_nat hll, ll, _, 0, .int pr.1, rfl, rfl, SqT.of hllp, atI_nat (j := 0) rfl, rfl, _, rfl, ?_⟩
        by_cases hst : (i : Int) < (t : Int) + pr.1
        · have hne : ¬ (V.int ((i : Int) - (t : Nat)) = V.int pr.1) := fun z => by
            have := V.int.inj z
            omega
          rw [decide_eq_false hne]
          refine iteF ?_
          have ed : darkK N i k d = d := by unfold darkK; rw [hxg]; show (if _ then _ else _) = _; rw [eb', if_pos hst]
          rw [ed]
          refine ⟨_, _, xs4, rfl, hb6, ?_, hr6, tr6, hB6, k4.tr k46, t4.tr t46⟩
          rw [mixD_same hxk]
          exact (tb4.kt t46).set (.tup htp6 (.cons (.int _) (.cons (.int _) .nil))) k
        · have heq : V.int ((i : Int) - (t : Nat)) = V.int pr.1 := by congr 1; omega
          rw [decide_eq_true heq]
          refine iteT ?_
          -- burns[k] = None comes behind
          have fin : ∀ (H7 : Hp) (xs7 : List V) (css7 : List (List Nat)) (R7 : List Em.Row), darkK N i k d = ⟨d.L.set k none, css7, R7⟩ → H7 bp = some (.lst (bs4.set k (.ref tp))) → Kt H6 H7 → Kp (bp :: rp :: pps) H6 H7 → H7 rp = some (.lst xs7) → TuA H7 xs7 ((R ++ R7).map rowD) → Bag H7 cc pps css7 →
              ∃ (o8 : Option V) (bs xs : List V), [some (V.ref ad), some (.ref c), some (.ref bp), some (.ref rp), some (.ref sp), some (.int (wk N css i).many), some (.int i), some (.ref cc), some (.int k)] = [some (V.ref ad), some (.ref c), some (.ref bp), some (.ref rp), some (.ref sp), some (.int (wk N css i).many), some (.int i), some (.ref cc), o8] ∧
              (upd H7 bp (.lst ((bs4.set k (.ref tp)).set k .non))) bp = some (.lst bs) ∧ TuA (upd H7 bp (.lst ((bs4.set k (.ref tp)).set k .non))) bs (mixD i (k + 1) (darkK N i k d).L) ∧ (upd H7 bp (.lst ((bs4.set k (.ref tp)).set k .non))) rp = some (.lst xs) ∧ TuA (upd H7 bp (.lst ((bs4.set k (.ref tp)).set k .non))) xs ((R ++ (darkK N i k d).rows).map rowD) ∧
              Bag (upd H7 bp (.lst ((bs4.set k (.ref tp)).set k .non))) cc pps (darkK N i k d).css ∧ Kp (bp :: rp :: pps) H3 (upd H7 bp (.lst ((bs4.set k (.ref tp)).set k .non))) ∧ Kt H3 (upd H7 bp (.lst ((bs4.set k (.ref tp)).set k .non))) := by
            intro H7 xs7 css7 R7 ed h7b t7 k7 h7r tr7 hB7
            have k8 : Kp [bp] H7 (upd H7 bp (.lst ((bs4.set k (.ref tp)).set k .non))) := Kp.put (by simp) h7b fun ps z => by cases z
            have t8 : Kt H7 (upd H7 bp (.lst ((bs4.set k (.ref tp)).set k .non))) := Kt.put h7b fun ps z => by cases z
            rw [ed]
            refine ⟨_, _, xs7, rfl, upd_same, ?_, k8.lst (by simpa using brp.symm) h7r, tr7.kt t8, hB7.kp k8 bpps, k4.tr (k46.tr (k7.tr (k8.wk fun x z => by rw [List.mem_singleton.mp z]; simp))), t4.tr (t46.tr (t7.tr t8))⟩
            show TuA _ _ (mixD i (k + 1) (d.L.set k none))
            rw [mixD_set (by omega)]
            have e9 : bs4.set k V.non = (bs4.set k (.ref tp)).set k .non := (List.set_set ..).symm
            exact Eq.subst (motive := fun l => TuA (upd H7 bp (.lst ((bs4.set k (.ref tp)).set k .non))) l ((mixD i k d.L).set k (burnD i none))) e9 ((tb4.kt (t46.tr (t7.tr t8))).set .non k)
          rcases z : pr.2 with _ | y
          · rw [z] at hllp
            have ed : darkK N i k d = ⟨d.L.set k none, d.css, d.rows ++ [.ended i k f]⟩ := by
              unfold darkK
              rw [hxg]
              show (if _ then _ else _) = _
              rw [eb', if_neg hst, nxt_get hpr, z]
            -- if land[k][1] is None: rows.append(("ended", at, k, burns[k][0]))
            refine ⟨.ref ad, rfl, .int k, rfl, ad, xs2, k, .ref ll, rfl, rfl, SqT.of hx6, atI_nat hll, ll, _, 1, .non, rfl, rfl, SqT.of hllp, atI_nat (j := 1) rfl, rfl, _, rfl, iteT ?_⟩
            refine ⟨.ref rp, rfl, .inl ⟨rfl, _, SqL.of hr6⟩, .int i, rfl, .int k, rfl, .ref bp, rfl, .int k, rfl, bp, _, k, .ref tp, rfl, rfl, SqL.of hb6, atI_nat hg6, tp, _, 0, .int (f : Nat), rfl, rfl, SqT.of htp6, atI_nat (j := 0) rfl, by show 4 ≤ sizeLine; decide, fun t7 nt7 => ?_⟩
            have k7 : Kp [] H6 (upd H6 t7 (.tup [.str "ended", .int i, .int k, .int f])) := Kp.new nt7
            refine ⟨rp, xs4, .ref t7, rfl, rfl, k7.lst (by simp) hr6, lx4, ?_⟩
            obtain ⟨H7, e7⟩ : ∃ H7, H7 = upd H6 t7 (.tup [.str "ended", .int i, .int k, .int f]) := ⟨_, rfl⟩
            rw [← e7] at k7 ⊢
            have ht7 : H7 t7 = some (.tup [.str "ended", .int i, .int k, .int f]) := by rw [e7]; exact upd_same
            have hr7 := k7.lst (by simp) hr6
            obtain ⟨H8, e8⟩ : ∃ H8, H8 = upd H7 rp (.lst (xs4 ++ [.ref t7])) := ⟨_, rfl⟩
            rw [← e8]
            have k8 : Kp [rp] H7 H8 := e8 ▸ Kp.put (by simp) hr7 fun ps z => by cases z
            have t8 : Kt H7 H8 := e8 ▸ Kt.put hr7 fun ps z => by cases z
            have hb8 := k8.lst (by simpa using brp) (k7.lst (by simp) hb6)
            have t68 := k7.kt0.tr t8
            refine ⟨.ref bp, rfl, .int k, rfl, bp, _, k, k, rfl, rfl, hb8, Evl.ixN_nat (by rw [List.length_set]; omega), ?_⟩
            refine fin H8 _ _ _ ed hb8 t68 (k7.of0.tr (k8.wk fun x z => by rw [List.mem_singleton.mp z]; simp)) (by rw [e8]; exact upd_same) ?_ ((hB6.kp k7 fun _ _ => by simp).kp k8 fun x hx z => ccS x hx (by rw [List.mem_singleton.mp z]; simp))
            rw [← List.append_assoc, List.map_append]
            exact (tr6.kt t68).app (.cons (.tup (t8 _ _ ht7) (.cons (.str _) (.cons (.int _) (.cons (.int _) (.cons (.int _) .nil))))) .nil)
          · rw [z] at hllp
            have hyN : y < N.length := ok.nx pr (List.mem_of_getElem? hpr) y z
            obtain ⟨pp, g, hg, hpp, hppv, hHp, hpm⟩ := hB6.get (i := y) (by omega)
            have ed : darkK N i k d = ⟨d.L.set k none, d.css.set y (g ++ [f]), d.rows⟩ := by
              unfold darkK
              rw [hxg]
              show (if _ then _ else _) = _
              rw [eb', if_neg hst, nxt_get hpr, z]
              show (⟨_, d.css.set y (d.css.getD y [] ++ [f]), _⟩ : Dk) = _
              rw [getD_css hg]
            refine ⟨.ref ad, rfl, .int k, rfl, ad, xs2, k, .ref ll, rfl, rfl, SqT.of hx6, atI_nat hll, ll, _, 1, .int y, rfl, rfl, SqT.of hllp, atI_nat (j := 1) rfl, rfl, _, rfl, iteF ?_⟩
            -- come[land[k][1]].append(burns[k][0])
            refine ⟨.ref cc, rfl, .ref ad, rfl, .int k, rfl, ad, xs2, k, .ref ll, rfl, rfl, SqT.of hx6, atI_nat hll, ll, _, 1, .int y, rfl, rfl, SqT.of hllp, atI_nat (j := 1) rfl, cc, _, y, .ref pp, rfl, rfl, SqL.of hB6.top, atI_nat hppv, .inl ⟨rfl, _, SqL.of hHp⟩, .ref bp, rfl, .int k, rfl, bp, _, k, .ref tp, rfl, rfl, SqL.of hb6, atI_nat hg6, tp, _, 0, .int (f : Nat), rfl, rfl, SqT.of htp6, atI_nat (j := 0) rfl, pp, natV g, .int (f : Nat), rfl, rfl, hHp, ?_, ?_⟩
            · have := tot_mem (List.mem_of_getElem? hg)
              rw [natV_len]
              exact Nat.lt_of_lt_of_le (show g.length < 2000 by omega) (by decide)
            rw [← natV_app]
            obtain ⟨H8, e8⟩ : ∃ H8, H8 = upd H6 pp (.lst (natV (g ++ [f]))) := ⟨_, rfl⟩
            rw [← e8]
            have k8 : Kp [pp] H6 H8 := e8 ▸ Kp.put (by simp) hHp fun ps z => by cases z
            have t8 : Kt H6 H8 := e8 ▸ Kt.put hHp fun ps z => by cases z
            have ppS := ccS pp (List.mem_cons_of_mem _ hpm)
            simp only [List.mem_cons, List.not_mem_nil, or_false, not_or] at ppS
            have hb8 := k8.lst (by simpa using fun z => ppS.1 z.symm) hb6
            refine ⟨.ref bp, rfl, .int k, rfl, bp, _, k, k, rfl, rfl, hb8, Evl.ixN_nat (by rw [List.length_set]; omega), ?_⟩
            exact fin H8 _ _ _ ed hb8 t8 (k8.wk fun x z => by rw [List.mem_singleton.mp z]; exact List.mem_cons_of_mem _ (List.mem_cons_of_mem _ hpm)) (k8.lst (by simpa using fun z => ppS.2.1 z.symm) hr6) (tr6.kt t8) (e8 ▸ hB6.put hpp (g ++ [f]))
    · obtain ⟨o8, bs4, xs4, rfl, hb4, tb4, hr4, tr4, hB4, k4, t4⟩ := hP
      obtain ⟨dl, dc, dt⟩ := D0 N.length
      obtain ⟨d, hd'⟩ : ∃ d, d = darkA N i L := ⟨_, rfl⟩
      have hdD : D N.length = d := by rw [hd', hD]; rfl
      rw [hdD] at tb4 tr4 hB4 dl dc dt
      have emix : mixD i N.length d.L = d.L.map (burnD i) := by rw [← dl]; exact mixD_all _ _
      rw [emix] at tb4
      have t14 := t13.tr t4
      have k24 : Kp (bp :: rp :: pps) H2 H4 := k3.of0.tr k4
      have cP : ∀ x ∈ c :: ps, x ∉ bp :: rp :: pps := fun x hx z => by
        have h1 := cS x hx
        simp only [List.mem_cons, List.not_mem_nil, or_false, not_or] at h1 z
        rcases z with z | z | z
        · exact h1.1 z
        · exact h1.2.1 z
        · have h2 := cB x (List.mem_cons_of_mem _ z)
          have h3 : Bag H2 c ps css := hB1.kp k2 cS
          exact h3.tr x hx h2
      have hBp4 : Bag H4 c ps css := (hB1.kp k2 cS).kp k24 cP
      obtain ⟨gp, gg, hgg, hgp, hgpv, hHg, hgm⟩ := hBp4.get (i := i) hi
      have lgg : gg.length ≤ 200 := Nat.le_trans (tot_mem (List.mem_of_getElem? hgg)) htt
      have ggN : ∀ k ∈ gg, k < N.length := hlt gg (List.mem_of_getElem? hgg)
      have egg : css.getD i [] = gg := getD_css hgg
      obtain ⟨m0, hm0⟩ : ∃ m0, m0 = (wk N css i).many := ⟨_, rfl⟩
      rw [← hm0]
      have ppp : ∀ x ∈ c :: ps, x ∉ pps := fun x hx z => cP x hx (List.mem_cons_of_mem _ (List.mem_cons_of_mem _ z))
      -- for k in plan[at]
      refine ⟨.ref c, rfl, .int i, rfl, c, _, i, .ref gp, rfl, rfl, SqL.of hBp4.top, atI_nat hgpv, gp, rfl, ⟨_, SqL.of hHg⟩, for_list (xs := natV gg) (fun j σ H' => ∃ (o8 : Option V), σ = [some (.ref ad), some (.ref c), some (.ref bp), some (.ref rp), some (.ref sp), some (.int ((m0 + j : Nat) : Int)), some (.int i), some (.ref cc), o8] ∧ Bag H' cc pps (addW d.css (numW m0 (gg.take j))) ∧ Kp pps H4 H' ∧ Kt H4 H') ⟨o8, rfl, hB4, .rfl', .rfl'⟩ (fun j σ H' _ hP => ?_) (fun j x σ H5 hx5 hP => ?_) (fun σ H5 hP => ?_)⟩
      · obtain ⟨_, _, _, k5, _⟩ := hP
        exact SqL.of (k5.lst (ppp gp (List.mem_cons_of_mem _ hgm)) hHg)
      · obtain ⟨o8, rfl, hB5, k5, t5⟩ := hP
        obtain ⟨kx, hkx, rfl⟩ : ∃ f : Nat, gg[j]? = some f ∧ x = .int (f : Int) := by
          unfold natV at hx5
          rw [List.getElem?_map] at hx5
          cases q1 : gg[j]? with
          | none => rw [q1] at hx5; cases hx5
          | some u => rw [q1] at hx5; exact ⟨u, rfl, (Option.some.inj hx5).symm⟩
        have hkN := ggN kx (List.mem_of_getElem? hkx)
        obtain ⟨al, at_⟩ := addW_len (numW m0 (gg.take j)) d.css
        obtain ⟨pp, g, hg, hpp, hppv, hHp, hpm⟩ := hB5.get (i := kx) (by rw [al, dc]; exact hkN)
        refine ⟨.ref cc, rfl, .int kx, rfl, cc, _, kx, .ref pp, rfl, rfl, SqL.of hB5.top, atI_nat hppv, .inl ⟨rfl, _, SqL.of hHp⟩, .int ((m0 + j : Nat) : Int), rfl, pp, natV g, .int ((m0 + j : Nat) : Int), rfl, rfl, hHp, ?_, ?_⟩
        · have := tot_mem (List.mem_of_getElem? hg)
          rw [numW_len, List.length_take] at at_
          rw [natV_len]
          exact Nat.lt_of_lt_of_le (show g.length < 2000 by omega) (by decide)
        rw [← natV_app]
        have hB6 := hB5.put hpp (g ++ [m0 + j])
        have eA : addW d.css (numW m0 (gg.take (j + 1))) = (addW d.css (numW m0 (gg.take j))).set kx (g ++ [m0 + j]) := by
          rw [numW_take m0 gg j kx hkx, addW_more]
          unfold addK
          rw [getD_css hg]
        refine ⟨.int ((m0 + j : Nat) : Int), rfl, _, _, rfl, rfl, ?_⟩
        refine ⟨some (.int kx), ?_, by rw [eA]; exact hB6, k5.tr (Kp.put hpm hHp fun ps z => by cases z), t5.tr (Kt.put hHp fun ps z => by cases z)⟩
        rw [show ((m0 + (j + 1) : Nat) : Int) = ((m0 + j : Nat) : Int) + 1 by omega]
        rfl
      · obtain ⟨o8, rfl, hB5, k5, t5⟩ := hP
        rw [natV_len, List.take_length] at hB5
        obtain ⟨W, hW⟩ : ∃ W, W = numW m0 gg := ⟨_, rfl⟩
        rw [← hW] at hB5
        have lW : W.length ≤ 200 := by rw [hW, numW_len]; exact lgg
        obtain ⟨al, at_⟩ := addW_len W d.css
        have bpn : bp ∉ pps := fun z => ccS bp (List.mem_cons_of_mem _ z) (by simp)
        have rpn : rp ∉ pps := fun z => ccS rp (List.mem_cons_of_mem _ z) (by simp)
        have spn : sp ∉ pps := fun z => ccS sp (List.mem_cons_of_mem _ z) (by simp)
        have hb5 := k5.lst bpn hb4
        have hr5 := k5.lst rpn hr4
        have bcc : bp ∉ cc :: pps := fun z => ccS bp z (by simp)
        have rcc : rp ∉ cc :: pps := fun z => ccS rp z (by simp)
        -- rows.extend(_law_came(burns, come, at))
        refine ⟨.ref rp, rfl, .inl ⟨rfl, _, SqL.of hr5⟩, .ref bp, rfl, .ref cc, rfl, .int i, rfl, bp, cc, pps, _, i, d.L, bs4, rfl, hb5, tb4.kt t5, hB5, by rw [al, dc, dl], bcc, by omega, by omega, fun p6 xs6 bs6 H6 np6 hp6 tp6 hb6 tb6 k6 => ?_⟩
        have t6 : Kt H5 H6 := k6.kt fun s hs ys z => by
          obtain rfl : s = bp := by simpa using hs
          rw [hb5] at z; cases z
        have hr6 := k6.lst (by simpa using brp.symm) hr5
        obtain ⟨B, hBB⟩ : ∃ B, B = beatA N i L W := ⟨_, rfl⟩
        obtain ⟨pre1, pre2⟩ := meetN_pre i (addW d.css W) d.L d.rows N.length
        have eB : B = meetN i (addW d.css W) N.length ⟨d.L, d.rows⟩ := by rw [hBB]; unfold beatA; rw [← hd']
        rw [← eB] at pre1 pre2
        rw [dl] at tp6 tb6
        rw [← pre1] at tb6
        have lB : B.rows.length ≤ N.length + W.length := by rw [hBB]; exact (beatA_len wl).2
        have lxs6 : xs4.length + xs6.length ≤ 3000 := by
          have h1 := tr4.len
          have h2 := tp6.len
          rw [List.length_map, List.length_append] at h1
          rw [List.length_map] at h2
          have h3 := congrArg List.length pre2
          rw [List.length_append] at h3
          omega
        refine ⟨rp, p6, xs4, xs6, rfl, rfl, hr6, hp6, Nat.le_trans lxs6 (by decide), ?_⟩
        obtain ⟨H7, e7⟩ : ∃ H7, H7 = upd H6 rp (.lst (xs4 ++ xs6)) := ⟨_, rfl⟩
        rw [← e7]
        have k7 : Kp [rp] H6 H7 := e7 ▸ Kp.put (by simp) hr6 fun ps z => by cases z
        have t7 : Kt H6 H7 := e7 ▸ Kt.put hr6 fun ps z => by cases z
        have hr7 : H7 rp = some (.lst (xs4 ++ xs6)) := by rw [e7]; exact upd_same
        have hb7 := k7.lst (by simpa using brp) hb6
        have k27 : Kp (bp :: rp :: pps) H2 H7 := k24.tr ((k5.wk fun x z => List.mem_cons_of_mem _ (List.mem_cons_of_mem _ z)).tr ((k6.wk fun x z => by rw [List.mem_singleton.mp z]; simp).tr (k7.wk fun x z => by rw [List.mem_singleton.mp z]; simp)))
        have t27 : Kt H2 H7 := t3.tr (t4.tr (t5.tr (t6.tr t7)))
        have hs7 := k27.lst (by
          simp only [List.mem_cons, not_or]
          exact ⟨bsp.symm, rsp.symm, spn⟩) hs2
        -- stands.append(list(burns))
        refine ⟨.ref sp, rfl, .inl ⟨rfl, _, SqL.of hs7⟩, .ref bp, rfl, bp, bs6, rfl, .inl (SqL.of hb7), fun lb nlb => ?_⟩
        have k8 : Kp [] H7 (upd H7 lb (.lst bs6)) := Kp.new nlb
        refine ⟨sp, ys, .ref lb, rfl, rfl, k8.lst (by simp) hs7, by have := st2.1; exact Nat.lt_of_lt_of_le (show ys.length < 1000 by omega) (by decide), ?_⟩
        obtain ⟨H8, e8⟩ : ∃ H8, H8 = upd H7 lb (.lst bs6) := ⟨_, rfl⟩
        rw [← e8] at k8 ⊢
        have hlb8 : H8 lb = some (.lst bs6) := by rw [e8]; exact upd_same
        have hs8 := k8.lst (by simp) hs7
        obtain ⟨H9, e9⟩ : ∃ H9, H9 = upd H8 sp (.lst (ys ++ [.ref lb])) := ⟨_, rfl⟩
        rw [← e9]
        have k9 : Kp [sp] H8 H9 := e9 ▸ Kp.put (by simp) hs8 fun ps z => by cases z
        have t9 : Kt H8 H9 := e9 ▸ Kt.put hs8 fun ps z => by cases z
        have t79 := k8.kt0.tr t9
        have ewk : wk N css (i + 1) = ⟨B.L, R ++ B.rows, m0 + gg.length, (wk N css i).stands ++ [B.L]⟩ := by
          show (⟨_, _, _, _⟩ : Wk) = _
          rw [egg, ← hm0, ← hW, ← hL, ← hR, ← hBB]
        have lbS : lb ∉ [bp, rp, sp] := by
          have h1 : bp ≠ lb := ne_of_none hb7 nlb
          have h2 : rp ≠ lb := ne_of_none hr7 nlb
          have h3 : sp ≠ lb := ne_of_none hs7 nlb
          simp [h1.symm, h2.symm, h3.symm]
        have k29' : Kp (bp :: rp :: sp :: pps) H2 H9 := (k27.wk fun x z => by
            simp only [List.mem_cons] at z ⊢
            rcases z with z | z | z
            · exact .inl z
            · exact .inr (.inl z)
            · exact .inr (.inr (.inr z))).tr (k8.of0.tr (k9.wk fun x z => by rw [List.mem_singleton.mp z]; simp))
        have k29 : Kp [bp, rp, sp] H2 H9 := ⟨fun b o nb h t => k29'.at_ b o (fun z => by
          simp only [List.mem_cons, List.not_mem_nil, or_false, not_or] at z nb
          rcases z with z | z | z | z
          · exact nb.1 z
          · exact nb.2.1 z
          · exact nb.2.2 z
          · rw [cB b (List.mem_cons_of_mem _ z)] at h
            cases h) h t, k29'.tab, k29'.tr_⟩
        have nlbH : H lb = none := by
          cases z : H lb with
          | none => rfl
          | some o => exact absurd nlb (k27.tr_ lb (k2.tr_ lb (kH1.tr_ lb (by rw [z]; exact fun y => by cases y))))
        have st9 := st2.kp k29 (t27.tr t79) fun x hx => .inl hx
        refine ⟨some (.int i), some (.ref cc), o8, bs6, xs4 ++ xs6, ys ++ [.ref lb], ?_, ?_, ?_, ?_, ?_, by rw [e9]; exact upd_same, ⟨?_, fun j hj => ?_⟩, fun j q hj => ?_, k2.tr k29, t2.tr (t27.tr t79)⟩
        · rw [ewk, natV_len]
        · exact k9.lst (by simpa using bsp) (k8.lst (by simp) hb7)
        · rw [ewk]
          rw [show (((i + 1 : Nat) : Int) - 1) = (i : Int) by omega]
          exact tb6.kt (t7.tr t79)
        · exact k9.lst (by simpa using rsp) (k8.lst (by simp) hr7)
        · rw [ewk]
          show TuA H9 _ ((R ++ B.rows).map rowD)
          rw [pre2, ← List.append_assoc, List.map_append]
          exact (tr4.kt (t5.tr (t6.tr (t7.tr t79)))).app (tp6.kt (t7.tr t79))
        · rw [List.length_append, st2.1]; rfl
        · by_cases e : j < i
          · obtain ⟨q, bs, a1, a2, a3, a4⟩ := st9.2 j e
            exact ⟨q, bs, by rw [List.getElem?_append_left (by rw [st2.1]; exact e)]; exact a1, a2, a3, a4⟩
          · obtain rfl : j = i := by omega
            refine ⟨lb, bs6, by rw [List.getElem?_append_right (by rw [st2.1]; exact Nat.le_refl _), st2.1, Nat.sub_self]; rfl, lbS, k9.lst (by
              simp only [List.mem_cons, List.not_mem_nil, or_false, not_or] at lbS
              simpa using lbS.2.2) hlb8, ?_⟩
            rw [ewk]
            exact tb6.kt (t7.tr t79)
        · by_cases e : j < ys.length
          · rw [List.getElem?_append_left e] at hj
            exact nq2 j q hj
          · rw [List.getElem?_append_right (by omega)] at hj
            have : q = lb := by
              cases hjj : j - ys.length with
              | zero => rw [hjj] at hj; cases hj; rfl
              | succ n => rw [hjj] at hj; cases hj
            rw [this]; exact nlbH
  · obtain ⟨o6, o7, o8, bs, xs, ys, rfl, hb2, tb2, hr2, tr2, hs2, st2, nq2, k2, t2⟩ := hP
    refine ⟨.ref rp, rfl, .ref sp, rfl, by show 2 ≤ sizeLine; decide, fun t nt => ?_⟩
    have k3 : Kp [] H2 (upd H2 t (.tup [.ref rp, .ref sp])) := Kp.new nt
    have kk : Kp [bp, rp, sp] H (upd H2 t (.tup [.ref rp, .ref sp])) := kH1.of0.tr (k2.tr k3.of0)
    refine q t rp sp xs ys _ upd_same nrH nsH rsp (k3.lst (by simp) hr2) (tr2.kt k3.kt0) (k3.lst (by simp) hs2) ⟨st2.1, fun j hj => ?_⟩ nq2 ?_
    · obtain ⟨q, bs, a1, a2, a3, a4⟩ := (st2.kp k3 k3.kt0 fun x hx => by cases hx).2 j hj
      refine ⟨q, bs, a1, ?_, a3, a4⟩
      simp only [List.mem_cons, List.not_mem_nil, or_false, not_or] at a2 ⊢
      exact a2.2
    · exact Kp.drop nsH (Kp.drop nrH (Kp.drop nbH kk))
end

/-! ### what is shown alike -/
theorem row_lay (r : Em.Row) : (rowD r).canLay0 = true := by
  have h1 : (PyData.str "ended").canLay0 = true := by decide +kernel
  have h2 : (PyData.str "lit").canLay0 = true := by decide +kernel
  have h3 : (PyData.str "lost").canLay0 = true := by decide +kernel
  cases r with
  | ended b k f => show ((PyData.str "ended").canLay0 && true) = true; rw [h1]; rfl
  | lit b k f => show ((PyData.str "lit").canLay0 && true) = true; rw [h2]; rfl
  | lost b k f g => show ((PyData.str "lost").canLay0 && true) = true; rw [h3]; rfl
theorem row_depth (r : Em.Row) : (rowD r).depth ≤ 1 := by cases r <;> exact Nat.le_refl _
theorem row_wd (r : Em.Row) : wdB (rowD r) = true := by cases r <;> rfl
theorem row_at {H : Hp} {v : V} {r : Em.Row} (h : Tu H v (rowD r)) : ∃ a xs, v = .ref a ∧ H a = some (.tup xs) ∧ xs[1]? = some (.int (r.at_ : Nat)) := by
  have key : ∀ (z : PyData) (rest : List PyData), rowD r = .tuple (z :: .int (r.at_ : Nat) :: rest) → ∃ a xs, v = .ref a ∧ H a = some (.tup xs) ∧ xs[1]? = some (.int (r.at_ : Nat)) := fun z rest e => by
    rw [e] at h
    cases h with
    | @tup a xs ds h t =>
      cases t with
      | cons _ t =>
        cases t with
        | cons t1 _ =>
          cases t1
          exact ⟨a, _, rfl, h, rfl⟩
  cases r with
  | ended b k f => exact key _ _ rfl
  | lit b k f => exact key _ _ rfl
  | lost b k f g => exact key _ _ rfl
theorem rows_lay (R : List Em.Row) : (PyData.list (R.map rowD)).canLay0 = true := all_lay row_lay R
theorem rows_depth (R : List Em.Row) : (PyData.list (R.map rowD)).depth ≤ 2 := by
  show PyData.depthAll (R.map rowD) + 1 ≤ 2
  have := all_depth row_depth R
  omega
theorem rows_wd {R : List Em.Row} (h : R.length < 100000) : wdB (.list (R.map rowD)) = true := wd_list (by rw [List.length_map]; exact h) (wd_map row_wd R)

section
variable {P : Program} {w : World} {K : PySem.W.Frag} {mg : Str → Option Value} {base : Heap} {a : Ad}
def spBurning (C : Addr) : Sp := fun vs H Q _ => ∃ (e w l r : Addr) (s : EmS), vs = [.ref e] ∧ Emb C H e w l r s ∧ ∀ p xs H', H p = none → H' p = some (.lst xs) → TuA H' xs (s.L.map (burnD ((s.b : Int) - 1))) → Kp [] H H' → Q (.ref p) H'
theorem ok_burning (T : Tx K mg a) : FnOk P w K mg base CX0 1 a.a_Embers_burning a.f_Embers_burning ["self"] (spBurning a.c_Embers) := by
  refine T.F_Embers_burning.ok sc_Embers_burning (fun vs H Q E h => ?_) (fun cdv A outer s H vs Q E hr h => ?_)
  · obtain ⟨e, w, l, r, s, rfl, _⟩ := h
    rfl
  obtain ⟨e, wp, l, r, st, rfl, hE, q⟩ := h
  refine ⟨_, (pss_cons (ps_set (i := 1) sc_Embers_burning.nd rfl (by first | exact .inl rfl | exact .inr rfl) (pe_op op_sub (pe_fld (pv 0) rfl) pe_int))
      (pss_cons (ps_set (i := 2) sc_Embers_burning.nd rfl (by first | exact .inl rfl | exact .inr rfl) (pe_lst pa_nil))
      (pss_cons (ps_for PassesOwn.never rfl (pi_list (pe_fld (pv 0) rfl)) (pg_name (i := 3) sc_Embers_burning.nd rfl (by first | exact .inl rfl | exact .inr rfl)) (pss_one (ps_if (pt_cmpR op_isN (pv 3) pe_non (nomark _)) (pss_one (ps_expr (pe_bm PySem.F.plainAttrs_list PySem.F.slot_list_append PySem.F.type_list_append mt_append (pv 2) (pa_cons pe_non pa_nil)))) (pss_cons (ps_asg (pv 3) (pg_tup (by rfl) (pgs_cons (pg_name (i := 4) sc_Embers_burning.nd rfl (by first | exact .inl rfl | exact .inr rfl)) (pgs_cons (pg_name (i := 5) sc_Embers_burning.nd rfl (by first | exact .inl rfl | exact .inr rfl)) pgs_nil))))
      (pss_one (ps_expr (pe_bm PySem.F.plainAttrs_list PySem.F.slot_list_append PySem.F.type_list_append mt_append (pv 2) (pa_cons (pe_tup (pa_cons (pv 4) (pa_cons (pe_op op_sub (pv 1) (pv 5)) pa_nil))) pa_nil))))))))
      (pss_one (ps_ret (pv 2)))))), ?_⟩
  have h12 := hE.ok.hi
  obtain ⟨⟨dx, v, q1, _⟩, _, ⟨ls, q3, q4⟩, _⟩ := id hE
  -- gone_last = self._beat - 1, told = []
  refine ⟨.ref e, rfl, e, _, dx, _, _, rfl, q1, T.cl_Embers, T.na_Embers__beat, em_beat, _, _, rfl, rfl, ?_⟩
  refine ⟨Nat.zero_le _, fun p np => ?_⟩
  obtain ⟨H1, e1⟩ : ∃ H1, H1 = upd H p (.lst []) := ⟨_, rfl⟩
  rw [← e1]
  have k1 : Kp [] H H1 := e1 ▸ Kp.new np
  have hp1 : H1 p = some (.lst []) := by rw [e1]; exact upd_same
  have q11 := k1.ins (by simp) q1
  have q31 := k1.lst (by simp) q3
  have q41 := q4.kt k1.kt0
  have lp : l ∉ [p] := by simpa using ne_of_none q3 np
  have lls : ls.length = st.N.length := by
    have := q4.len
    rw [List.length_map] at this
    rw [this]; exact hE.ln
  -- for light in self._lights
  refine ⟨.ref e, rfl, e, _, dx, _, _, rfl, q11, T.cl_Embers, T.na_Embers__lights, em_lights, l, rfl, ⟨_, SqL.of q31⟩, for_list (xs := ls) (fun j σ H' => ∃ (o3 o4 o5 : Option V) (xs : List V), σ = [some (.ref e), some (.int ((st.b : Int) - 1)), some (.ref p), o3, o4, o5] ∧ H' p = some (.lst xs) ∧ TuA H' xs ((st.L.take j).map (burnD ((st.b : Int) - 1))) ∧ Kp [p] H1 H' ∧ Kt H1 H') ⟨none, none, none, [], rfl, hp1, .nil, .rfl', .rfl'⟩ (fun j σ H' _ hP => ?_) (fun j y σ H2 hy hP => ?_) (fun σ H2 hP => ?_)⟩
  · obtain ⟨_, _, _, _, _, _, _, k, _⟩ := hP
    exact SqL.of (k.lst lp q31)
  · obtain ⟨o3, o4, o5, xs, rfl, hp2, tr2, k2, t2⟩ := hP
    obtain ⟨dd, hdd, ty⟩ := (q41.kt t2).get hy
    obtain ⟨x, hx, rfl⟩ : ∃ x, st.L[j]? = some x ∧ dd = lightD x := by
      rw [List.getElem?_map] at hdd
      cases z : st.L[j]? with
      | none => rw [z] at hdd; cases hdd
      | some u => rw [z] at hdd; exact ⟨u, rfl, (Option.some.inj hdd).symm⟩
    have eT : st.L.take (j + 1) = st.L.take j ++ [x] := by rw [List.take_add_one, hx]; rfl
    have hj := (List.getElem?_eq_some_iff.mp hy).1
    have lx : xs.length < sizeLine := by
      have h1 := tr2.len
      rw [List.length_map, List.length_take] at h1
      exact Nat.lt_of_lt_of_le (show xs.length < 100 by omega) (by decide)
    rcases light_at ty with ⟨rfl, rfl⟩ | ⟨f, t, lt, rfl, rfl, hlt⟩
    · refine ⟨.non, rfl, rfl, _, rfl, iteT ?_⟩
      refine ⟨.ref p, rfl, .inl ⟨rfl, _, SqL.of hp2⟩, p, xs, .non, rfl, rfl, hp2, lx, ?_⟩
      have t3 : Kt H2 (upd H2 p (.lst (xs ++ [.non]))) := Kt.put hp2 fun ps z => by cases z
      refine ⟨_, _, _, xs ++ [.non], rfl, upd_same, ?_, k2.tr (Kp.put (by simp) hp2 fun ps z => by cases z), t2.tr t3⟩
      rw [eT, List.map_append]
      exact (tr2.kt t3).app (.cons .non .nil)
    · refine ⟨.ref lt, rfl, rfl, _, rfl, iteF ?_⟩
      refine ⟨.ref lt, rfl, lt, _, rfl, SqT.of hlt, rfl, _, _, rfl, _, _, rfl, rfl, ?_⟩
      refine ⟨.ref p, rfl, .inl ⟨rfl, _, SqL.of hp2⟩, .int f, rfl, .int ((st.b : Int) - 1), rfl, .int t, rfl, _, _, rfl, rfl, by show 2 ≤ sizeLine; decide, fun tp ntp => ?_⟩
      have k3 : Kp [] H2 (upd H2 tp (.tup [.int (f : Nat), .int ((st.b : Int) - 1 - (t : Nat))])) := Kp.new ntp
      refine ⟨p, xs, .ref tp, rfl, rfl, k3.lst (by simp) hp2, lx, ?_⟩
      obtain ⟨H3, e3⟩ : ∃ H3, H3 = upd H2 tp (.tup [.int (f : Nat), .int ((st.b : Int) - 1 - (t : Nat))]) := ⟨_, rfl⟩
      rw [← e3] at k3 ⊢
      have htp : H3 tp = some (.tup [.int (f : Nat), .int ((st.b : Int) - 1 - (t : Nat))]) := by rw [e3]; exact upd_same
      have hp3 := k3.lst (by simp) hp2
      have t4 : Kt H3 (upd H3 p (.lst (xs ++ [.ref tp]))) := Kt.put hp3 fun ps z => by cases z
      refine ⟨_, _, _, xs ++ [.ref tp], rfl, upd_same, ?_, k2.tr (k3.of0.tr (Kp.put (by simp) hp3 fun ps z => by cases z)), t2.tr (k3.kt0.tr t4)⟩
      rw [eT, List.map_append]
      exact (tr2.kt (k3.kt0.tr t4)).app (.cons (.tup (t4 _ _ htp) (.cons (.int _) (.cons (.int _) .nil))) .nil)
  · obtain ⟨o3, o4, o5, xs, rfl, hp2, tr2, k2, t2⟩ := hP
    have : st.L.take ls.length = st.L := by rw [lls, ← hE.ln, List.take_length]
    rw [this] at tr2
    exact ⟨.ref p, rfl, q p xs H2 np hp2 tr2 (Kp.drop np (k1.of0.tr k2))⟩
end
theorem burn_lay (c : Int) (x : Lt) : (burnD c x).canLay0 = true := by rcases x with _ | ⟨f, t⟩ <;> rfl
theorem burn_depth (c : Int) (x : Lt) : (burnD c x).depth ≤ 1 := by
  rcases x with _ | ⟨f, t⟩
  · exact Nat.zero_le _
  · exact Nat.le_refl _
theorem burn_wd (c : Int) (x : Lt) : wdB (burnD c x) = true := by rcases x with _ | ⟨f, t⟩ <;> rfl
theorem burns_lay (c : Int) (L : List Lt) : (PyData.list (L.map (burnD c))).canLay0 = true := all_lay (burn_lay c) L
theorem burns_depth (c : Int) (L : List Lt) : (PyData.list (L.map (burnD c))).depth ≤ 2 := by
  show PyData.depthAll (L.map (burnD c)) + 1 ≤ 2
  have := all_depth (burn_depth c) L
  omega
theorem burns_wd {c : Int} {L : List Lt} (h : L.length < 100000) : wdB (.list (L.map (burnD c))) = true := wd_list (by rw [List.length_map]; exact h) (wd_map (burn_wd c) L)

section
variable {P : Program} {w : World} {K : PySem.W.Frag} {mg : Str → Option Value} {base : Heap} {a : Ad}
def spRight (TB : Addr) : Sp := fun vs H Q _ => ∃ (p : Addr), vs = [.ref p] ∧ Jar H p 0 ∧ GxR.TabG H TB ∧ ∀ H', Kp [p] H H' → Q (.bl true) H'
theorem ok_law_right (T : Tx K mg a) (TB : GxR.TabB base mg a.cd_is_net a.tb_is_net) : FnOk P w K mg base CX0 10 a.a_law_right a.f_law_right ["jar"] (spRight a.tb_is_net) := by
  have G_law_net := ok_law_net (P := P) (w := w) (base := base) T
  have G_law_plan := ok_law_plan (P := P) (w := w) (base := base) T
  have G_law_walked := ok_law_walked (P := P) (w := w) (base := base) T
  have G_law_exact := ok_law_exact (P := P) (w := w) (base := base) T 7
  have G_Embers___init__ := ok_init (P := P) (w := w) (base := base) T TB
  have G_Embers_kindle := ok_kindle (P := P) (w := w) (base := base) T
  have G_Embers_go := ok_go (P := P) (w := w) (base := base) T
  have G_Embers_coming := ok_coming (P := P) (w := w) (base := base) T
  have G_Embers_burning := ok_burning (P := P) (w := w) (base := base) T
  obtain ⟨ds, vd_Embers_go, bd_Embers_go⟩ := go_binds T
  refine T.law_right.F.ok sc_law_right (fun vs H Q E h => ?_) (fun cdv A outer s H vs Q E hr h => ?_)
  · obtain ⟨p, rfl, _⟩ := h
    rfl
  obtain ⟨p, rfl, hj, ht, q⟩ := h
  refine ⟨_, (pss_cons (ps_set (i := 1) sc_law_right.nd rfl (by first | exact .inl rfl | exact .inr rfl) (pe_call G_law_net (hr.mono (by decide)) (by rfl) T.law_net.g T.law_net.F.kp T.law_net.b .nil pass0 (pa_cons (pv 0) (pa_cons pe_int pa_nil))))
      (pss_cons (ps_set (i := 2) sc_law_right.nd rfl (by first | exact .inl rfl | exact .inr rfl) (pe_call G_law_plan (hr.mono (by decide)) (by rfl) T.law_plan.g T.law_plan.F.kp T.law_plan.b .nil pass0 (pa_cons (pv 0) (pa_cons (pv 1) (pa_cons pe_int (pa_cons pe_int pa_nil))))))
      (pss_cons (ps_asg (pe_call G_law_walked (hr.mono (by decide)) (by rfl) T.law_walked.g T.law_walked.F.kp T.law_walked.b .nil pass0 (pa_cons (pv 1) (pa_cons (pv 2) pa_nil))) (pg_tup (by rfl) (pgs_cons (pg_name (i := 3) sc_law_right.nd rfl (by first | exact .inl rfl | exact .inr rfl)) (pgs_cons (pg_name (i := 4) sc_law_right.nd rfl (by first | exact .inl rfl | exact .inr rfl)) pgs_nil))))
      (pss_cons (ps_set (i := 5) sc_law_right.nd rfl (by first | exact .inl rfl | exact .inr rfl) (pe_make T.mk_Embers G_Embers___init__ (hr.mono (by decide)) (by rfl) T.g_Embers T.b_Embers___init__ .nil pass0 (pa_cons (pv 1) pa_nil)))
      (pss_cons (ps_set (i := 6) sc_law_right.nd rfl (by first | exact .inl rfl | exact .inr rfl) (pe_op op_rep (pe_lst (pa_cons pe_non pa_nil)) (pe_callB call_len_seq (by rfl) T.n_len (by decide +kernel) (pa_cons (pv 1) pa_nil))))
      (pss_cons (ps_for PassesOwn.never rfl (pi_range1 (by rfl) T.n_range (pa_cons (pe_callB call_len_seq (by rfl) T.n_len (by decide +kernel) (pa_cons (pv 2) pa_nil)) pa_nil)) (pg_name (i := 7) sc_law_right.nd rfl (by first | exact .inl rfl | exact .inr rfl)) (pss_cons (ps_for PassesOwn.never rfl (pi_list (pe_ix ix_list (pv 2) (pv 7) (fun _ _ => rfl))) (pg_name (i := 8) sc_law_right.nd rfl (by first | exact .inl rfl | exact .inr rfl)) (pss_one (ps_expr (pe_meth (pv 5) T.cl_Embers T.m_Embers_kindle G_Embers_kindle (hr.mono (by decide)) T.b_Embers_kindle .nil pass0 (pa_cons (pv 8) pa_nil)))))
      (pss_cons (ps_if (PW.pt (pw_or (pt_not (pt_val (pe_call G_law_exact (hr.mono (by decide)) (by rfl) T.law_exact.g T.law_exact.F.kp T.law_exact.b .nil pass0 (pa_cons (pe_meth0 (pv 5) T.cl_Embers T.m_Embers_burning G_Embers_burning (hr.mono (by decide)) T.b_Embers_burning .nil pass0) (pa_cons (pv 6) pa_nil))))) (pw_or1 (pt_not (pt_val (pe_call G_law_exact (hr.mono (by decide)) (by rfl) T.law_exact.g T.law_exact.F.kp T.law_exact.b .nil pass0 (pa_cons (pe_meth0 (pv 5) T.cl_Embers T.m_Embers_coming G_Embers_coming (hr.mono (by decide)) T.b_Embers_coming .nil pass0) (pa_cons (pv 7) pa_nil)))))))) (pss_one (ps_ret pe_bl)) pss_nil)
      (pss_cons (ps_expr (pe_meth0 (pv 5) T.cl_Embers T.m_Embers_go G_Embers_go (hr.mono (by decide)) bd_Embers_go vd_Embers_go pass0))
      (pss_cons (ps_set (i := 6) sc_law_right.nd rfl (by first | exact .inl rfl | exact .inr rfl) (pe_ix ix_list (pv 4) (pv 7) (fun _ _ => rfl)))
      (pss_one (ps_if (pt_not (pt_val (pe_call G_law_exact (hr.mono (by decide)) (by rfl) T.law_exact.g T.law_exact.F.kp T.law_exact.b .nil pass0 (pa_cons (pe_meth0 (pv 5) T.cl_Embers T.m_Embers_burning G_Embers_burning (hr.mono (by decide)) T.b_Embers_burning .nil pass0) (pa_cons (pv 6) pa_nil))))) (pss_one (ps_ret pe_bl)) pss_nil)))))))
      (pss_one (ps_ret (pe_cmpR op_eq (pe_meth0 (pv 5) T.cl_Embers T.m_Embers_coming G_Embers_coming (hr.mono (by decide)) T.b_Embers_coming .nil pass0) (pe_callB call_len_seq (by rfl) T.n_len (by decide +kernel) (pa_cons (pv 2) pa_nil)) (nomark _)))))))))), ?_⟩
  refine ⟨.ref p, rfl, p, 20, 0, rfl, hj, by decide, by decide, by decide, fun vn H1 N ok sN _ nw k1 j1 => ?_⟩
  have hd1 : Tu H1 vn (netD N) := nw.tu (flat_net N)
  have ht1 := k1.tab _ ht
  have h12 := ok.hi
  refine ⟨.ref p, rfl, vn, rfl, p, vn, N, 60, 14, _, rfl, j1, by omega, hd1, ok, by decide, by decide, by decide, by decide, fun c ps css H2 hB2 hcl hnew hlt htt k2 j2 => ?_⟩
  have t2 : Kt H1 H2 := k2.kt j1.nt
  have hd2 := hd1.kt t2
  have ht2 := k2.tab _ ht1
  refine ⟨vn, rfl, .ref c, rfl, vn, c, ps, css, N, rfl, hd2, ok, hB2, hlt, by omega, by omega, fun tt rp sp xs ys H3 h3t h3rn h3sn hrs h3r t3r h3s st3 _ k3 => ?_⟩
  refine ⟨tt, _, rfl, SqT.of h3t, rfl, _, _, rfl, _, _, rfl, rfl, ?_⟩
  have hd3 := hd2.kt k3.kt0
  have hB3 := hB2.kp k3 fun _ _ => by simp
  have ht3 := k3.tab _ ht2
  -- ember = Embers(land)
  refine ⟨vn, rfl, fun e dx ne ndx nex => ?_⟩
  obtain ⟨H4, e4⟩ : ∃ H4, H4 = upd (upd H3 dx (.own e)) e (.ins a.c_Embers dx []) := ⟨_, rfl⟩
  have ne2 : upd H3 dx (.own e) e = none := by rw [upd_ne nex.symm]; exact ne
  have k4 : Kp [] H3 H4 := by rw [e4]; exact (Kp.new ndx).tr (Kp.new ne2)
  rw [← e4]
  have he4 : H4 e = some (.ins a.c_Embers dx []) := by rw [e4]; exact upd_same
  refine ⟨e, dx, vn, N, rfl, he4, hd3.kt k4.kt0, ok, k4.tab _ ht3, fun w0 l r H5 nw0 nl nr hE5 k5 => ⟨rfl, ?_⟩⟩
  have free4 : ∀ {x Hx}, Kp [e] H4 Hx → Hx x = none → H3 x = none := fun {x Hx} k n => by
    cases z : H3 x with
    | none => rfl
    | some o => exact absurd n (k.tr_ x (k4.tr_ x (by rw [z]; exact fun y => by cases y)))
  have free40 : ∀ {x}, H4 x = none → H3 x = none := fun {x} n => free4 (Kp.rfl' (S := [e])) n
  have k35 : Kp [] H3 H5 := Kp.drop ne (k4.of0.tr k5)
  have lps : (ps.map V.ref).length = css.length := by rw [List.length_map, hB3.len]
  obtain ⟨ad, xn, rfl, hx3, hln, _⟩ := tnet_at hd3
  -- due = [None] * len(land)
  refine ⟨by show 1 ≤ sizeLine; decide, fun l0 nl0 => ?_⟩
  have k0 : Kp [] H5 (upd H5 l0 (.lst [.non])) := Kp.new nl0
  refine ⟨.ref ad, rfl, ad, xn, rfl, .inr (SqT.of (k0.kt0 _ _ (k35.kt0 _ _ hx3))), l0, _, _, rfl, rfl, upd_same, by omega, by omega, ?_, fun q0 nq0 => ?_⟩
  · rw [hln]
    exact Nat.le_trans (show [V.non].length * ((N.length : Int)).toNat ≤ 12 by show 1 * _ ≤ 12; omega) (by decide)
  have erep : (List.replicate ((xn.length : Int)).toNat [V.non]).flatten = List.replicate N.length .non := by
    rw [hln, Int.toNat_natCast]
    generalize N.length = m
    induction m with
    | zero => rfl
    | succ m ih => rw [List.replicate_succ, List.flatten_cons, ih]; rfl
  rw [erep]
  obtain ⟨H6, e6⟩ : ∃ H6, H6 = upd (upd H5 l0 (.lst [.non])) q0 (.lst (List.replicate N.length .non)) := ⟨_, rfl⟩
  rw [← e6]
  have k56 : Kp [] H5 H6 := e6 ▸ k0.tr (Kp.new nq0)
  have hq6 : H6 q0 = some (.lst (List.replicate N.length .non)) := by rw [e6]; exact upd_same
  have hE6 := hE5.kp k56 k56.kt0 fun _ _ => by simp
  have k36 := k35.tr k56
  have q0E : q0 ∉ [e, w0, l, r] := fun z => hE5.tr q0 z (by
    cases y : H5 q0 with
    | none => rfl
    | some o => exact absurd nq0 (k0.tr_ q0 (by rw [y]; exact fun y => by cases y)))
  have d0 : TuA H6 (List.replicate N.length .non) ((wk N css 0).L.map (burnD (((0 : Nat) : Int) - 1))) := by
    show TuA H6 _ ((List.replicate N.length none).map _)
    rw [List.map_replicate]
    exact TuA.rep .non _
  have stK : ∀ {Hx}, Kp [] H3 Hx → ∀ j, j < css.length → ∃ (q : Addr) (bs : List V), ys[j]? = some (.ref q) ∧ H3 q ≠ none ∧ Hx q = some (.lst bs) ∧ TuA Hx bs ((wk N css (j + 1)).L.map (burnD (j : Nat))) := fun {Hx} k j hj => by
    obtain ⟨q, bs, a1, a2, a3, a4⟩ := st3.2 j hj
    exact ⟨q, bs, a1, (by rw [a3]; exact fun z => by cases z), k.lst (by simp) a3, a4.kt k.kt0⟩
  have dropE : ∀ {wq : Addr} {Hx}, H3 wq = none → Kp [e, wq, l, r] H3 Hx → Kp [] H3 Hx := fun {wq Hx} nwq k => Kp.drop (free40 nr) (Kp.drop (S := [r]) (free40 nl) (Kp.drop (S := [l, r]) nwq (Kp.drop (S := [wq, l, r]) ne k)))
  have inE : ∀ {wq x : Addr}, H3 wq = none → H3 x ≠ none → x ∉ [e, wq, l, r] := fun {wq x} nwq hx z => by
    simp only [List.mem_cons, List.not_mem_nil, or_false] at z
    rcases z with z | z | z | z <;> rw [z] at hx
    · exact hx ne
    · exact hx nwq
    · exact hx (free40 nl)
    · exact hx (free40 nr)
  -- for at in range(len(plan))
  have hB6 := hB3.kp k36 fun _ _ => by simp
  refine ⟨.ref c, rfl, c, _, rfl, .inl (SqL.of hB6.top), css.length, by rw [lps], by omega, by omega, for_range (n := css.length) (fun i σ H' => ∃ (o7 o8 : Option V) (wq qd : Addr) (bs : List V), σ = [some (.ref p), some (.ref ad), some (.ref c), some (.ref rp), some (.ref sp), some (.ref e), some (.ref qd), o7, o8] ∧
      Emb a.c_Embers H' e wq l r ⟨N, i, (wk N css i).many, [], (wk N css i).L, (wk N css i).rows⟩ ∧ H3 wq = none ∧ Kp [] H3 H' ∧ H' qd = some (.lst bs) ∧ TuA H' bs ((wk N css i).L.map (burnD ((i : Int) - 1))) ∧ qd ∉ [e, wq, l, r]) ⟨none, none, w0, q0, _, rfl, hE6, free40 nw0, k36, hq6, d0, q0E⟩ (fun i σ H6 hi hP => ?_) (fun σ H6 hP => ?_)⟩
  · obtain ⟨o7, o8, wq, qd, bs, rfl, hE6, nwq, k6, hqd, tqd, qdE⟩ := hP
    rw [show (0 + (i : Int)) = (i : Int) by omega]
    obtain ⟨wl, wr, wm⟩ := wk_len (N := N) (css := css) i
    have hB6 := hB3.kp k6 fun _ _ => by simp
    obtain ⟨gp, gg, hgg, hgp, hgpv, hHg, hgm⟩ := hB6.get (i := i) hi
    have lgg : gg.length ≤ 14 := Nat.le_trans (tot_mem (List.mem_of_getElem? hgg)) htt
    have ggN : ∀ k ∈ gg, k < N.length := hlt gg (List.mem_of_getElem? hgg)
    have egg : css.getD i [] = gg := getD_css hgg
    obtain ⟨m0, hm0⟩ : ∃ m0, m0 = (wk N css i).many := ⟨_, rfl⟩
    rw [← hm0] at hE6
    have eH3 : H3 gp = some (.lst (natV gg)) := hB3.at_ i gp gg hgp hgg
    -- for k in plan[at]
    refine ⟨.ref c, rfl, .int i, rfl, c, _, i, .ref gp, rfl, rfl, SqL.of hB6.top, atI_nat hgpv, gp, rfl, ⟨_, SqL.of hHg⟩, for_list (xs := natV gg) (fun j σ H' => ∃ (o8 : Option V), σ = [some (.ref p), some (.ref ad), some (.ref c), some (.ref rp), some (.ref sp), some (.ref e), some (.ref qd), some (.int i), o8] ∧
        Emb a.c_Embers H' e wq l r ⟨N, i, m0 + j, numW m0 (gg.take j), (wk N css i).L, (wk N css i).rows⟩ ∧ Kp [] H3 H' ∧ H' qd = some (.lst bs) ∧ TuA H' bs ((wk N css i).L.map (burnD ((i : Int) - 1)))) ⟨o8, rfl, hE6, k6, hqd, tqd⟩ (fun j σ H' _ hP => ?_) (fun j x σ H7 hx7 hP => ?_) (fun σ H7 hP => ?_)⟩
    · obtain ⟨_, _, _, k7, _⟩ := hP
      exact SqL.of (k7.lst (by simp) eH3)
    · obtain ⟨o8, rfl, hE7, k7, hq7, tq7⟩ := hP
      obtain ⟨kx, hkx, rfl⟩ : ∃ f : Nat, gg[j]? = some f ∧ x = .int (f : Int) := by
        unfold natV at hx7
        rw [List.getElem?_map] at hx7
        cases q1 : gg[j]? with
        | none => rw [q1] at hx7; cases hx7
        | some u => rw [q1] at hx7; exact ⟨u, rfl, (Option.some.inj hx7).symm⟩
      have hkN := ggN kx (List.mem_of_getElem? hkx)
      obtain ⟨⟨dx7, v7, q17, _⟩, _⟩ := id hE7
      have lW : (numW m0 (gg.take j)).length < 1000 := by rw [numW_len, List.length_take]; omega
      -- ember.kindle(k)
      refine ⟨.ref e, rfl, e, dx7, _, rfl, q17, em_no (by decide +kernel), .int kx, rfl, e, wq, l, r, _, kx, rfl, hE7, hkN, lW, fun H8 hE8 k8 => ?_⟩
      have t8 : Kt H7 H8 := k8.kt hE7.nt
      refine ⟨some (.int kx), rfl, ?_, dropE nwq (k7.of0.tr k8), k8.lst qdE hq7, tq7.kt t8⟩
      rw [numW_take m0 gg j kx hkx]
      exact hE8
    · obtain ⟨o8, rfl, hE7, k7, hq7, tq7⟩ := hP
      rw [natV_len, List.take_length] at hE7
      obtain ⟨⟨dx7, v7, q17, _⟩, _⟩ := id hE7
      have lR : (wk N css i).rows.length ≤ 10000000 := by
        have := tot_take css i
        have : N.length * i ≤ 12 * 100 := Nat.mul_le_mul h12 (by omega)
        omega
      have lL : (wk N css i).L.length < 100000 := by rw [wl]; omega
      -- if not _law_exact(ember.burning(), due)
      refine ⟨.ref e, rfl, e, dx7, _, rfl, q17, em_no (by decide +kernel), e, wq, l, r, _, rfl, hE7, fun p8 xs8 H8 np8 h8p t8p k8 => ?_⟩
      have hq8 := k8.lst (by simp) hq7
      refine ⟨.ref qd, rfl, .ref p8, .ref qd, .list ((wk N css i).L.map (burnD ((i : Int) - 1))), rfl, .lst (by simp) h8p t8p.dx0, .lst (by simp) hq8 (tq7.kt k8.kt0).dx0, burns_lay _ _, burns_wd lL, Nat.le_trans (burns_depth _ _) (by decide), fun H9 k9 => ⟨true, rfl, iteF ?_⟩⟩
      have k79 := k8.tr k9
      have hE9 := hE7.kp k79 k79.kt0 fun _ _ => by simp
      obtain ⟨⟨dx9, v9, q19, _⟩, _⟩ := id hE9
      -- or not _law_exact(ember.coming(), at)
      refine ⟨.ref e, rfl, e, dx9, _, rfl, q19, em_no (by decide +kernel), e, wq, l, r, _, rfl, hE9, .int i, rfl, .int (i : Nat), .int (i : Nat), .int (i : Nat), rfl, .int _, .int _, rfl, rfl, Nat.zero_le _, fun H10 k10 => ⟨true, rfl, iteF ?_⟩⟩
      have k7A := k79.tr k10
      have hE10 := hE7.kp k7A k7A.kt0 fun _ _ => by simp
      have k3A := k7.tr k7A
      obtain ⟨⟨dxA, vA, q1A, _⟩, _⟩ := id hE10
      -- ember.go()
      refine ⟨.ref e, rfl, e, dxA, _, rfl, q1A, em_no (by decide +kernel), e, wq, l, r, _, 1, rfl, hE10, by decide, by decide, ?_, lR, fun w' pB xsB HB nw' npB pw' hBp tBp hEB kB => ?_⟩
      · show (numW m0 gg).length ≤ 500
        rw [numW_len]
        omega
      have nw3 : H3 w' = none := by
        cases z : H3 w' with
        | none => rfl
        | some o => exact absurd nw' (k3A.tr_ w' (by rw [z]; exact fun y => by cases y))
      have k3B : Kp [] H3 HB := Kp.drop (free40 nr) (Kp.drop (S := [r]) (free40 nl) (Kp.drop (S := [l, r]) ne (k3A.of0.tr kB)))
      obtain ⟨B, hBB⟩ : ∃ B, B = beatA N i (wk N css i).L (numW m0 gg) := ⟨_, rfl⟩
      have ewk : wk N css (i + 1) = ⟨B.L, (wk N css i).rows ++ B.rows, m0 + gg.length, (wk N css i).stands ++ [B.L]⟩ := by
        show (⟨_, _, _, _⟩ : Wk) = _
        rw [egg, ← hm0, ← hBB]
      have hEB' : Emb a.c_Embers HB e w' l r ⟨N, i + 1, (wk N css (i + 1)).many, [], (wk N css (i + 1)).L, (wk N css (i + 1)).rows⟩ := by
        rw [ewk]
        have e11 : (⟨N, i + 1, m0 + gg.length, [], B.L, (wk N css i).rows ++ B.rows⟩ : EmS) = { ((⟨N, i, m0 + gg.length, numW m0 gg, (wk N css i).L, (wk N css i).rows⟩ : EmS).goN 1).1 with R := (wk N css i).rows ++ ((⟨N, i, m0 + gg.length, numW m0 gg, (wk N css i).L, (wk N css i).rows⟩ : EmS).goN 1).2 } := by
          rw [hBB]
          rfl
        rw [e11]
        exact hEB
      -- due = stands[at]
      obtain ⟨q9, bs9, y9, n9, h9, t9⟩ := stK k3B i hi
      have hsB := k3B.lst (by simp) h3s
      refine ⟨.ref sp, rfl, .int i, rfl, sp, ys, i, .ref q9, rfl, rfl, SqL.of hsB, atI_nat y9, ?_⟩
      obtain ⟨⟨dxB, vB, q1B, _⟩, _⟩ := id hEB'
      have lL1 : (wk N css (i + 1)).L.length < 100000 := by rw [(wk_len (N := N) (css := css) (i + 1)).1]; omega
      -- if not _law_exact(ember.burning(), due)
      refine ⟨.ref e, rfl, e, dxB, _, rfl, q1B, em_no (by decide +kernel), e, w', l, r, _, rfl, hEB', fun pC xsC HC npC hCp tCp kC => ?_⟩
      have hqC := kC.lst (by simp) h9
      have tC1 : TuA HC xsC ((wk N css (i + 1)).L.map (burnD (i : Nat))) := by
        have := tCp
        rwa [show ((((⟨N, i + 1, (wk N css (i + 1)).many, [], (wk N css (i + 1)).L, (wk N css (i + 1)).rows⟩ : EmS).b : Nat) : Int) - 1) = (i : Int) by show ((i + 1 : Nat) : Int) - 1 = _; omega] at this
      refine ⟨.ref q9, rfl, .ref pC, .ref q9, .list ((wk N css (i + 1)).L.map (burnD (i : Nat))), rfl, .lst (by simp) hCp tC1.dx0, .lst (by simp) hqC (t9.kt kC.kt0).dx0, burns_lay _ _, burns_wd lL1, Nat.le_trans (burns_depth _ _) (by decide), fun HD kD => ⟨true, rfl, iteF ?_⟩⟩
      have kBD := kC.tr kD
      refine ⟨some (.int i), o8, w', q9, bs9, rfl, hEB'.kp kBD kBD.kt0 fun _ _ => by simp, nw3, k3B.tr kBD, kBD.lst (by simp) h9, ?_, inE nw3 n9⟩
      rw [show (((i + 1 : Nat) : Int) - 1) = (i : Int) by omega]
      exact t9.kt kBD.kt0
  · obtain ⟨o7, o8, wq, qd, bs, rfl, hE6, nwq, k6, hqd, tqd, qdE⟩ := hP
    obtain ⟨⟨dx6, v6, q16, _⟩, _⟩ := id hE6
    have hB6 := hB3.kp k6 fun _ _ => by simp
    -- return ember.coming() == len(plan)
    refine ⟨.ref e, rfl, e, dx6, _, rfl, q16, em_no (by decide +kernel), e, wq, l, r, _, rfl, hE6, .ref c, rfl, c, _, rfl, .inl (SqL.of hB6.top), rfl, ?_⟩
    rw [lps, decide_eq_true (Eq.refl _)]
    exact q H6 (k1.tr (k2.tr (k3.of0.tr k6.of0)))
end

/-! ### the law over its cells -/
section
variable {P : Program} {w : World} {K : PySem.W.Frag} {mg : Str → Option Value} {base : Heap} {a : Ad}
def spLaw (TB : Addr) : Sp := fun vs H Q _ => ∃ (l : Addr) (ns : List Int), vs = [.ref l] ∧ SqL K H l (ns.map V.int) ∧ ns.length ≤ 63 ∧ GxR.TabG H TB ∧ ∀ H', Q (.bl true) H'
theorem ok_law (T : Tx K mg a) (TB : GxR.TabB base mg a.cd_is_net a.tb_is_net) : FnOk P w K mg base CX0 11 a.a_law a.f_law ["script"] (spLaw (K := K) a.tb_is_net) := by
  have G_law_cells := ok_law_cells (P := P) (w := w) (base := base) T
  have G_law_jar := ok_law_jar (P := P) (w := w) (base := base) T
  have G_law_right := ok_law_right (P := P) (w := w) (base := base) T TB
  refine T.law.F.ok sc_law (fun vs H Q E h => ?_) (fun cdv A outer s H vs Q E hr h => ?_)
  · obtain ⟨l, ns, rfl, _⟩ := h
    rfl
  obtain ⟨l, ns, rfl, hl, hn, ht, q⟩ := h
  refine ⟨_, (pss_cons (ps_set (i := 1) sc_law.nd rfl (by first | exact .inl rfl | exact .inr rfl) (pe_call G_law_cells (hr.mono (by decide)) (by rfl) T.law_cells.g T.law_cells.F.kp T.law_cells.b .nil pass0 (pa_cons (pv 0) (pa_cons pe_int pa_nil))))
      (pss_cons (ps_for PassesOwn.never rfl (pi_range1 (by rfl) T.n_range (pa_cons (pe_callB call_len_seq (by rfl) T.n_len (by decide +kernel) (pa_cons (pv 1) pa_nil)) pa_nil)) (pg_name (i := 2) sc_law.nd rfl (by first | exact .inl rfl | exact .inr rfl)) (pss_one (ps_if (pt_not (pt_val (pe_call G_law_right (hr.mono (by decide)) (by rfl) T.law_right.g T.law_right.F.kp T.law_right.b .nil pass0 (pa_cons (pe_call G_law_jar (hr.mono (by decide)) (by rfl) T.law_jar.g T.law_jar.F.kp T.law_jar.b .nil pass0 (pa_cons (pe_ix ix_list (pv 1) (pv 2) (fun _ _ => rfl)) (pa_cons (pv 2) pa_nil))) pa_nil)))) (pss_one (ps_ret pe_bl)) pss_nil)))
      (pss_one (ps_ret pe_bl)))), ?_⟩
  -- cells = _law_cells(script, ..)
  refine ⟨.ref l, rfl, l, ns, 5, rfl, hl, hn, by decide, fun u cs H1 hu hcs k1 => ?_⟩
  have ht1 := k1.tab _ ht
  have lcs : (cs.map V.int).length = cs.length := List.length_map _
  -- for k in range(len(cells))
  refine ⟨.ref u, rfl, u, _, rfl, .inl (SqL.of hu), cs.length, by rw [lcs], by omega, by omega, for_range (n := cs.length) (fun i σ H' => ∃ (o2 : Option V), σ = [some (.ref l), some (.ref u), o2] ∧ Kp [] H1 H') ⟨none, rfl, .rfl'⟩ (fun i σ H2 hi hP => ?_) (fun σ H2 hP => ?_)⟩
  · obtain ⟨o2, rfl, k2⟩ := hP
    rw [show (0 + (i : Int)) = (i : Int) by omega]
    have hu2 := k2.lst (by simp) hu
    obtain ⟨cell, hc⟩ : ∃ cell, cs[i]? = some cell := ⟨cs[i], List.getElem?_eq_getElem hi⟩
    have hcv : (cs.map V.int)[i]? = some (.int cell) := by rw [List.getElem?_map, hc]; rfl
    refine ⟨.ref u, rfl, .int i, rfl, u, _, i, .int cell, rfl, rfl, SqL.of hu2, atI_nat hcv, .int i, rfl, cell, i, rfl, by omega, fun p np H3 k3 j3 => ?_⟩
    refine ⟨p, rfl, j3, k3.tab _ (k2.tab _ ht1), fun H4 k4 => ⟨true, rfl, iteF ?_⟩⟩
    exact ⟨_, rfl, k2.tr (Kp.drop np (k3.of0.tr k4))⟩
  · obtain ⟨o2, rfl, k2⟩ := hP
    exact q H2
end

/-! ### the head -/
def hex (_ : PySem.W.Frag) : Bool := true
def hd_is_whole : He.DefD := ⟨("is_whole", none), "is_whole", "is_whole", defArgs s_is_whole, defBody s_is_whole, defScope s_is_whole, [], []⟩
def hd_is_pair : He.DefD := ⟨("is_pair", none), "is_pair", "is_pair", defArgs s_is_pair, defBody s_is_pair, defScope s_is_pair, [], []⟩
def hd_is_number_of_many : He.DefD := ⟨("is_number_of_many", none), "is_number_of_many", "is_number_of_many", defArgs s_is_number_of_many, defBody s_is_number_of_many, defScope s_is_number_of_many, [], []⟩
def hd_is_lamp_of_many : He.DefD := ⟨("is_lamp_of_many", none), "is_lamp_of_many", "is_lamp_of_many", defArgs s_is_lamp_of_many, defBody s_is_lamp_of_many, defScope s_is_lamp_of_many, [], []⟩
def hd_is_net : He.DefD := ⟨("is_net", none), "is_net", "is_net", defArgs s_is_net, defBody s_is_net, defScope s_is_net, [], []⟩
def hd_need_net : He.DefD := ⟨("need_net", none), "need_net", "need_net", defArgs s_need_net, defBody s_need_net, defScope s_need_net, [], []⟩
def hd_need_lamp : He.DefD := ⟨("need_lamp", none), "need_lamp", "need_lamp", defArgs s_need_lamp, defBody s_need_lamp, defScope s_need_lamp, [], []⟩
def hd_Embers___init__ : He.DefD := ⟨("Embers", some "__init__"), "__init__", "Embers.__init__", defArgs s_Embers___init__, defBody s_Embers___init__, defScope s_Embers___init__, [], []⟩
def hd_Embers_kindle : He.DefD := ⟨("Embers", some "kindle"), "kindle", "Embers.kindle", defArgs s_Embers_kindle, defBody s_Embers_kindle, defScope s_Embers_kindle, [], []⟩
def hd_Embers_go : He.DefD := ⟨("Embers", some "go"), "go", "Embers.go", defArgs s_Embers_go, defBody s_Embers_go, defScope s_Embers_go, [], [("beats", .int 1)]⟩
def hd_Embers_coming : He.DefD := ⟨("Embers", some "coming"), "coming", "Embers.coming", defArgs s_Embers_coming, defBody s_Embers_coming, defScope s_Embers_coming, [], []⟩
def hd_Embers_burning : He.DefD := ⟨("Embers", some "burning"), "burning", "Embers.burning", defArgs s_Embers_burning, defBody s_Embers_burning, defScope s_Embers_burning, [], []⟩
def hd_Embers_happened : He.DefD := ⟨("Embers", some "happened"), "happened", "Embers.happened", defArgs s_Embers_happened, defBody s_Embers_happened, defScope s_Embers_happened, [], []⟩
def hd_Embers__go_on : He.DefD := ⟨("Embers", some "_go_on"), "_go_on", "Embers._go_on", defArgs s_Embers__go_on, defBody s_Embers__go_on, defScope s_Embers__go_on, [], []⟩
def hd_Embers__darken : He.DefD := ⟨("Embers", some "_darken"), "_darken", "Embers._darken", defArgs s_Embers__darken, defBody s_Embers__darken, defScope s_Embers__darken, [], []⟩
def hd_Embers__meet : He.DefD := ⟨("Embers", some "_meet"), "_meet", "Embers._meet", defArgs s_Embers__meet, defBody s_Embers__meet, defScope s_Embers__meet, [], []⟩
def hd_law_jar : He.DefD := ⟨("_law_jar", none), "_law_jar", "_law_jar", defArgs s_law_jar, defBody s_law_jar, defScope s_law_jar, [], []⟩
def hd_law_pull : He.DefD := ⟨("_law_pull", none), "_law_pull", "_law_pull", defArgs s_law_pull, defBody s_law_pull, defScope s_law_pull, [], []⟩
def hd_law_cells : He.DefD := ⟨("_law_cells", none), "_law_cells", "_law_cells", defArgs s_law_cells, defBody s_law_cells, defScope s_law_cells, [], []⟩
def hd_law_next : He.DefD := ⟨("_law_next", none), "_law_next", "_law_next", defArgs s_law_next, defBody s_law_next, defScope s_law_next, [], []⟩
def hd_law_net : He.DefD := ⟨("_law_net", none), "_law_net", "_law_net", defArgs s_law_net, defBody s_law_net, defScope s_law_net, [], []⟩
def hd_law_plan : He.DefD := ⟨("_law_plan", none), "_law_plan", "_law_plan", defArgs s_law_plan, defBody s_law_plan, defScope s_law_plan, [], []⟩
def hd_law_came : He.DefD := ⟨("_law_came", none), "_law_came", "_law_came", defArgs s_law_came, defBody s_law_came, defScope s_law_came, [], []⟩
def hd_law_walked : He.DefD := ⟨("_law_walked", none), "_law_walked", "_law_walked", defArgs s_law_walked, defBody s_law_walked, defScope s_law_walked, [], []⟩
def hd_law_exact : He.DefD := ⟨("_law_exact", none), "_law_exact", "_law_exact", defArgs s_law_exact, defBody s_law_exact, defScope s_law_exact, [], []⟩
def hd_law_right : He.DefD := ⟨("_law_right", none), "_law_right", "_law_right", defArgs s_law_right, defBody s_law_right, defScope s_law_right, [], []⟩
def hd_law : He.DefD := ⟨("law", none), "law", "law", defArgs s_law, defBody s_law, defScope s_law, [], []⟩
def hfn : List He.DefD := [hd_is_whole, hd_is_pair, hd_is_number_of_many, hd_is_lamp_of_many, hd_is_net, hd_need_net, hd_need_lamp, hd_Embers___init__, hd_Embers_kindle, hd_Embers_go, hd_Embers_coming, hd_Embers_burning, hd_Embers_happened, hd_Embers__go_on, hd_Embers__darken, hd_Embers__meet, hd_law_jar, hd_law_pull, hd_law_cells, hd_law_next, hd_law_net, hd_law_plan, hd_law_came, hd_law_walked, hd_law_exact, hd_law_right, hd_law]
def hfa : List He.Fa := [.glo "is_whole", .glo "is_pair", .glo "is_number_of_many", .glo "is_lamp_of_many", .glo "is_net", .glo "need_net", .glo "need_lamp", .glo "_law_jar", .glo "_law_pull", .glo "_law_cells", .glo "_law_next", .glo "_law_net", .glo "_law_plan", .glo "_law_came", .glo "_law_walked", .glo "_law_exact", .glo "_law_right", .glo "law", .free "all", .free "bool", .free "enumerate", .free "int", .free "isinstance", .free "len", .free "list", .free "max", .free "min", .free "range", .free "sorted", .free "tuple", .free "zip", .int "MOST_LAMPS" 12, .int "MOST_BEATS" 400, .glo "EmberError", .glo "NoNet", .glo "NoLamp", .glo "NoBeat", .glo "Embers", .cls "Embers", .mkr "Embers", .noat "Embers" "_net", .noat "Embers" "_beat", .noat "Embers" "_flames", .noat "Embers" "_waiting", .noat "Embers" "_lights", .noat "Embers" "_rows", .meth "Embers" "__init__", .meth "Embers" "kindle", .meth "Embers" "go", .meth "Embers" "coming", .meth "Embers" "burning", .meth "Embers" "happened", .meth "Embers" "_go_on", .meth "Embers" "_darken", .meth "Embers" "_meet"]
def htf : List (Str × Option Str) := [("is_net", none)]
abbrev hR : PySem.W.OpenRow := PySem.W.OpenLaw.row PySem.Challenge.rw_emberlane_k16_what_burns
abbrev hk : PySem.W.Hook := He.hookX 5 hfa hfn [] htf hex
def hob (s : PySem.W.SharedT) : He.AlX := He.obsX 5 hfa hfn [] htf hex (HandSHeadRun.getT s)
theorem hob_eq (s : PySem.W.SharedT) : hob s = hk.obs s.abs := He.obsX_eq (HandSHeadRun.getT_eq s)
def hloose : List PySem.Str := ["EmberError", "Embers", "MOST_BEATS", "MOST_LAMPS", "NoBeat", "NoLamp", "NoNet", "_law_came", "_law_cells", "_law_exact", "_law_jar", "_law_net", "_law_next", "_law_plan", "_law_pull", "_law_right", "_law_walked", "is_lamp_of_many", "is_net", "is_number_of_many", "is_pair", "is_whole", "need_lamp", "need_net"]
theorem hrun (w : World) : HandSHeadRun.RunEq hR (PySem.W.view hR.prog [28]) hk hob 40000 hloose w := by
  intro os
  kernel_rfl
theorem hfacts {w : World} {K : PySem.W.Frag} {h : Heap} {mg : Str → Option Value} {f : Addr} (X : K.In h) (G : h.Ns mainGlobals mg) (hfa_ : mg ("law" : Str) = some (.ref f)) (c : He.SaysX hfa hfn [] htf hex w h K) :
    ∃ a : Ad, Tx K mg a ∧ a.a_law = f ∧ (a.cd_is_net, a.tb_is_net) = He.cT K ("is_net", none) := by
  have cd : He.SaysD hfa hfn K := c.t.d
  obtain ⟨d0, F0⟩ := cd.def_ 0 (d := hd_is_whole) rfl
  obtain ⟨d1, F1⟩ := cd.def_ 1 (d := hd_is_pair) rfl
  obtain ⟨d2, F2⟩ := cd.def_ 2 (d := hd_is_number_of_many) rfl
  obtain ⟨d3, F3⟩ := cd.def_ 3 (d := hd_is_lamp_of_many) rfl
  obtain ⟨d4, F4⟩ := cd.def_ 4 (d := hd_is_net) rfl
  obtain ⟨d5, F5⟩ := cd.def_ 5 (d := hd_need_net) rfl
  obtain ⟨d6, F6⟩ := cd.def_ 6 (d := hd_need_lamp) rfl
  obtain ⟨d7, F7⟩ := cd.def_ 7 (d := hd_Embers___init__) rfl
  obtain ⟨d8, F8⟩ := cd.def_ 8 (d := hd_Embers_kindle) rfl
  obtain ⟨d9, F9⟩ := cd.def_ 9 (d := hd_Embers_go) rfl
  obtain ⟨d10, F10⟩ := cd.def_ 10 (d := hd_Embers_coming) rfl
  obtain ⟨d11, F11⟩ := cd.def_ 11 (d := hd_Embers_burning) rfl
  obtain ⟨d12, F12⟩ := cd.def_ 12 (d := hd_Embers_happened) rfl
  obtain ⟨d13, F13⟩ := cd.def_ 13 (d := hd_Embers__go_on) rfl
  obtain ⟨d14, F14⟩ := cd.def_ 14 (d := hd_Embers__darken) rfl
  obtain ⟨d15, F15⟩ := cd.def_ 15 (d := hd_Embers__meet) rfl
  obtain ⟨d16, F16⟩ := cd.def_ 16 (d := hd_law_jar) rfl
  obtain ⟨d17, F17⟩ := cd.def_ 17 (d := hd_law_pull) rfl
  obtain ⟨d18, F18⟩ := cd.def_ 18 (d := hd_law_cells) rfl
  obtain ⟨d19, F19⟩ := cd.def_ 19 (d := hd_law_next) rfl
  obtain ⟨d20, F20⟩ := cd.def_ 20 (d := hd_law_net) rfl
  obtain ⟨d21, F21⟩ := cd.def_ 21 (d := hd_law_plan) rfl
  obtain ⟨d22, F22⟩ := cd.def_ 22 (d := hd_law_came) rfl
  obtain ⟨d23, F23⟩ := cd.def_ 23 (d := hd_law_walked) rfl
  obtain ⟨d24, F24⟩ := cd.def_ 24 (d := hd_law_exact) rfl
  obtain ⟨d25, F25⟩ := cd.def_ 25 (d := hd_law_right) rfl
  obtain ⟨d26, F26⟩ := cd.def_ 26 (d := hd_law) rfl
  have e0 : f = He.ga K "law" := by
    have e := hfa_.symm.trans (He.glo_ok X G (cd.fact 17 (f := .glo "law") rfl))
    cases e
    rfl
  refine ⟨{ a_is_whole := He.fAd K hd_is_whole.at_, f_is_whole := d0, a_is_pair := He.fAd K hd_is_pair.at_, f_is_pair := d1, a_is_number_of_many := He.fAd K hd_is_number_of_many.at_, f_is_number_of_many := d2, a_is_lamp_of_many := He.fAd K hd_is_lamp_of_many.at_, f_is_lamp_of_many := d3, a_is_net := He.fAd K hd_is_net.at_, f_is_net := d4, a_need_net := He.fAd K hd_need_net.at_, f_need_net := d5, a_need_lamp := He.fAd K hd_need_lamp.at_, f_need_lamp := d6, a_Embers___init__ := He.fAd K hd_Embers___init__.at_, f_Embers___init__ := d7, a_Embers_kindle := He.fAd K hd_Embers_kindle.at_, f_Embers_kindle := d8, a_Embers_go := He.fAd K hd_Embers_go.at_, f_Embers_go := d9, a_Embers_coming := He.fAd K hd_Embers_coming.at_, f_Embers_coming := d10, a_Embers_burning := He.fAd K hd_Embers_burning.at_, f_Embers_burning := d11, a_Embers_happened := He.fAd K hd_Embers_happened.at_, f_Embers_happened := d12, a_Embers__go_on := He.fAd K hd_Embers__go_on.at_, f_Embers__go_on := d13, a_Embers__darken := He.fAd K hd_Embers__darken.at_, f_Embers__darken := d14, a_Embers__meet := He.fAd K hd_Embers__meet.at_, f_Embers__meet := d15, a_law_jar := He.fAd K hd_law_jar.at_, f_law_jar := d16, a_law_pull := He.fAd K hd_law_pull.at_, f_law_pull := d17, a_law_cells := He.fAd K hd_law_cells.at_, f_law_cells := d18, a_law_next := He.fAd K hd_law_next.at_, f_law_next := d19, a_law_net := He.fAd K hd_law_net.at_, f_law_net := d20, a_law_plan := He.fAd K hd_law_plan.at_, f_law_plan := d21, a_law_came := He.fAd K hd_law_came.at_, f_law_came := d22, a_law_walked := He.fAd K hd_law_walked.at_, f_law_walked := d23, a_law_exact := He.fAd K hd_law_exact.at_, f_law_exact := d24, a_law_right := He.fAd K hd_law_right.at_, f_law_right := d25, a_law := He.fAd K hd_law.at_, f_law := d26, c_EmberError := He.ga K "EmberError", c_NoNet := He.ga K "NoNet", c_NoLamp := He.ga K "NoLamp", c_NoBeat := He.ga K "NoBeat", c_Embers := He.ga K "Embers", cd_is_net := He.codeOf K ("is_net", none), tb_is_net := (He.cT K ("is_net", none)).2 }, ?_, e0.symm, rfl⟩
  exact ⟨Df.mk' F0 (He.glo_ok X G (cd.fact 0 (f := .glo "is_whole") rfl)) (fun _ _ _ _ _ _ us hl => match us, hl with | [_], _ => rfl),
    Df.mk' F1 (He.glo_ok X G (cd.fact 1 (f := .glo "is_pair") rfl)) (fun _ _ _ _ _ _ us hl => match us, hl with | [_], _ => rfl),
    Df.mk' F2 (He.glo_ok X G (cd.fact 2 (f := .glo "is_number_of_many") rfl)) (fun _ _ _ _ _ _ us hl => match us, hl with | [_, _], _ => rfl),
    Df.mk' F3 (He.glo_ok X G (cd.fact 3 (f := .glo "is_lamp_of_many") rfl)) (fun _ _ _ _ _ _ us hl => match us, hl with | [_, _], _ => rfl),
    Df.mk' F4 (He.glo_ok X G (cd.fact 4 (f := .glo "is_net") rfl)) (fun _ _ _ _ _ _ us hl => match us, hl with | [_], _ => rfl),
    Df.mk' F5 (He.glo_ok X G (cd.fact 5 (f := .glo "need_net") rfl)) (fun _ _ _ _ _ _ us hl => match us, hl with | [_], _ => rfl),
    Df.mk' F6 (He.glo_ok X G (cd.fact 6 (f := .glo "need_lamp") rfl)) (fun _ _ _ _ _ _ us hl => match us, hl with | [_, _], _ => rfl),
    Df.mk' F16 (He.glo_ok X G (cd.fact 7 (f := .glo "_law_jar") rfl)) (fun _ _ _ _ _ _ us hl => match us, hl with | [_, _], _ => rfl),
    Df.mk' F17 (He.glo_ok X G (cd.fact 8 (f := .glo "_law_pull") rfl)) (fun _ _ _ _ _ _ us hl => match us, hl with | [_, _], _ => rfl),
    Df.mk' F18 (He.glo_ok X G (cd.fact 9 (f := .glo "_law_cells") rfl)) (fun _ _ _ _ _ _ us hl => match us, hl with | [_, _], _ => rfl),
    Df.mk' F19 (He.glo_ok X G (cd.fact 10 (f := .glo "_law_next") rfl)) (fun _ _ _ _ _ _ us hl => match us, hl with | [_, _, _, _], _ => rfl),
    Df.mk' F20 (He.glo_ok X G (cd.fact 11 (f := .glo "_law_net") rfl)) (fun _ _ _ _ _ _ us hl => match us, hl with | [_, _], _ => rfl),
    Df.mk' F21 (He.glo_ok X G (cd.fact 12 (f := .glo "_law_plan") rfl)) (fun _ _ _ _ _ _ us hl => match us, hl with | [_, _, _, _], _ => rfl),
    Df.mk' F22 (He.glo_ok X G (cd.fact 13 (f := .glo "_law_came") rfl)) (fun _ _ _ _ _ _ us hl => match us, hl with | [_, _, _], _ => rfl),
    Df.mk' F23 (He.glo_ok X G (cd.fact 14 (f := .glo "_law_walked") rfl)) (fun _ _ _ _ _ _ us hl => match us, hl with | [_, _], _ => rfl),
    Df.mk' F24 (He.glo_ok X G (cd.fact 15 (f := .glo "_law_exact") rfl)) (fun _ _ _ _ _ _ us hl => match us, hl with | [_, _], _ => rfl),
    Df.mk' F25 (He.glo_ok X G (cd.fact 16 (f := .glo "_law_right") rfl)) (fun _ _ _ _ _ _ us hl => match us, hl with | [_], _ => rfl),
    Df.mk' F26 (He.glo_ok X G (cd.fact 17 (f := .glo "law") rfl)) (fun _ _ _ _ _ _ us hl => match us, hl with | [_], _ => rfl),
    He.free_ok X G (cd.fact 18 (f := .free "all") rfl),
    He.free_ok X G (cd.fact 19 (f := .free "bool") rfl),
    He.free_ok X G (cd.fact 20 (f := .free "enumerate") rfl),
    He.free_ok X G (cd.fact 21 (f := .free "int") rfl),
    He.free_ok X G (cd.fact 22 (f := .free "isinstance") rfl),
    He.free_ok X G (cd.fact 23 (f := .free "len") rfl),
    He.free_ok X G (cd.fact 24 (f := .free "list") rfl),
    He.free_ok X G (cd.fact 25 (f := .free "max") rfl),
    He.free_ok X G (cd.fact 26 (f := .free "min") rfl),
    He.free_ok X G (cd.fact 27 (f := .free "range") rfl),
    He.free_ok X G (cd.fact 28 (f := .free "sorted") rfl),
    He.free_ok X G (cd.fact 29 (f := .free "tuple") rfl),
    He.free_ok X G (cd.fact 30 (f := .free "zip") rfl),
    He.int_ok X G (cd.fact 31 (f := .int "MOST_LAMPS" 12) rfl),
    He.int_ok X G (cd.fact 32 (f := .int "MOST_BEATS" 400) rfl),
    codeIs_of (p := hd_is_net.at_) (x := "is_net") (qual := "is_net") (st := s_is_net) (funOf F4),
    He.cls_ok (cd.fact 38 (f := .cls "Embers") rfl),
    He.mkr_ok (cd.fact 39 (f := .mkr "Embers") rfl),
    He.noat_ok (cd.fact 40 (f := .noat "Embers" "_net") rfl),
    He.noat_ok (cd.fact 41 (f := .noat "Embers" "_beat") rfl),
    He.noat_ok (cd.fact 42 (f := .noat "Embers" "_flames") rfl),
    He.noat_ok (cd.fact 43 (f := .noat "Embers" "_waiting") rfl),
    He.noat_ok (cd.fact 44 (f := .noat "Embers" "_lights") rfl),
    He.noat_ok (cd.fact 45 (f := .noat "Embers" "_rows") rfl),
    He.glo_ok X G (cd.fact 33 (f := .glo "EmberError") rfl),
    He.glo_ok X G (cd.fact 34 (f := .glo "NoNet") rfl),
    He.glo_ok X G (cd.fact 35 (f := .glo "NoLamp") rfl),
    He.glo_ok X G (cd.fact 36 (f := .glo "NoBeat") rfl),
    He.glo_ok X G (cd.fact 37 (f := .glo "Embers") rfl),
    funOf F7,
    F7.bindsN (fun _ _ _ _ _ _ us hl => match us, hl with | [_, _], _ => rfl),
    He.meth_ok (cd.fact 46 (f := .meth "Embers" "__init__") rfl),
    funOf F8,
    F8.bindsN (fun _ _ _ _ _ _ us hl => match us, hl with | [_, _], _ => rfl),
    He.meth_ok (cd.fact 47 (f := .meth "Embers" "kindle") rfl),
    F9,
    He.meth_ok (cd.fact 48 (f := .meth "Embers" "go") rfl),
    funOf F10,
    F10.bindsN (fun _ _ _ _ _ _ us hl => match us, hl with | [_], _ => rfl),
    He.meth_ok (cd.fact 49 (f := .meth "Embers" "coming") rfl),
    funOf F11,
    F11.bindsN (fun _ _ _ _ _ _ us hl => match us, hl with | [_], _ => rfl),
    He.meth_ok (cd.fact 50 (f := .meth "Embers" "burning") rfl),
    funOf F12,
    F12.bindsN (fun _ _ _ _ _ _ us hl => match us, hl with | [_], _ => rfl),
    He.meth_ok (cd.fact 51 (f := .meth "Embers" "happened") rfl),
    funOf F13,
    F13.bindsN (fun _ _ _ _ _ _ us hl => match us, hl with | [_], _ => rfl),
    He.meth_ok (cd.fact 52 (f := .meth "Embers" "_go_on") rfl),
    funOf F14,
    F14.bindsN (fun _ _ _ _ _ _ us hl => match us, hl with | [_, _], _ => rfl),
    He.meth_ok (cd.fact 53 (f := .meth "Embers" "_darken") rfl),
    funOf F15,
    F15.bindsN (fun _ _ _ _ _ _ us hl => match us, hl with | [_, _, _], _ => rfl),
    He.meth_ok (cd.fact 54 (f := .meth "Embers" "_meet") rfl)⟩
theorem law_all {w : World} {K : PySem.W.Frag} {h : Heap} {mg : Str → Option Value} {f : Addr} (X : K.In h) (G : h.Ns mainGlobals mg) (hm : mg ("law" : Str) = some (.ref f)) (c : He.SaysX hfa hfn [] htf hex w h K) : LawG PySem.Challenge.rw_emberlane_k16_what_burns w K 11 63 "script" mg f h := by
  obtain ⟨a, T, rfl, ec⟩ := hfacts X G hm c
  refine ⟨a.f_law, [(a.cd_is_net, a.tb_is_net)], spLaw (K := K) a.tb_is_net, fun p hp => ?_, fun s u => ?_, fun H b ns hn _ hT hS => ?_, fun base XB GB TB => FnG.of (ok_law T (TB (a.cd_is_net, a.tb_is_net) (by simp)))⟩
  · obtain rfl : p = (a.cd_is_net, a.tb_is_net) := by simpa using hp
    have m : (("is_net", none) : Str × Option Str) ∈ htf := by simp [htf]
    rw [ec]
    exact ⟨c.empty _ m, c.out _ m, PySem.W.codeHd_of_K X (c.hd _ m)⟩
  · obtain ⟨oc, od, kV, doc, pm, an, cdv, ct, osl, e, lk, hcd⟩ := T.law.F.ex
    rw [e]
    exact BindsTo.of_eq rfl
  · exact ⟨b, ns, rfl, hS, hn, ⟨#[], hT (a.cd_is_net, a.tb_is_net) (by simp), by simp [TriplesOk]⟩, fun H' => rfl⟩
end K16
open PySem PySem.W PySem.Calls PyProof.Rows
set_option maxRecDepth 100000 in
set_option maxHeartbeats 0 in
theorem PySem.Challenge.cw_emberlane_k16_what_burns_holds : PySem.Challenge.rw_emberlane_k16_what_burns.Holds := by
  w_on; o_law
  refine HandSHeadRun.head_any (r := OpenLaw.row PySem.Challenge.rw_emberlane_k16_what_burns) (q := view (OpenLaw.row PySem.Challenge.rw_emberlane_k16_what_burns).prog [28]) (H := K16.hk) (ob := K16.hob) (M := 40000) (loose := K16.hloose) (d := HandSHeadRun.topDef (OpenLaw.row PySem.Challenge.rw_emberlane_k16_what_burns).prog 28) (kwd := []) K16.hob_eq
    (by kernel_rfl) (fun s => by kernel_rfl) K16.hrun (by kernel_rfl) (by kernel_rfl) (by kernel_rfl) (by rfl) (by first | assumption | decide +kernel) (by decide +kernel) ⟨rfl, rfl, rfl, rfl, rfl, by decide +kernel⟩ ?hw ?hc
  case hw => w_witness2
  case hc =>
    refine Em.walkG (l := PySem.Challenge.rw_emberlane_k16_what_burns) (n := 63) (k := 11) (x := "script") rfl (by decide) (by kernel_rfl) ⟨rfl, by decide, by decide⟩ ?F
    intro w mg fa h Y G hmg0
    obtain ⟨K, KX, c⟩ := Y
    have hmg : mg ("law" : PySem.Str) = some (.ref fa) := by
      have e : (HandSHeadRun.topDef (OpenLaw.row PySem.Challenge.rw_emberlane_k16_what_burns).prog 28).name = ("law" : PySem.Str) := by kernel_rfl
      rw [← e]
      exact hmg0
    exact ⟨K, KX, K16.law_all KX G hmg c⟩


