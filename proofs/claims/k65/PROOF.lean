import PyProof.Rows.All
import Wide.All
import OpenK.AllK
import Wide.FinOn
import HandS.ForMost
import HandS.ForExc
import HandS.IsInst
import HandS.AnyAll
import HandS.Nested
import HandS.Wide
import HandS.TupAny
import HandS.Flow
import HandS.Conv
import HandS.HeadHook4
import HandS.HeadWalk
import HandS.EndTab
import HandS.Walk
import HandS.SortRule
import HandS.Zip
import HandS.Iter
import KE.GoesEnum
import KE.GoesMore
import HandS.TupMul
import HandS.Dict
import HandS.Style
import HandS.MapSum
import HandS.SortKw
import HandS.Codes
import HandS.Evl
import HandS.Defaults
import HandS.SortInts
import HandS.DictComp
import HandS.WordsDict
import HandS.SetKeys
import KE.KMathG
import HandS.Gcd
import KE.OsSort
import HandS.Head0
import HandS.Head1
import HandS.Head2
import PySem.Challenge.RW_emberlane_k65_whole_greater_and_later
set_option Elab.async false
set_option linter.all false
set_option maxRecDepth 100000
set_option maxHeartbeats 4000000
namespace Qt
open PySem PySem.Spec PyProof.Rows L2

abbrev Up (h g : Heap) : Prop := ∀ b o, h.get? b = some o → g.get? b = some o
theorem Up.rfl' {h : Heap} : Up h h := fun _ _ e => e
theorem Up.tr {h g k : Heap} (a : Up h g) (b : Up g k) : Up h k := fun c o e => b c o (a c o e)
theorem up_lt {h g : Heap} (a : Up h g) {L : Addr} (hL : g.objs.size ≤ L) : h.get? L = none := by
  cases q : h.get? L with
  | none => rfl
  | some o => exact absurd (Nat.lt_of_lt_of_le (Heap.lt_size (a _ _ q)) hL) (Nat.lt_irrefl _)

/-- where quiet code stands: the program, the written part, the things that are read, a heap that stays -/
structure Qc where
  prog : Program
  w : World
  K : PySem.W.Frag
  mg : Str → Option Value
  H : Hp
  hd : Heap

structure Qc.Ok (c : Qc) : Prop where
  kin : c.K.In c.hd
  glo : c.hd.Ns mainGlobals c.mg
  bui : ∃ mb, c.hd.Ns builtinsNs mb ∧ ∀ x : Str, x ≠ "__name__" → mb x = bootBuiltins x
  lim : c.hd.NoLimit
  hok : HOk c.prog c.w c.H c.hd

/-- the names of a frame -/
abbrev Nm := List (Str × V)
structure At (c : Qc) (env : Env) (N : Nm) (h : Heap) : Prop where
  up : Up c.hd h
  kd : env.scope.kind = .function
  gl : env.globals = mainGlobals
  bl : env.builtins = builtinsNs
  nm : ∃ m, h.Ns env.locals m ∧ ∀ x v, N.lookup x = some v → ∃ u, RelV v u ∧ Look env h m x u
theorem look_up {env : Env} {h g : Heap} {m : Str → Option Value} {x : Str} {u : Value} (k : Up h g) (l : Look env h m x u) : Look env g m x u := by
  rcases l with l | ⟨l, a, e, i⟩
  · exact .inl l
  · exact .inr ⟨l, a, e, i.keeps k⟩
theorem At.more {c : Qc} {env : Env} {N : Nm} {h g : Heap} (a : At c env N h) (k : Up h g) : At c env N g :=
  ⟨a.up.tr k, a.kd, a.gl, a.bl, let ⟨m, n, q⟩ := a.nm; ⟨m, n.keeps k, fun x v e => let ⟨u, r, l⟩ := q x v e; ⟨u, r, look_up k l⟩⟩⟩

structure Rm (k : Nat) (A : Around) : Prop where
  hd : A.handled = none
  dp : A.depth + k < recursionLimit
theorem Rm.mono {j k : Nat} {A : Around} (r : Rm k A) (h : j ≤ k) : Rm j A := ⟨r.hd, by have := r.dp; omega⟩
theorem Rm.deeper {k : Nat} {A : Around} (r : Rm (k + 1) A) (env : Env) : Rm k (A.deeper env) := ⟨r.hd, by have := r.dp; show A.depth + 1 + k < _; omega⟩

section
variable (c : Qc) (k : Nat) (env : Env) (N : Nm)
/-- an expression that gives v and leaves all as it was -/
def QE (e : Expr) (v : V) : Prop := ∀ (A : Around) (E : Value → Shared → Prop) (Q : Value → Shared → Prop) (s : Shared), Rm k A → At c env N s.heap →
  (∀ u g tk, RelV v u → Up s.heap g → Q u { s with heap := g, toks := tk }) → wpAny (model c.prog c.w) A (eval e env) Q E s
/-- a test -/
def QT (e : Expr) (b : Bool) : Prop := ∀ (A : Around) (E : Value → Shared → Prop) (Q : Bool → Shared → Prop) (s : Shared), Rm k A → At c env N s.heap →
  (∀ g tk, Up s.heap g → Q b { s with heap := g, toks := tk }) → wpAny (model c.prog c.w) A (isTrue e env (eval e env)) Q E s
/-- arguments -/
def QA (es : List Expr) (vs : List V) : Prop := ∀ (pos : Pos) (A : Around) (E : Value → Shared → Prop) (Q : List Value → Shared → Prop) (s : Shared), Rm k A → At c env N s.heap →
  (∀ us g tk, Vals vs us → Up s.heap g → Q us { s with heap := g, toks := tk }) → wpAny (model c.prog c.w) A (spliced (backTo pos (starEach es env))) Q E s
/-- a block that returns v -/
def QB (st : List Stmt) (v : V) : Prop := ∀ (A : Around) (E : Value → Shared → Prop) (Q : Flow → Shared → Prop) (s : Shared), Rm k A → At c env N s.heap → c.hd.get? env.locals = none →
  (∀ u g tk, RelV v u → (∀ b o, b ≠ env.locals → s.heap.get? b = some o → g.get? b = some o) → Q (.ret u) { s with heap := g, toks := tk }) → wpAny (model c.prog c.w) A (execs st env) Q E s
end
/-- a def called -/
def QF (c : Qc) (k : Nat) (f : Addr) (fd : FuncData) (ps : List Str) (vs : List V) (v : V) : Prop := ∀ (A : Around) (R : Result → Shared → Prop) (args : Args) (us : List Value) (s : Shared), Rm k A → Up c.hd s.heap → BindsTo s fd args (ps.zip us) → Vals vs us →
  (∀ u g tk, RelV v u → Up s.heap g → R (.ok (.ret u)) { s with heap := g, toks := tk }) → codeAny (model c.prog c.w) A (.call (.ref f) args) R s

section
variable {c : Qc} {k : Nat} {env : Env} {N : Nm} {x : Str} {v : V} {e a b : Expr} {es : List Expr} {pos p : Pos}

theorem q_name (hN : N.lookup x = some v) (hd : (x == ("__debug__" : Str)) = false := by decide) (hcd : (x == ("__classdict__" : Str)) = false := by decide) : QE c k env N (.Name x pos) v := by
  intro A E Q s r i h
  obtain ⟨m, n, q⟩ := i.nm
  obtain ⟨u, ru, l⟩ := q x v hN
  have fin : Q u s := h u s.heap s.toks ru Up.rfl'
  rcases l with ⟨l1, l2⟩ | ⟨l1 | l1, ad, l2, l3⟩
  · exact wpAny_Name (wpAny_loadName_local i.kd l1 n l2 fin) hd
  · exact wpAny_Name (wpAny_loadName_cell i.kd l1 l2 l3 fin) hd
  · exact wpAny_Name (wpAny_loadName_free i.kd l1 l2 l3 fin hcd) hd
theorem q_int {i : Int} {j : Nat} : QE c k env N (.Constant (.int i) j pos) (.int i) := fun A E Q s r _ h =>
  wpAny_Constant_int (h _ s.heap _ ⟨_, rfl⟩ Up.rfl')
theorem q_bool {t : Bool} {j : Nat} : QE c k env N (.Constant (.bool t) j pos) (.bl t) := fun A E Q s r _ h =>
  Constant_bool (h _ s.heap s.toks rfl Up.rfl')
theorem ld_b {A : Around} {E : Value → Shared → Prop} {Q : Value → Shared → Prop} {s : Shared} {u : Value} (O : c.Ok) (i : At c env N s.heap) (hg : env.kindOf x = some .globalImplicit) (hm : c.mg x = none) (hv : bootBuiltins x = some u) (h : Q u s)
    (hn : x ≠ "__name__") (hd : (x == ("__debug__" : Str)) = false) : wpAny (model c.prog c.w) A (eval (.Name x pos) env) Q E s := by
  obtain ⟨mb, n1, n2⟩ := O.bui
  exact Calls.Name_function_global i.kd hg (Calls.loadGlobal_builtin (by rw [i.gl]; exact O.glo.keeps i.up) hm (by rw [i.bl]; exact n1.keeps i.up) ((n2 x hn).trans hv) h) hd
theorem q_blt {u : Value} (O : c.Ok) (hg : env.kindOf x = some .globalImplicit) (hm : c.mg x = none) (hv : bootBuiltins x = some u) (r : RelV v u) (hn : x ≠ "__name__" := by decide) (hd : (x == ("__debug__" : Str)) = false := by decide) :
    QE c k env N (.Name x pos) v := fun A E Q s _ i h => ld_b O i hg hm hv (h u s.heap s.toks r Up.rfl') hn hd

theorem qa_nil : QA c k env N [] [] := fun _ _ _ _ s _ _ h => Calls.spliced_nil (h _ s.heap s.toks .nil Up.rfl')
theorem qa_cons {vs : List V} (he : QE c k env N e v) (hs : QA c k env N es vs) (st : starEach (e :: es) env = (false, eval e env) :: starEach es env := by rfl) : QA c k env N (e :: es) (v :: vs) := by
  intro pos A E Q s r i h
  rw [st]
  show wpAny _ A (spliced ((false, eval e env) :: backTo pos (starEach es env))) Q E s
  refine Calls.spliced_cons (he A E _ s r i fun u g tk ru up => ?_)
  exact hs pos A E _ _ r (i.more up) fun us g2 tk2 rus up2 => h (u :: us) g2 tk2 (.cons ru rus) (up.tr up2)

/-- a built-in function that reads -/
def QC (c : Qc) (id : String) (vs : List V) (v : V) : Prop := ∀ (A : Around) (E : Value → Shared → Prop) (Q : Value → Shared → Prop) (us : List Value) (s : Shared), Up c.hd s.heap → Vals vs us →
  (∀ u g tk, RelV v u → Up s.heap g → Q u { s with heap := g, toks := tk }) → wpAny (model c.prog c.w) A (call (.builtin id) us) Q E s
theorem q_callB {id : String} {vs : List V} (O : c.Ok) (hc : QC c id vs v) (hg : env.kindOf x = some .globalImplicit) (hm : c.mg x = none) (hv : bootBuiltins x = some (.builtin id)) (ha : QA c k env N (e :: es) vs)
    (hn : x ≠ "__name__" := by decide) (hd : (x == ("__debug__" : Str)) = false := by decide) (st : starEach (e :: es) env = (false, eval e env) :: starEach es env := by rfl) (hpl : (backTo pos (starEach es env)).any (·.1) = false := by rfl) :
    QE c k env N (.Call (.Name x p) (e :: es) [] pos) v := by
  intro A E Q s r i h
  refine wpAny_Call_Name_kw (ld_b O i hg hm hv ?_ hn hd)
  refine PyProof.Rows.callWith_builtin1 (ha pos A E _ s r i fun us g tk rus up => ?_) st hpl
  exact hc A E Q us _ (i.up.tr up) rus fun u g2 tk2 ru up2 => h u g2 tk2 ru (up.tr up2)
theorem q_call {f : Addr} {fd : FuncData} {ps : List Str} {vs : List V} (O : c.Ok) (F : QF c k f fd ps vs v) (hbd : Binds c.K fd ps []) (hl : vs.length = ps.length) (hg : env.kindOf x = some .globalImplicit) (hm : c.mg x = some (.ref f)) (hk : PySem.W.keepIn c.K (.ref f) = true) (ha : QA c k env N (e :: es) vs)
    (hd : (x == ("__debug__" : Str)) = false := by decide) (st : starEach (e :: es) env = (false, eval e env) :: starEach es env := by rfl) (hpl : (backTo pos (starEach es env)).any (·.1) = false := by rfl) :
    QE c k env N (.Call (.Name x p) (e :: es) [] pos) v := by
  intro A E Q s r i h
  refine wpAny_Call_Name_kw (Calls.Name_function_global i.kd hg (Calls.loadGlobal_global (by rw [i.gl]; exact O.glo.keeps i.up) hm ?_) hd)
  refine PySem.W.callWith_K (h₀ := c.hd) O.kin hk (ha pos A E _ s r i fun us g tk rus up => ⟨O.kin.keeps (i.up.tr up), ?_⟩) st hpl
  refine wpAny_call (F A _ ⟨us, []⟩ us _ r (i.up.tr up) (by simpa using hbd _ us (O.kin.keeps (i.up.tr up)) (by simpa [rus.length] using hl)) rus fun u g2 tk2 ru up2 => ?_)
  exact h u g2 tk2 ru (up.tr up2)

theorem q_andF {rest : List Expr} (ha : QE c k env N a (.bl false)) : QE c k env N (.BoolOp .And (a :: b :: rest) pos) (.bl false) := by
  intro A E Q s r i h
  refine BoolOp_and (ha A E _ s r i fun u g tk ru up => ?_)
  cases ru
  exact wpAny_truthy_bool (h _ g tk rfl up)
theorem q_andT {rest : List Expr} (ha : QE c k env N a (.bl true)) (hb : QE c k env N (.BoolOp .And (b :: rest) p) v) : QE c k env N (.BoolOp .And (a :: b :: rest) p) v := by
  intro A E Q s r i h
  refine BoolOp_and (ha A E _ s r i fun u g tk ru up => ?_)
  cases ru
  exact wpAny_truthy_bool (hb A E Q _ r (i.more up) fun u2 g2 tk2 r2 up2 => h u2 g2 tk2 r2 (up.tr up2))
theorem q_orT {rest : List Expr} (ha : QE c k env N a (.bl true)) : QE c k env N (.BoolOp .Or (a :: b :: rest) pos) (.bl true) := by
  intro A E Q s r i h
  refine BoolOp_or (ha A E _ s r i fun u g tk ru up => ?_)
  cases ru
  exact wpAny_truthy_bool (h _ g tk rfl up)
theorem q_orF {rest : List Expr} (ha : QE c k env N a (.bl false)) (hb : QE c k env N (.BoolOp .Or (b :: rest) p) v) : QE c k env N (.BoolOp .Or (a :: b :: rest) p) v := by
  intro A E Q s r i h
  refine BoolOp_or (ha A E _ s r i fun u g tk ru up => ?_)
  cases ru
  exact wpAny_truthy_bool (hb A E Q _ r (i.more up) fun u2 g2 tk2 r2 up2 => h u2 g2 tk2 r2 (up.tr up2))
theorem q_one {op : BoolOp} (ha : QE c k env N a v) : QE c k env N (.BoolOp op [a] pos) v := fun A E Q s r i h => BoolOp_one (ha A E Q s r i h)
theorem q_and2 {p1 p2 : Bool} (ha : QE c k env N a (.bl p1)) (hb : p1 = true → QE c k env N b (.bl p2)) : QE c k env N (.BoolOp .And [a, b] pos) (.bl (p1 && p2)) := by
  cases p1 with
  | false => exact q_andF ha
  | true => exact q_andT ha (q_one (hb rfl))
theorem q_or2 {p1 p2 : Bool} (ha : QE c k env N a (.bl p1)) (hb : p1 = false → QE c k env N b (.bl p2)) : QE c k env N (.BoolOp .Or [a, b] pos) (.bl (p1 || p2)) := by
  cases p1 with
  | true => exact q_orT ha
  | false => exact q_orF ha (q_one (hb rfl))
theorem q_not {t : Bool} (ha : QE c k env N a (.bl t)) : QE c k env N (.UnaryOp .Not a pos) (.bl (!t)) := by
  intro A E Q s r i h
  refine UnaryOp_ (ha A E _ s r i fun u g tk ru up => ?_)
  cases ru
  exact PyProof.Rows.not_of (wpAny_truthy_bool (h _ g tk rfl up))
/-- an operator on two ints -/
def QO (c : Qc) (op : CmpOp) (p : Int → Int → Bool) : Prop := ∀ (A : Around) (E : Value → Shared → Prop) (Q : Value → Shared → Prop) (i j : Int) (t u : Tok) (s : Shared), Q (.bool (p i j)) s → wpAny (model c.prog c.w) A (compareOp op (.int i t) (.int j u)) Q E s
theorem qo_lt : QO c .Lt fun i j => decide (i < j) := fun A E Q i j t u s h => PyProof.Rows.lt_int h
theorem qo_le : QO c .LtE fun i j => decide (i ≤ j) := fun A E Q i j t u s h => PyProof.Rows.le_int h
theorem qo_eq : QO c .Eq fun i j => i == j := fun A E Q i j t u s h => PyProof.Rows.eq_int h
theorem q_cmp {op : CmpOp} {pr : Int → Int → Bool} {i j : Int} (ho : QO c op pr) (ha : QE c k env N a (.int i)) (hb : QE c k env N b (.int j)) (hm : behindInMarks op b = false) : QE c k env N (.Compare a [op] [b] pos) (.bl (pr i j)) := by
  intro A E Q s r i0 h
  refine wpAny_Compare1 (ha A E _ s r i0 fun u g tk ru up => hb A E _ _ r (i0.more up) fun u2 g2 tk2 r2 up2 => ?_) hm
  obtain ⟨t1, rfl⟩ := ru
  obtain ⟨t2, rfl⟩ := r2
  exact ho A E Q i j t1 t2 _ (h _ g2 tk2 rfl (up.tr up2))
theorem q_isN (ha : QE c k env N a v) {j : Nat} {p2 : Pos} : QE c k env N (.Compare a [.Is] [.Constant .none j p2] pos) (.bl (decide (v = .non))) := by
  intro A E Q s r i0 h
  refine wpAny_Compare1 (ha A E _ s r i0 fun u g tk ru up => Constant_none (PyProof.Rows.is_none_gen ?_)) rfl
  refine h _ g tk ?_ up
  show Value.bool (u == .none) = Value.bool (decide (v = .non))
  cases v <;> first
    | (cases ru; rfl)
    | (obtain ⟨t, rfl⟩ := ru; rfl)
/-- a < b < c on ints -/
theorem q_chain {op op' : CmpOp} {pr pr' : Int → Int → Bool} {i j m : Int} {d : Expr} (ho : QO c op pr) (ho' : QO c op' pr') (ha : QE c k env N a (.int i)) (hb : QE c k env N b (.int j)) (hd : QE c k env N d (.int m))
    (hm : lastMarks [op, op'] [b, d] = false := by with_unfolding_all rfl) : QE c k env N (.Compare a [op, op'] [b, d] pos) (.bl (pr i j && pr' j m)) := by
  intro A E Q s r i0 h
  refine Compare_chain (ha A E _ s r i0 fun u g tk ru up => chain_link (hb A E _ _ r (i0.more up) fun u2 g2 tk2 r2 up2 => ?_)) hm
  obtain ⟨t1, rfl⟩ := ru
  obtain ⟨t2, rfl⟩ := r2
  refine ho A E _ i j t1 t2 _ (wpAny_truthy_bool ?_)
  cases q : pr i j with
  | false =>
    rw [q] at h
    exact ite_ff (h _ g2 tk2 rfl (up.tr up2))
  | true =>
    rw [q] at h
    refine ite_tt (chain_last (hd A E _ _ r (i0.more (up.tr up2)) fun u3 g3 tk3 r3 up3 => ?_))
    obtain ⟨t3, rfl⟩ := r3
    refine ho' A E Q j m t2 t3 _ ?_
    have := h (.bool (pr' j m)) g3 tk3 rfl ((up.tr up2).tr up3)
    exact this

theorem qt_val {t : Bool} (ha : QE c k env N a (.bl t)) (he : ∀ whole, isTrue a env whole = (do let v ← whole; standAt a.pos; holding [v] (truthy v)) := by intro _; rfl) : QT c k env N a t := by
  intro A E Q s r i h
  refine isTrue_plain (ha A E _ s r i fun u g tk ru up => ?_) (he _)
  cases ru
  exact wpAny_truthy_bool (h g tk up)
theorem qt_cmp {op : CmpOp} {pr : Int → Int → Bool} {i j : Int} (ho : QO c op pr) (ha : QE c k env N a (.int i)) (hb : QE c k env N b (.int j)) (hm : behindInMarks op b = false) : QT c k env N (.Compare a [op] [b] pos) (pr i j) := by
  intro A E Q s r i0 h
  refine wpAny_isTrue_Compare1 (ha A E _ s r i0 fun u g tk ru up => hb A E _ _ r (i0.more up) fun u2 g2 tk2 r2 up2 => ?_) hm
  obtain ⟨t1, rfl⟩ := ru
  obtain ⟨t2, rfl⟩ := r2
  exact ho A E _ i j t1 t2 _ (wpAny_truthy_bool (h g2 tk2 (up.tr up2)))
theorem qt_not {t : Bool} (ha : QT c k env N a t) : QT c k env N (.UnaryOp .Not a pos) (!t) := fun A E Q s r i h =>
  isTrue_not (ha A E _ s r i fun g tk up => h g tk up)
theorem qt_orT {rest : List Expr} (ha : QT c k env N a true) : QT c k env N (.BoolOp .Or (a :: rest) pos) true := fun A E Q s r i h =>
  isTrue_or (ha A E _ s r i fun g tk up => ite_tt (h g tk up))
theorem qt_or2 {t : Bool} (ha : QT c k env N a false) (hb : QT c k env N b t) : QT c k env N (.BoolOp .Or [a, b] pos) t := fun A E Q s r i h => by
  refine isTrue_or (ha A E _ s r i fun g tk up => ite_ff ?_)
  refine isTrue_or (hb A E _ _ r (i.more up) fun g2 tk2 up2 => ?_)
  cases t with
  | true => exact ite_tt (h g2 tk2 (up.tr up2))
  | false => exact ite_ff (isTrue_or_nil (h g2 tk2 (up.tr up2)))
theorem qb_ret {rest : List Stmt} (he : QE c k env N e v) : QB c k env N (.Return (some e) pos :: rest) v := by
  intro A E Q s r i _ h
  refine wpAny_execs_cons (wpAny_Return_some (he A E _ s r i fun u g tk ru up => ?_))
  exact h u g tk ru fun b o _ q => up b o q
theorem qb_ifT {body orelse rest : List Stmt} (ht : QT c k env N e true) (hb : QB c k env N body v) : QB c k env N (.If e body orelse pos :: rest) v := by
  intro A E Q s r i hL h
  refine wpAny_execs_cons (wpAny_If (ht A E _ s r i fun g tk up => ite_tt ?_))
  refine hb A E _ _ r (i.more up) hL fun u g2 tk2 ru k2 => ?_
  exact h u g2 tk2 ru fun b o nb q => k2 b o nb (up b o q)
theorem qb_ifF {body rest : List Stmt} (ht : QT c k env N e false) (hb : QB c k env N rest v) : QB c k env N (.If e body [] pos :: rest) v := by
  intro A E Q s r i hL h
  refine wpAny_execs_cons (wpAny_If (ht A E _ s r i fun g tk up => ite_ff (wpAny_execs_nil ?_)))
  refine hb A E _ _ r (i.more up) hL fun u g2 tk2 ru k2 => ?_
  exact h u g2 tk2 ru fun b o nb q => k2 b o nb (up b o q)
end
end Qt

namespace Qt
open PySem PySem.Spec PyProof.Rows L2

/-- the class of a thing that is read -/
inductive Knd (c : Qc) : V → String → Prop where
  | non : Knd c .non "NoneType"
  | bl (b : Bool) : Knd c (.bl b) "bool"
  | int (i : Int) : Knd c (.int i) "int"
  | str (z : Str) : Knd c (.str z) "str"
  | lst {a : Addr} (h : PySem.W.KitAt a "list" c.hd) : Knd c (.ref a) "list"
  | tup {a : Addr} (h : PySem.W.KitAt a "tuple" c.hd) : Knd c (.ref a) "tuple"
  | dic {a : Addr} (h : PySem.W.KitAt a "dict" c.hd) : Knd c (.ref a) "dict"
theorem kitAt_up {a : Addr} {T : String} {h g : Heap} (k : Up h g) (x : PySem.W.KitAt a T h) : PySem.W.KitAt a T g :=
  let ⟨o, e, q⟩ := x; ⟨o, k _ _ e, q⟩
theorem qc_isi {c : Qc} {x : V} {T C : String} {b : Bool} (O : c.Ok) (ky : Knd c x T) (e : PySem.W.kitOne c.K (.type T) (.type C) = some b) : QC c "isinstance" [x, .ty C] (.bl b) := by
  intro A E Q us s up r h
  cases r with
  | @cons _ u1 _ _ r1 r' =>
    cases r' with
    | @cons _ u2 _ _ r2 r'' =>
      cases r''
      obtain rfl : u2 = Value.type C := r2
      have fin : ∀ tk, Q (.bool b) { s with toks := tk } := fun tk => h _ s.heap tk rfl Up.rfl'
      have kin := O.kin.keeps up
      cases ky with
      | non => cases r1; exact PySem.W.kia_one PySem.W.kitx_none kin trivial e (fun z => by cases z) fin
      | bl y => cases r1; exact PySem.W.kia_one PySem.W.kitx_bool kin trivial e (fun z => by cases z) fin
      | int i => obtain ⟨t, rfl⟩ := r1; exact PySem.W.kia_one PySem.W.kitx_int kin trivial e (fun z => by cases z) fin
      | str z => obtain ⟨t, rfl⟩ := r1; exact PySem.W.kia_one PySem.W.kitx_str kin trivial e (fun z => by cases z) fin
      | lst p => cases r1; exact PySem.W.kia_one PySem.W.kitx_list kin (kitAt_up up p) e (fun z => by cases z) fin
      | tup p => cases r1; exact PySem.W.kia_one PySem.W.kitx_tuple kin (kitAt_up up p) e (fun z => by cases z) fin
      | dic p => cases r1; exact PySem.W.kia_one PySem.W.kitx_dict kin (kitAt_up up p) e (fun z => by cases z) fin
/-- a tuple that is read -/
def TupQ (c : Qc) (a : Addr) (xs : List V) : Prop := ∃ its : List Value, Vals xs its ∧ IsTup c.hd a its.toArray ∧ xs.length ≤ sizeLine
theorem isTup_up {h g : Heap} {a : Addr} {vs : Array Value} (k : Up h g) (t : IsTup h a vs) : IsTup g a vs :=
  let ⟨o, e, q⟩ := t; ⟨o, k _ _ e, q⟩
theorem qc_lenT {c : Qc} {a : Addr} {xs : List V} (t : TupQ c a xs) : QC c "len" [.ref a] (.int xs.length) := by
  intro A E Q us s up r h
  obtain ⟨its, rv, ht, hz⟩ := t
  cases r with
  | @cons _ u1 _ _ r1 r' =>
    cases r'
    obtain rfl : u1 = Value.ref a := r1
    have hl := rv.length
    have h63 := line63
    refine PyProof.Rows.len_tuple (isTup_up up ht) (by simp only [List.size_toArray]; omega) ?_
    exact h _ s.heap _ ⟨_, by rw [List.size_toArray, hl]⟩ Up.rfl'
theorem qb_two {c : Qc} {k : Nat} {env : Env} {N : Nm} {x y : Str} {a : Addr} {v1 v2 v : V} {e : Expr} {rest : List Stmt} {pos p1 p2 p3 : Pos} {kt : Nat} (he : QE c k env N e (.ref a)) (ht : TupQ c a [v1, v2]) (hx : env.kindOf x = some .local) (hy : env.kindOf y = some .local)
    (hN : ∀ z, N.lookup z ≠ none → env.kindOf z = some .local) (hb : QB c k env ((y, v2) :: (x, v1) :: N) rest v)
    (hs : swapsWithSole [.Tuple [.Name x p1, .Name y p2] kt p3] e pos.line env = pure false := by rfl) (hw : swappedStores [.Tuple [.Name x p1, .Name y p2] kt p3] e env = pure none := by rfl)
    (h1 : (assignEach [.Tuple [.Name x p1, .Name y p2] kt p3] env).map (·.2) = [assign (.Tuple [.Name x p1, .Name y p2] kt p3) env] := by rfl)
    (h2 : (assignEach [.Name x p1, .Name y p2] env).map (·.2) = [assign (.Name x p1) env, assign (.Name y p2) env] := by rfl)
    (hn : (assignEach [.Name x p1, .Name y p2] env).length = 2 := by rfl) (hst : (assignEach [.Name x p1, .Name y p2] env).findIdx? (·.1) = none := by rfl) :
    QB c k env N (.Assign [.Tuple [.Name x p1, .Name y p2] kt p3] e pos :: rest) v := by
  intro A E Q s r i hL h
  obtain ⟨its, rv, ht, hz⟩ := ht
  obtain ⟨w1, w2, rfl, r1, r2⟩ := vals2 rv
  have hpl : (env.scope.kind == .class || (env.scope.kind == .module && env.locals != env.globals)) = false := by rw [i.kd]; rfl
  refine wpAny_execs_cons (wpAny_Assign_stores (he A E _ s r i fun u g tk ru up => ?_) hs hw)
  obtain rfl : u = Value.ref a := ru
  have i1 := i.more up
  rw [h1]
  show wpAny _ A (assign (.Tuple [.Name x p1, .Name y p2] kt p3) env (.ref a)) _ _ _
  refine assign_Tuple_tuple r.hd (isTup_up i1.up ht) (by rw [hn]; rfl) hst fun g1 hx1 => ?_
  rw [h2]
  have up1 : Up g g1 := fun b o q => hx1 b o (Nat.ne_of_lt (Heap.lt_size q)) q
  have i2 := i1.more up1
  obtain ⟨m, n, q⟩ := i2.nm
  refine assignInOrder_cons (wpAny_assign_Name (wpAny_storeName_local hx n (fun g2 n2 sb2 => ?_) hpl))
  refine assignInOrder_cons (wpAny_assign_Name (wpAny_storeName_local hy n2 (fun g3 n3 sb3 => assignInOrder_nil ?_) hpl))
  have k13 : ∀ b o, b ≠ env.locals → g1.get? b = some o → g3.get? b = some o := fun b o nb q => sb3.extBut b o nb (sb2.extBut b o nb q)
  have nL : ∀ b o, c.hd.get? b = some o → b ≠ env.locals := fun b o q z => by
    rw [z, hL] at q
    cases q
  have i3 : At c env ((y, v2) :: (x, v1) :: N) g3 := by
    refine ⟨fun b o q => k13 b o (nL b o q) (i2.up b o q), i.kd, i.gl, i.bl, _, n3, fun z vz hz2 => ?_⟩
    by_cases ez : z = y
    · subst ez
      have e2 : v2 = vz := by simpa [List.lookup] using hz2
      exact ⟨w2, e2 ▸ r2, .inl ⟨hy, if_pos rfl⟩⟩
    · have ez' : (z == y) = false := by simpa using ez
      by_cases ex : z = x
      · subst ex
        have e2 : v1 = vz := by simpa [List.lookup, ez'] using hz2
        exact ⟨w1, e2 ▸ r1, .inl ⟨hx, by show (if z = y then _ else (if z = z then _ else _)) = _; rw [if_neg ez, if_pos rfl]⟩⟩
      · have ex' : (z == x) = false := by simpa using ex
        have e2 : N.lookup z = some vz := by simpa [List.lookup, ez', ex'] using hz2
        obtain ⟨u, ru, l⟩ := q z vz e2
        refine ⟨u, ru, .inl ?_⟩
        rcases l with ⟨l1, l2⟩ | ⟨l1, _⟩
        · exact ⟨l1, by show (if z = y then _ else (if z = x then _ else m z)) = _; rw [if_neg ez, if_neg ex]; exact l2⟩
        · have l3 := hN z (by rw [e2]; simp)
          rw [l3] at l1
          rcases l1 with l1 | l1 <;> cases l1
  refine hb A E Q _ r i3 hL fun u g4 tk4 ru k4 => ?_
  exact h u g4 tk4 ru fun b o nb q => k4 b o nb (k13 b o nb (up1 b o (up b o q)))

theorem zip_look {α : Type} {x : Str} {v : α} : ∀ {ps : List Str} {vs : List α}, (ps.zip vs).lookup x = some v → ∃ i : Nat, ps[i]? = some x ∧ vs[i]? = some v
  | [], _, h => by simp [List.lookup] at h
  | _ :: _, [], h => by simp [List.lookup] at h
  | p :: ps, w :: vs, h => by
    by_cases e : x = p
    · subst e
      refine ⟨0, rfl, ?_⟩
      simpa [List.lookup] using h
    · have e' : (x == p) = false := by simpa using e
      have h2 : (ps.zip vs).lookup x = some v := by simpa [List.lookup, e'] using h
      obtain ⟨i, h3, h4⟩ := zip_look h2
      exact ⟨i + 1, h3, h4⟩
theorem q_fun {c : Qc} {k : Nat} {x qual : Str} {st : Stmt} {f : Addr} {fd : FuncData} {N0 ps : List Str} {vs : List V} {v : V} (O : c.Ok) (F : Fun c.K x qual st f fd) (S : FnScope N0 ps (defScope st))
    (loc : ∀ p ∈ ps, (defScope st).names.lookup p = some .local) (hl : vs.length = ps.length) (body : ∀ (L : Addr) (cdv : Value), QB c k (envOfC qual (defScope st) L f cdv) (ps.zip vs) (defBody st) v) : QF c (k + 1) f fd ps vs v := by
  intro A R args us s r up bt rv h
  obtain ⟨oc, od, kV, doc, pm, an, cdv, ct, osl, e, lk, hcd⟩ := F.ex
  have kin := O.kin.keeps up
  have ndP : ps.Nodup := by rw [← S.pre]; exact S.nd.sublist (List.take_sublist _ _)
  rw [e] at bt lk
  refine Att.call_fn (binds := ps.zip us) kin (O.lim.keeps up) lk hcd (by have := r.dp; omega) bt ?_ (fun s1 IC => ?_) S.co S.gen S.kind
  · rw [List.all_eq_true]
    intro y hy
    have q := loc y.1 (List.of_mem_zip hy).1
    rw [q]
    rfl
  · obtain ⟨g, tk, rfl, hk⟩ := IC.done
    have hL : c.hd.get? s.heap.objs.size = none := up_lt up (Nat.le_refl _)
    have i : At c (envOfC qual (defScope st) s.heap.objs.size f cdv) (ps.zip vs) g := by
      refine ⟨up.tr hk, S.kind, rfl, rfl, _, IC.toInCall.ns, fun z vz hz => ?_⟩
      obtain ⟨j, h3, h4⟩ := zip_look hz
      obtain ⟨u, h5, h6⟩ := rv.get h4
      have kz := loc z (List.mem_of_getElem? h3)
      exact ⟨u, h6, .inl ⟨kz, bindL_get ndP h3 h5 kz⟩⟩
    refine body s.heap.objs.size cdv _ _ _ _ (r.deeper _) i hL fun u g2 tk2 ru k2 => ?_
    refine h u g2 tk2 ru fun b o q => k2 b o (Nat.ne_of_lt (Heap.lt_size q)) (hk b o q)
/-- a quiet def, called as any other -/
theorem fn_ofQ {P : Program} {w : World} {K : PySem.W.Frag} {mg : Str → Option Value} {base : Heap} {CX : CXT} {k : Nat} {f : Addr} {fd : FuncData} {ps : List Str} {sp : Sp} (len : ∀ vs H Q E, sp vs H Q E → vs.length = ps.length)
    (h : ∀ vs H Q E, sp vs H Q E → ∃ v, Q v H ∧ ∀ hd, (Qc.mk P w K mg H hd).Ok → QF ⟨P, w, K, mg, H, hd⟩ (3 * k) f fd ps vs v) : FnOk P w K mg base CX k f fd ps sp := by
  refine ⟨len, fun A outer s H args us vs Q E rm e0 bt rv hs => ?_⟩
  obtain ⟨v, q, hQ⟩ := h vs H Q E hs
  have up0 : ∀ b o, base.get? b = some o → s.heap.get? b = some o := fun b o e => (e0.bs b o e).1
  have OK : (Qc.mk P w K mg H s.heap).Ok := ⟨e0.mod.kin.keeps up0, e0.mod.glob.keeps up0, let ⟨mb, q1, q2⟩ := e0.mod.blt; ⟨mb, q1.keeps up0, q2⟩, e0.mod.nolimit.keeps up0, e0.hok⟩
  have hd := rm.dp
  refine hQ s.heap OK A _ args us s ⟨rm.hd, by omega⟩ Up.rfl' bt rv fun u g tk ru up => ?_
  exact ⟨v, H, rfl, e0.bare, Un.kept up, e0.hok.kept up, ru, q⟩
end Qt

namespace Qt
open PySem PySem.Spec PyProof.Rows L2

/-- what is held, the tables of code left out -/
def wipe (H : Hp) (P : Addr) : Hp := fun a => if a = P then none else H a
theorem wipe_of {H : Hp} {P a : Addr} {o : HO} (h : wipe H P a = some o) : a ≠ P ∧ H a = some o := by
  unfold wipe at h
  by_cases e : a = P
  · rw [if_pos e] at h
    cases h
  · rw [if_neg e] at h
    exact ⟨e, h⟩
theorem wipe_at {H : Hp} {P a : Addr} {o : HO} (e : a ≠ P) (h : H a = some o) : wipe H P a = some o := by
  unfold wipe
  rw [if_neg e]
  exact h
/-- a thing that a generator goes over: a tuple or a list, of the values its -/
structure Src (pr : Program) (w : World) (h1 : Heap) (ad : Addr) (its : Array Value) (o : Obj) (St : Addr → Nat → Heap → Prop) : Prop where
  lt : ad < h1.objs.size
  iter : ∀ (A : Around) (E Q : Value → Shared → Prop) (s : Shared), s.heap = h1 → Q (.ref h1.objs.size) { s with heap := h1.push o } → wpAny (model pr w) A (pyIter (.ref ad)) Q E s
  walks : ∀ (A : Around) (I : Addr), A.handled = none → ad ≠ I → Walks pr w A I [I, ad] [I] its.size (fun i v => its[i]? = some v) (St I)
  st0 : ∀ g : Heap, (∀ b u, (b = ad ∨ b = h1.objs.size) → (h1.push o).get? b = some u → g.get? b = some u) → St h1.objs.size 0 g
theorem src_list {pr : Program} {w : World} {h1 : Heap} {ad : Addr} {its : Array Value} (hl : h1.IsList ad its) :
    Src pr w h1 ad its { cls := .type "list_iterator", data := .fields #[.ref ad, .int 0 0] } (fun I i h => h.IsListIter I ad i ∧ h.IsList ad its) where
  lt := by
    obtain ⟨_, e, _⟩ := id hl
    exact Heap.lt_size e
  iter := fun A E Q s es h => by
    subst es
    exact wpAny_pyIter_list hl h
  walks := fun A I hh ne => Walks.list hh I ad ne its
  st0 := fun g k => ⟨⟨_, k _ _ (.inr rfl) (Heap.get?_push_size _ rfl), rfl, rfl⟩, by
    obtain ⟨ob, e, r⟩ := id hl
    exact ⟨ob, k _ _ (.inl rfl) (Heap.get?_push_of_some _ e), r⟩⟩
theorem src_tup {pr : Program} {w : World} {h1 : Heap} {ad : Addr} {its : Array Value} (hl : IsTup h1 ad its) :
    Src pr w h1 ad its { cls := .type "tuple_iterator", data := .fields #[.ref ad, .int 0 0] } (fun I i h => h.IsTupleIter I ad i ∧ h.IsTuple ad its) where
  lt := by
    obtain ⟨_, e, _⟩ := id hl
    exact Heap.lt_size e
  iter := fun A E Q s es h => by
    subst es
    exact wpAny_pyIter_tuple hl h
  walks := fun A I hh ne => Walks.tuple hh I ad ne its
  st0 := fun g k => ⟨⟨_, k _ _ (.inr rfl) (Heap.get?_push_size _ rfl), rfl, rfl⟩, by
    obtain ⟨ob, e, r⟩ := id hl
    exact ⟨ob, k _ _ (.inl rfl) (Heap.get?_push_of_some _ e), r⟩⟩

section
variable {X : Cx} {pins : List (Addr × Obj)} {σ : L2.St} {H : Hp} {s : Shared}
theorem seq_src (I : Inv X pins σ H s) {ad : Addr} {xs : List V} (h : SqT X.K H ad xs ∨ SqL X.K H ad xs) :
    ∃ (its : List Value) (o : Obj) (St : Addr → Nat → Heap → Prop), Vals xs its ∧ Src X.prog X.w s.heap ad its.toArray o St ∧ (∀ ps, o.data ≠ .fields ps ∨ o.cls ≠ .none) := by
  rcases h with h | h
  · obtain ⟨its, rv, ht, _⟩ := I.tuple h
    exact ⟨its, _, _, rv, src_tup ht, fun ps => .inr fun z => by cases z⟩
  · obtain ⟨its, rv, hl, _⟩ := I.list h
    exact ⟨its, _, _, rv, src_list hl.isList, fun ps => .inr fun z => by cases z⟩

/-- what the element of a generator expression is, for the item xv: a truth -/
def Elt (X : Cx) (kk : Nat) (scope : Scope) (x : Str) (elt : Expr) (caps : Nm) (Hw : Hp) (xs : List V) (bs : List Bool) : Prop :=
  bs.length = xs.length ∧ ∀ (hd : Heap) (env : Env), (Qc.mk X.prog X.w X.K X.mg Hw hd).Ok → env.scope = scope → ∀ (j : Nat) (xv : V) (b : Bool), xs[j]? = some xv → bs[j]? = some b → QE ⟨X.prog, X.w, X.K, X.mg, Hw, hd⟩ kk env ((x, xv) :: caps) elt (.bl b)
/-- the captured names' values -/
def Caps (X : Cx) (scope : Scope) (x : Str) (σ : L2.St) (caps : Nm) : Prop := ∀ y v, caps.lookup y = some v → y ≠ x ∧ (y, NameKind.free) ∈ scope.names ∧ scope.names.lookup y = some .free ∧ ∃ i : Nat, X.N[i]? = some y ∧ σ[i]? = some (some v) ∧ X.env.scope.names.lookup y = some .cell

/-- the truth at place j -/
def trB (bs : List Bool) (j : Nat) : Bool := bs.getD j false
theorem trB_some {bs : List Bool} {j : Nat} {b : Bool} (h : bs[j]? = some b) : trB bs j = b := by
  unfold trB
  rw [List.getD_eq_getElem?_getD, h]
  rfl
theorem trB_all (bs : List Bool) : (List.range bs.length).all (trB bs) = bs.all id := by
  rw [Bool.eq_iff_iff, List.all_eq_true, List.all_eq_true]
  refine ⟨fun h b hb => ?_, fun h j hj => ?_⟩
  · obtain ⟨j, hj, e⟩ := List.getElem_of_mem hb
    have q := h j (List.mem_range.mpr hj)
    rwa [trB_some (List.getElem?_eq_getElem hj), e] at q
  · have hj' := List.mem_range.mp hj
    rw [trB_some (List.getElem?_eq_getElem hj')]
    exact h _ (List.getElem_mem hj')
/-- the generator g is made, to be gone through -/
def Made (X : Cx) (pins : List (Addr × Obj)) (σ : L2.St) (H1 : Hp) (P : Addr) (xs : List V) (bs : List Bool) (g : Addr) (s5 : Shared) : Prop :=
  ∃ (fp wr : List Addr) (G : Array GenState → Array GenState → Prop) (F : Nat → Value → Prop) (St : Nat → Shared → Prop),
    WalksS X.prog X.w X.A.in1 g fp wr G bs.length F St ∧ St 0 s5 ∧ TruthOf X.prog X.w X.A.in1 F (trB bs) ∧ ∀ s', Moved wr G s5 s' → ∃ H2, GxR.Tabbed P H1 H2 ∧ Inv X pins σ H2 s'

theorem gen_made {c P : Addr} {elt iter : Expr} {x : Str} {px gpos : Pos} {scope : Scope} {te : TE} {k : Nat} {Z : Value → Shared → Prop} {R : List V → List Bool → Hp → Prop}
    (rm : Room (k + 2) X.A) (TB : GxR.TabB X.base X.mg c P) (hcode : X.env.code = .ref c) (GS : GxR.GenS X.env scope x) (hi : PE X iter te)
    (hs : ∀ v, genFold iter X.env v = pure v) (I : Inv X pins σ H s)
    (h : te σ H fun v H1 => ∃ (ad : Addr) (xs : List V) (bs : List Bool) (caps : Nm), v = .ref ad ∧ (SqT X.K H1 ad xs ∨ SqL X.K H1 ad xs) ∧ GxR.TabG H1 P ∧ Caps X scope x σ caps ∧ Elt X (3 * k) scope x elt caps (wipe H1 P) xs bs ∧ R xs bs H1)
    (hZ : ∀ xs bs H1 g s5, R xs bs H1 → Made X pins σ H1 P xs bs g s5 → Z (.ref g) s5) :
    wpAny (model X.prog X.w) X.A (eval (.GeneratorExp elt [⟨.Name x px, iter, [], 0⟩] scope gpos) X.env) Z X.xe s := by
  have hdp := rm.dp
  refine wpAny_GeneratorExp_walksQD rm.hd GS.co (closure_ok GS.free) GS.cell GS.dot GS.loc GS.kind rm.depth ?_ hs
  refine thn (hi.run pins s σ H _ I h) fun xv s1 hx => ?_
  obtain ⟨v, H1, I1, r1, ad, xs, bs, caps, ev, hsq, ⟨ps, hP, htr⟩, hcap, hel, hR⟩ := hx
  subst ev
  obtain rfl : xv = Value.ref ad := r1
  obtain ⟨its, o, St, rv, S, hno⟩ := seq_src I1 hsq
  have hlen : its.length = xs.length := rv.length.symm
  have hPs : s1.heap.get? P = some { cls := .none, data := .fields ps } := I1.hok P _ hP
  have hPlt : P < s1.heap.objs.size := Heap.lt_size hPs
  have adP : ad ≠ P := by
    rintro rfl
    rcases hsq with hq | hq
    · obtain ⟨_, _, ⟨ob, e, ec, _⟩, _⟩ := I1.tuple hq
      rw [hPs] at e
      cases e
      cases ec
    · obtain ⟨_, _, hl, _⟩ := I1.list hq
      obtain ⟨ob, _, e, ec, _⟩ := id hl
      rw [hPs] at e
      cases e
      cases ec
  refine S.iter _ _ _ _ rfl ?_
  have push_ok : ∀ b u, s1.heap.get? b = some u → (s1.heap.push o).get? b = some u := fun b u e => Heap.get?_push_of_some _ e
  have hPo := push_ok P _ hPs
  have lim2 : (s1.heap.push o).NoLimit := I1.nolimit.push o
  have cd : PySem.W.CodeHd (s1.heap.push o) c P := TB.code.keeps fun b u e => push_ok b u (I1.bk b u e)
  have go : ∀ (code : Value) (h3 : Heap) (tk : Nat) (ps' : Array Value), Heap.ExtBut P (s1.heap.push o) h3 → (s1.heap.push o).objs.size ≤ h3.objs.size → h3.get? P = some { cls := .none, data := .fields ps' } → (∃ more, ps' = ps ++ more) → TriplesOk ps'.toList →
      wpAny (model X.prog X.w) X.A (builtinsFor X.env.globals X.env.builtins) (fun bi s₄ =>
        ∃ Ia fp wr n₀ Pf St₀ pz F, Value.ref s1.heap.objs.size = .ref Ia ∧ (∀ A' : Around, A'.handled = none → Walks X.prog X.w A' Ia fp wr n₀ Pf St₀) ∧ St₀ 0 s₄.heap ∧ (∀ b ∈ fp, b < s₄.heap.objs.size) ∧ s₄.heap.NoLimit ∧ cStatics ∉ wr ∧
          (∀ hr : Heap, (∀ b u, s₄.heap.get? b = some u → hr.get? b = some u) →
            QuietGenD X.prog X.w (genEnv scope (cloFrom X.env.cells scope.names []) s₄.heap.objs.size code bi X.env) x [] elt (List.range s₄.heap.objs.size) wr Pf pz F hr (X.A.depth + 1) (X.A.units + 8)) ∧
          (∀ a h₅ tk gs, gs.bare = true → s₄.heap.objs.size < a → h₅.objs.size = a + 1 → (∀ b u, s₄.heap.get? b = some u → h₅.get? b = some u) →
            WalksS X.prog X.w X.A.in4 a (a :: s₄.heap.objs.size :: List.range s₄.heap.objs.size) (s₄.heap.objs.size :: wr) (GenOnlyQ s₄.gens.size) (passing pz n₀ 0).length
              (fun j y => ∃ i, (passing pz n₀ 0)[j]? = some i ∧ F i y) (GenAt X.prog X.w X.A.in4 a s₄.gens.size s₄.heap.objs.size (List.range s₄.heap.objs.size) wr pz n₀ F) →
            GenAt X.prog X.w X.A.in4 a s₄.gens.size s₄.heap.objs.size (List.range s₄.heap.objs.size) wr pz n₀ F 0 { s₄ with gens := s₄.gens.push gs, toks := tk, heap := h₅ } →
            Z (.ref a) { s₄ with gens := s₄.gens.push gs, toks := tk, heap := h₅ })) X.xe { s1 with heap := h3, toks := tk } := by
    intro code h3 tk ps' hx hsz hP3 hmore ht3
    obtain ⟨bm, ob, e1, e2, e3, e4, e5, e6, e7, e8⟩ := TB.bm
    have szo : (s1.heap.push o).objs.size = s1.heap.objs.size + 1 := Heap.size_push ..
    have k3 : ∀ b u, b ≠ P → s1.heap.get? b = some u → h3.get? b = some u := fun b u hb e => hx b u hb (push_ok b u e)
    have hcP : cStatics ≠ P := by
      rintro rfl
      obtain ⟨_, hns, _⟩ := I1.nolimit
      obtain ⟨o', es, ep, ho, hd, _⟩ := hns
      rw [hPs] at ho
      cases ho
      cases hd
    have hcl : cStatics < s1.heap.objs.size := let ⟨_, hns, _⟩ := I1.nolimit; hns.lt
    refine wpAny_builtinsFor (m := X.mg) (by rw [I1.ok.glob]; exact ((I1.mod.glob.keeps I1.bk).push o).extBut hx TB.gP) e1 e2 (k3 _ _ e4 (I1.bk _ _ e5)) e6 e7 e8 ?_
    have hi3 : s1.heap.objs.size < h3.objs.size := by omega
    refine ⟨s1.heap.objs.size, [s1.heap.objs.size, ad], [s1.heap.objs.size], its.toArray.size, (fun i v => its.toArray[i]? = some v), St s1.heap.objs.size, (fun _ => true), (fun i y => ∃ b, bs[i]? = some b ∧ y = .bool b), rfl,
      fun A' hA => S.walks A' _ hA (Nat.ne_of_lt S.lt), ?_, ?_, lim2.extBut hx hcP, ?_, ?_, ?_⟩
    · refine S.st0 h3 fun b u hb e => hx b u (fun z => ?_) e
      rcases hb with hb | hb
      · exact adP (hb.symm.trans z)
      · exact Nat.ne_of_gt hPlt (hb.symm.trans z)
    · intro b hb
      simp only [List.mem_cons, List.not_mem_nil, or_false] at hb
      rcases hb with hb | hb
      · rw [hb]; exact hi3
      · rw [hb]; exact Nat.lt_trans S.lt hi3
    · intro z
      simp only [List.mem_cons, List.not_mem_nil, or_false] at z
      exact Nat.ne_of_lt hcl z
    · intro hr hhr
      obtain ⟨hd, g1, g2⟩ := restrict h3 fun b => decide (b ≠ s1.heap.objs.size)
      have old : ∀ b u, b ≠ P → s1.heap.get? b = some u → hd.get? b = some u := fun b u nb e => by
        rw [g1 b (decide_eq_true (Nat.ne_of_lt (Heap.lt_size e)))]
        exact k3 b u nb e
      have up3 : Up hd h3 := fun b u e => by
        by_cases hb : b = s1.heap.objs.size
        · rw [g2 b (by simp [hb])] at e
          cases e
        · rw [g1 b (decide_eq_true hb)] at e
          exact e
      have bP : ∀ b u, X.base.get? b = some u → b ≠ P := fun b u e z => by
        have q := (I1.bs b u e).2
        rw [z, hP] at q
        cases q
      have bup : ∀ b u, X.base.get? b = some u → hd.get? b = some u := fun b u e => old b u (bP b u e) (I1.bk b u e)
      have OK : (Qc.mk X.prog X.w X.K X.mg (wipe H1 P) hd).Ok := by
        obtain ⟨mb, q1, q2⟩ := I1.mod.blt
        refine ⟨I1.mod.kin.keeps bup, I1.mod.glob.keeps bup, ⟨mb, q1.keeps bup, q2⟩, I1.mod.nolimit.keeps bup, fun a u e => ?_⟩
        obtain ⟨na, e⟩ := wipe_of e
        have noP : ∀ b, H1 b = some (.own a) → b ≠ P := fun b q z => by
          rw [z, hP] at q
          cases q
        refine (I1.hok a u e).stay (fun b u' hb q => old b u' ?_ q) (fun b q => wipe_at (noP b q) q) (fun b ys q => wipe_at (fun z => ?_) q)
        · rcases hb with hb | hb
          · rw [hb]; exact na
          · exact noP b hb
        · rw [z, hP] at q
          cases q
      have seen : ∀ s₂ : Shared, (∀ b ∈ List.range h3.objs.size, b ∉ [s1.heap.objs.size] → ∀ u, hr.get? b = some u → s₂.heap.get? b = some u) → Up hd s₂.heap := fun s₂ hk b u e => by
        have h3e := up3 b u e
        refine hk b (List.mem_range.mpr (Heap.lt_size h3e)) (fun z => ?_) u (hhr b u h3e)
        have hb : b = s1.heap.objs.size := by simpa using z
        rw [g2 b (by simp [hb])] at e
        cases e
      refine ⟨fun A' E' i v s₂ m₂ hA _ _ hPv hn hm hk => ?_, fun A' E' i v s₂ m₂ hA hAd _ hPv hp hn hm hk => ?_⟩
      · simp only [List.forIn_nil]
        exact wpAny_pure ⟨rfl, GxR.keeps_refl _⟩
      · have hv2 : its[i]? = some v := by simpa using hPv
        have hix : i < xs.length := by rw [← hlen]; exact (List.getElem?_eq_some_iff.mp hv2).1
        obtain ⟨xv, hxv⟩ : ∃ xv, xs[i]? = some xv := ⟨xs[i], List.getElem?_eq_getElem hix⟩
        obtain ⟨u, hu, ru⟩ := rv.get hxv
        rw [hv2] at hu
        cases hu
        have at2 : At ⟨X.prog, X.w, X.K, X.mg, wipe H1 P, hd⟩ (genEnv scope (cloFrom X.env.cells scope.names []) h3.objs.size code builtinsNs X.env) ((x, xv) :: caps) s₂.heap := by
          have upS := seen s₂ hk
          refine ⟨upS, GS.kind, I1.ok.glob, rfl, m₂, hn, fun y vy hy => ?_⟩
          by_cases ey : y = x
          · subst ey
            have e9 : xv = vy := by simpa [List.lookup] using hy
            exact ⟨v, e9 ▸ ru, .inl ⟨GS.loc, hm⟩⟩
          · have ey' : (y == x) = false := by simpa using ey
            have hy2 : caps.lookup y = some vy := by simpa [List.lookup, ey'] using hy
            obtain ⟨_, hmem, hfr, j, hj, hσ, hcl2⟩ := hcap y vy hy2
            obtain ⟨m1, hn1, hloc⟩ := I1.loc
            obtain ⟨u9, r9, l9⟩ := hloc j y vy hj hσ (.inr (.inl hcl2))
            refine ⟨u9, r9, .inr ⟨.inr hfr, ?_⟩⟩
            rcases l9 with ⟨l9, _⟩ | ⟨_, ca, hca, hic⟩
            · have l8 : X.env.scope.names.lookup y = some .local := l9
              rw [hcl2] at l8
              cases l8
            · refine ⟨ca, NdefX.clo_has GS.free hmem hca, ?_⟩
              obtain ⟨oc, ec, rc⟩ := hic
              have nP : ca ≠ P := fun z => by
                have q := I1.freeC y ca hca
                rw [z, hP] at q
                cases q
              exact ⟨oc, upS _ _ (old _ _ nP ec), rc⟩
        obtain ⟨b, hb⟩ : ∃ b, bs[i]? = some b := ⟨bs[i]'(by rw [hel.1]; exact hix), List.getElem?_eq_getElem _⟩
        refine hel.2 hd _ OK rfl i xv b hxv hb A' E' _ s₂ ⟨hA, by omega⟩ at2 fun u9 g9 tk9 r9 up9 => ?_
        exact ⟨⟨b, hb, r9⟩, g9, tk9, rfl, up9⟩
    · intro g h5 tk5 gs hgb hag hsz5 hk5 W5 hgat
      simp only [GxR.passing_true, List.length_range] at W5
      have hn5 : its.toArray.size = bs.length := by rw [List.size_toArray, hlen, hel.1]
      rw [hn5] at W5 hgat
      refine hZ xs bs H1 g _ hR ⟨_, _, _, _, _, W5.in4_1, hgat, ?_, fun s' hm => ?_⟩
      · intro j y sj Qj Ej hy hQj
        obtain ⟨i, hij, b, hxv, rfl⟩ := hy
        obtain ⟨hj, ej⟩ := List.getElem?_eq_some_iff.mp hij
        rw [List.getElem_range] at ej
        subst ej
        have hQ2 : Qj (trB bs j) sj := hQj
        rw [trB_some hxv] at hQ2
        exact wpAny_truthy_bool hQ2
      · obtain ⟨more, em⟩ := hmore
        have nwr : ∀ b u, s1.heap.get? b = some u → b ∉ h3.objs.size :: [s1.heap.objs.size] := fun b u e hb => by
          have hl := Heap.lt_size e
          simp only [List.mem_cons, List.not_mem_nil, or_false] at hb
          rcases hb with hb | hb
          · rw [hb] at hl
            exact absurd (Nat.lt_trans hl hi3) (Nat.lt_irrefl _)
          · rw [hb] at hl
            exact Nat.lt_irrefl _ hl
        have J := GxR.inv_tab (more := more) (h' := s'.heap) (g' := s'.gens) (d' := s'.drawn) (t' := s'.toks) I1 hP (fun b u hb e => hm.heap b u (nwr b u e) (hk5 b u (k3 b u hb e)))
          (by rw [← em]; exact hm.heap P _ (nwr P _ hPs) (hk5 P _ hP3)) (AllBare.movedS (I1.bare.push hgb) hm)
        rw [GxR.sh_eta s1 s' hm.os] at J
        exact ⟨upd H1 P (.tbl (ps ++ more)), ⟨⟨ps ++ more, upd_same, by rw [← em]; exact ht3⟩, fun b hb => upd_ne hb⟩, J⟩
  refine ⟨lim2, ?_⟩
  cases hf : codeAmong gpos ps.toList with
  | none =>
    refine wpAny_genexprCodeX hcode (cd.code hPo htr) (cd.tab hPo) hf fun c' h' tk hx hge hlt hco' _ htab' _ => ?_
    obtain ⟨_, _, _, _, _, _, _, _, _, _, _, _, _, _, _, _, _, _, _, htr', _⟩ := hco'
    exact go _ h' tk _ hx (Nat.le_trans hge (Nat.le_of_lt hlt)) htab'.2 ⟨_, rfl⟩ htr'
  | some cv =>
    refine wpAny_genexprCode_hit hcode (cd.code hPo htr) hf ?_
    exact go cv (s1.heap.push o) s1.toks ps (Heap.ExtBut.refl _ _) (Nat.le_refl _) hPo ⟨#[], by simp⟩ htr

/-- all(.. for x in e), e a tuple or a list, the element a quiet truth -/
def tAllQ (X : Cx) (P : Addr) (k : Nat) (scope : Scope) (x : Str) (elt : Expr) (te : TE) : TE := fun σ H Q => te σ H fun v H1 => ∃ (ad : Addr) (xs : List V) (bs : List Bool) (caps : Nm), v = .ref ad ∧ (SqT X.K H1 ad xs ∨ SqL X.K H1 ad xs) ∧
  GxR.TabG H1 P ∧ Caps X scope x σ caps ∧ Elt X (3 * k) scope x elt caps (wipe H1 P) xs bs ∧ ∀ H2, GxR.Tabbed P H1 H2 → Q (.bl (bs.all id)) H2
theorem pe_allQ {c P : Addr} {elt iter : Expr} {x : Str} {px p pos gpos : Pos} {scope : Scope} {te : TE} {k : Nat}
    (rm : Room (k + 2) X.A) (hg : Gl X "all") (hm : X.mg "all" = none) (TB : GxR.TabB X.base X.mg c P) (hcode : X.env.code = .ref c) (GS : GxR.GenS X.env scope x) (hi : PE X iter te)
    (hs : ∀ v, genFold iter X.env v = pure v) (hb : bootBuiltins "all" = some (.builtin "all") := by decide +kernel)
    (he : starEach [.GeneratorExp elt [⟨.Name x px, iter, [], 0⟩] scope gpos] X.env = (false, eval (.GeneratorExp elt [⟨.Name x px, iter, [], 0⟩] scope gpos) X.env) :: starEach [] X.env := by rfl) :
    PE X (.Call (.Name "all" p) [.GeneratorExp elt [⟨.Name x px, iter, [], 0⟩] scope gpos] [] pos) (tAllQ X P k scope x elt te) := by
  refine ⟨fun pins s σ H Q I h => ?_⟩
  refine wpAny_Call_Name_kw (ld_blt I hg hm hb (PyProof.Rows.callWith_builtin1 ?_ he (by rfl)))
  rw [he]
  show wpAny _ X.A (spliced ((false, eval (.GeneratorExp elt [⟨.Name x px, iter, [], 0⟩] scope gpos) X.env) :: backTo pos (starEach [] X.env))) _ X.xe s
  refine Calls.spliced_cons (gen_made (R := fun xs bs H1 => ∀ H2, GxR.Tabbed P H1 H2 → Q (.bl (bs.all id)) H2) rm TB hcode GS hi hs I h fun xs bs H1 g s5 hR hG => Calls.spliced_nil ?_)
  obtain ⟨fp, wr, G, F, St, W, hst, htr, hI⟩ := hG
  refine call_all_walkS (W.self 0 _ _ _ hst ⟨g, fp, wr, G, _, F, St, _, rfl, W, hst, htr, fun s' hmv => ?_⟩)
  obtain ⟨H2, hT, J⟩ := hI s' hmv
  exact ⟨.bl _, H2, J, rfl, by rw [trB_all bs]; exact hR H2 hT⟩
end
end Qt

namespace Em
open PySem PySem.Spec PyProof.Rows L2 Qt

structure FnG (P : Program) (w : World) (K : PySem.W.Frag) (mg : Str → Option Value) (base : Heap) (CX : CXT) (k : Nat) (f : Addr) (fd : FuncData) (ps : List Str) (sp : Sp) : Prop where
  len : ∀ vs H Q E, sp vs H Q E → vs.length = ps.length
  go : ∀ (A : Around) (outer : List Env) (s : Shared) (H : Hp) (args : Args) (us : List Value) (vs : List V) (Q : VK) (E : XK), A.guards = some [] → Room k A → Env0 P w K mg base A outer s H → BindsTo s fd args (ps.zip us) → Vals vs us → sp vs H Q E →
    codeAny (model P w) A (.call (.ref f) args) (CR CX outer P w H s Q E) s
section
variable {P : Program} {w : World} {K : PySem.W.Frag} {mg : Str → Option Value} {base : Heap} {CX : CXT} {k : Nat} {f : Addr} {fd : FuncData} {ps : List Str} {sp : Sp}
theorem FnG.of (F : FnOk P w K mg base CX k f fd ps sp) : FnG P w K mg base CX k f fd ps sp := ⟨F.len, fun A o s H a us vs Q E _ => F.run A o s H a us vs Q E⟩
theorem FnG.mono {j : Nat} (F : FnG P w K mg base CX j f fd ps sp) (h : j ≤ k) : FnG P w K mg base CX k f fd ps sp := ⟨F.len, fun A o s H a us vs Q E hg hr => F.go A o s H a us vs Q E hg (hr.mono h)⟩
/-- a def's body, nothing being shown around it -/
theorem okG {x qual : Str} {st : Stmt} {N : List Str} (F : Fun K x qual st f fd) (S : FnScope N ps (defScope st)) (len : ∀ vs H Q E, sp vs H Q E → vs.length = ps.length)
    (hbody : ∀ (cdv : Value) (A : Around) (outer : List Env) (s : Shared) (H : Hp) (vs : List V) (Q : VK) (E : XK), (A.deeper (envOfC qual (defScope st) s.heap.objs.size f cdv)).guards = some [] → Room k (A.deeper (envOfC qual (defScope st) s.heap.objs.size f cdv)) → sp vs H Q E →
      ∃ t, PSs (cxOf CX P w K mg base N qual (defScope st) f cdv A outer s H E) (defBody st) t ∧ t { nx := fun _ H' => Q .non H', rt := Q } (start N vs) H) : FnG P w K mg base CX (k + 1) f fd ps sp := by
  refine ⟨len, fun A outer s H args us vs Q E hg hr e0 hb rv hs => ?_⟩
  -- the same def, told of a promise that holds of this call alone
  obtain ⟨oc, od, kV, doc, pm, an, cdv, ct, osl, rfl, lk, hcd⟩ := F.ex
  have KX : K.In s.heap := e0.mod.kin.keeps fun b o e => (e0.bs b o e).1
  have LX : s.heap.NoLimit := e0.mod.nolimit.keeps fun b o e => (e0.bs b o e).1
  have hkind : ∀ y ∈ ps.zip us, (defScope st).names.lookup y.1 = some .local ∨ ((defScope st).names.lookup y.1 = some .cell ∧ ((cellsFrom (s.heap.objs.size + 1) (defScope st).names []).lookup y.1).isSome = true) := fun y hy => by
    rcases S.par y.1 (List.of_mem_zip hy).1 with q | q
    · exact .inl q
    · exact .inr ⟨q, PySem.W.cellsFrom_some _ _ _ (.inl q)⟩
  refine codeAny_call_function hr.depth (KX _ _ lk) rfl S.co S.gen rfl (PySem.W.codeRec_of KX hcd) (hb _ _ _ _ (wpAny_newFunctionEnv_cells S.kind hkind fun env he s1 x => ?_))
  subst he
  refine ⟨LX.keeps x.toInCall.keep, codeAny_func ?_⟩
  obtain ⟨t, ht, hq⟩ := hbody cdv A outer s H vs Q E hg (hr.deeper _) hs
  have I := inv_start (CX := CX) (E := E) S hr.hd e0 (len _ _ _ _ hs) rv x
  refine wpAny_mono (ht.run [] s1 (start N vs) H _ I hq) (fun fl s' z => ?_) fun e s' z => z
  cases fl with
  | ret u =>
    obtain ⟨v, σ', H', J, r1, q⟩ := z
    exact ⟨v, H', J.os, J.bare, J.base, J.hok, r1, q⟩
  | next =>
    obtain ⟨σ', H', J, q⟩ := z
    exact ⟨V.non, H', J.os, J.bare, J.base, J.hok, rfl, q⟩
  | brk =>
    obtain ⟨_, _, _, q⟩ := z
    exact q.elim
  | cont =>
    obtain ⟨_, _, _, q⟩ := z
    exact q.elim
theorem okG0 {x qual : Str} {st : Stmt} {N : List Str} (F : Fun K x qual st f fd) (S : FnScope N ps (defScope st)) (len : ∀ vs H Q E, sp vs H Q E → vs.length = ps.length)
    (hbody : ∀ (cdv : Value) (A : Around) (outer : List Env) (s : Shared) (H : Hp) (vs : List V) (Q : VK) (E : XK), (A.deeper (envOfC qual (defScope st) s.heap.objs.size f cdv)).guards = some [] → Room k (A.deeper (envOfC qual (defScope st) s.heap.objs.size f cdv)) → sp vs H Q E →
      ∃ t, PSs (cxOf CX0 P w K mg base N qual (defScope st) f cdv A outer s H E).nox (defBody st) t ∧ t { nx := fun _ H' => Q .non H', rt := Q } (start N vs) H) : FnG P w K mg base CX0 (k + 1) f fd ps sp :=
  okG F S len fun cdv A outer s H vs Q E hg hr hs => let ⟨t, h, q⟩ := hbody cdv A outer s H vs Q E hg hr hs; ⟨t, h.nox, q⟩
end
section
variable {X : Cx} {CX : CXT} {k : Nat} {f : Addr} {fd : FuncData} {ps ks : List Str} {sp : Sp} {dvs : List V} {ds : List Value} {E : XK} {x : Str} {p pos : Pos} {e : Expr} {es : List Expr} {kws : List Keyword} {t tk : TA}
  {g : List Value → List Value → List Value} {gV : List V → List V → List V}
end

structure Kp (S : List Addr) (H H' : Hp) : Prop where
  at_ : ∀ b o, b ∉ S → H b = some o → (∀ ps, o ≠ .tbl ps) → H' b = some o
  tab : ∀ b, GxR.TabG H b → GxR.TabG H' b
  tr_ : ∀ b, H b ≠ none → H' b ≠ none
theorem Kp.rfl' {S : List Addr} {H : Hp} : Kp S H H := ⟨fun _ _ _ h _ => h, fun _ h => h, fun _ h => h⟩
theorem Kp.tr {S : List Addr} {H H1 H2 : Hp} (a : Kp S H H1) (b : Kp S H1 H2) : Kp S H H2 := ⟨fun c o n h t => b.at_ c o n (a.at_ c o n h t) t, fun c h => b.tab c (a.tab c h), fun c h => b.tr_ c (a.tr_ c h)⟩
theorem Kp.wk {S S' : List Addr} {H H1 : Hp} (a : Kp S H H1) (h : ∀ x ∈ S, x ∈ S') : Kp S' H H1 := ⟨fun c o n q t => a.at_ c o (fun z => n (h c z)) q t, a.tab, a.tr_⟩
theorem Kp.of0 {S : List Addr} {H H1 : Hp} (a : Kp [] H H1) : Kp S H H1 := a.wk fun _ h => by cases h
theorem upd_tr {H : Hp} {p b : Addr} {o : HO} (h : H b ≠ none) : upd H p o b ≠ none := by
  by_cases e : b = p
  · rw [e, upd_same]; exact fun z => by cases z
  · rw [upd_ne e]; exact h
/-- a new thing -/
theorem Kp.new {S : List Addr} {H : Hp} {p : Addr} {o : HO} (n : H p = none) : Kp S H (upd H p o) :=
  ⟨fun b u _ h _ => by rw [upd_ne (ne_of_none h n)]; exact h, fun b ⟨ps, h, t⟩ => ⟨ps, by rw [upd_ne (ne_of_none h n)]; exact h, t⟩, fun b h => upd_tr h⟩
/-- a list (or another thing that is no table) of S is written -/
theorem Kp.put {S : List Addr} {H : Hp} {p : Addr} {o u : HO} (hp : p ∈ S) (h : H p = some u) (nt : ∀ ps, u ≠ .tbl ps) : Kp S H (upd H p o) :=
  ⟨fun b v n q _ => by rw [upd_ne (fun z => n (by rw [z]; exact hp))]; exact q, fun b ⟨ps, q, t⟩ => ⟨ps, by rw [upd_ne (fun z => by rw [z, h] at q; exact nt ps (Option.some.inj q))]; exact q, t⟩, fun b h => upd_tr h⟩
/-- a new thing that was written again is still new to what stood before -/
theorem Kp.drop {S : List Addr} {H H1 : Hp} {p : Addr} (n : H p = none) (k : Kp (p :: S) H H1) : Kp S H H1 :=
  ⟨fun b o nb h t => k.at_ b o (fun z => by
    rcases List.mem_cons.mp z with z | z
    · rw [z, n] at h; cases h
    · exact nb z) h t, k.tab, k.tr_⟩
theorem Kp.tabbed {S : List Addr} {H H1 : Hp} {P : Addr} (h0 : GxR.TabG H P) (h : GxR.Tabbed P H H1) : Kp S H H1 :=
  ⟨fun b o _ q t => by
    have nb : b ≠ P := fun z => by
      obtain ⟨ps, e, _⟩ := h0
      rw [z, e] at q
      exact t ps (Option.some.inj q).symm
    rw [h.2 b nb]
    exact q, fun b ⟨ps, q, t⟩ => by
    by_cases nb : b = P
    · rw [nb]; exact h.1
    · exact ⟨ps, by rw [h.2 b nb]; exact q, t⟩, fun b q => by
    by_cases nb : b = P
    · obtain ⟨ps, e, _⟩ := h.1
      rw [nb, e]; exact fun z => by cases z
    · rw [h.2 b nb]; exact q⟩
theorem Kp.lst {S : List Addr} {H H1 : Hp} (k : Kp S H H1) {b : Addr} {xs : List V} (nb : b ∉ S) (h : H b = some (.lst xs)) : H1 b = some (.lst xs) := k.at_ b _ nb h fun ps z => by cases z
theorem Kp.tup {S : List Addr} {H H1 : Hp} (k : Kp S H H1) {b : Addr} {xs : List V} (nb : b ∉ S) (h : H b = some (.tup xs)) : H1 b = some (.tup xs) := k.at_ b _ nb h fun ps z => by cases z
theorem Kp.ins {S : List Addr} {H H1 : Hp} (k : Kp S H H1) {b C dx : Addr} {fs : List (Str × V)} (nb : b ∉ S) (h : H b = some (.ins C dx fs)) : H1 b = some (.ins C dx fs) := k.at_ b _ nb h fun ps z => by cases z
theorem Kp.seq {S : List Addr} {K : PySem.W.Frag} {H H1 : Hp} (k : Kp S H H1) {b : Addr} {xs : List V} (nb : b ∉ S) (h : SqL K H b xs) : SqL K H1 b xs := by
  rcases h with (h | ⟨o, h⟩) | h
  · exact .inl (.inl (k.lst nb h))
  · exact .inl (.inr ⟨o, k.at_ b _ nb h fun ps z => by cases z⟩)
  · exact .inr h
theorem Kp.free {S : List Addr} {H H1 : Hp} (k : Kp S H H1) {b : Addr} (nb : b ∉ S) (h : H1 b = none) (ht : ¬ GxR.TabG H b) (hn : ∀ ps, H b ≠ some (.tbl ps)) : H b = none := by
  cases q : H b with
  | none => rfl
  | some o =>
    rw [k.at_ b o nb q (fun ps z => hn ps (by rw [q, z]))] at h
    cases h

mutual
inductive Dx (S : List Addr) (H : Hp) : V → PyData → Prop
  | non : Dx S H .non .none
  | bl (b : Bool) : Dx S H (.bl b) (.bool b)
  | int (i : Int) : Dx S H (.int i) (.int i)
  | str (z : Str) : Dx S H (.str z) (.str z)
  | lst {a : Addr} {xs : List V} {ds : List PyData} (n : a ∉ S) (h : H a = some (.lst xs)) (r : DxA S H xs ds) : Dx S H (.ref a) (.list ds)
  | tup {a : Addr} {xs : List V} {ds : List PyData} (n : a ∉ S) (h : H a = some (.tup xs)) (r : DxA S H xs ds) : Dx S H (.ref a) (.tuple ds)
  | dic {a : Addr} (n : a ∉ S) (h : H a = some (.dK [])) : Dx S H (.ref a) (.dict [])
inductive DxA (S : List Addr) (H : Hp) : List V → List PyData → Prop
  | nil : DxA S H [] []
  | cons {v : V} {vs : List V} {d : PyData} {ds : List PyData} (h : Dx S H v d) (t : DxA S H vs ds) : DxA S H (v :: vs) (d :: ds)
end
mutual
theorem Dx.kp {S S' : List Addr} {H H1 : Hp} (k : Kp S H H1) (hs : ∀ x ∈ S, x ∈ S') : ∀ {v : V} {d : PyData}, Dx S' H v d → Dx S' H1 v d
  | _, _, .non => .non
  | _, _, .bl b => .bl b
  | _, _, .int i => .int i
  | _, _, .str z => .str z
  | _, _, .lst n h r => .lst n (k.lst (fun z => n (hs _ z)) h) (DxA.kp k hs r)
  | _, _, .tup n h r => .tup n (k.tup (fun z => n (hs _ z)) h) (DxA.kp k hs r)
  | _, _, .dic n h => .dic n (k.at_ _ _ (fun z => n (hs _ z)) h fun ps z => by cases z)
theorem DxA.kp {S S' : List Addr} {H H1 : Hp} (k : Kp S H H1) (hs : ∀ x ∈ S, x ∈ S') : ∀ {v : List V} {d : List PyData}, DxA S' H v d → DxA S' H1 v d
  | _, _, .nil => .nil
  | _, _, .cons h t => .cons (Dx.kp k hs h) (DxA.kp k hs t)
end
mutual
/-- what is there is none of what is new -/
theorem Dx.ap {S : List Addr} {H : Hp} {p : Addr} (n : H p = none) : ∀ {v : V} {d : PyData}, Dx S H v d → Dx (p :: S) H v d
  | _, _, .non => .non
  | _, _, .bl b => .bl b
  | _, _, .int i => .int i
  | _, _, .str z => .str z
  | _, _, .lst m h r => .lst (by simpa using ⟨ne_of_none h n, m⟩) h (DxA.ap n r)
  | _, _, .tup m h r => .tup (by simpa using ⟨ne_of_none h n, m⟩) h (DxA.ap n r)
  | _, _, .dic m h => .dic (by simpa using ⟨ne_of_none h n, m⟩) h
theorem DxA.ap {S : List Addr} {H : Hp} {p : Addr} (n : H p = none) : ∀ {v : List V} {d : List PyData}, DxA S H v d → DxA (p :: S) H v d
  | _, _, .nil => .nil
  | _, _, .cons h t => .cons (Dx.ap n h) (DxA.ap n t)
end
mutual
theorem Dx.wk {S S' : List Addr} {H : Hp} (hs : ∀ x ∈ S', x ∈ S) : ∀ {v : V} {d : PyData}, Dx S H v d → Dx S' H v d
  | _, _, .non => .non
  | _, _, .bl b => .bl b
  | _, _, .int i => .int i
  | _, _, .str z => .str z
  | _, _, .lst m h r => .lst (fun z => m (hs _ z)) h (DxA.wk hs r)
  | _, _, .tup m h r => .tup (fun z => m (hs _ z)) h (DxA.wk hs r)
  | _, _, .dic m h => .dic (fun z => m (hs _ z)) h
theorem DxA.wk {S S' : List Addr} {H : Hp} (hs : ∀ x ∈ S', x ∈ S) : ∀ {v : List V} {d : List PyData}, DxA S H v d → DxA S' H v d
  | _, _, .nil => .nil
  | _, _, .cons h t => .cons (Dx.wk hs h) (DxA.wk hs t)
end
theorem DxA.len {S : List Addr} {H : Hp} : ∀ {vs : List V} {ds : List PyData}, DxA S H vs ds → vs.length = ds.length
  | _, _, .nil => rfl
  | _, _, .cons _ t => by rw [List.length_cons, List.length_cons, DxA.len t]
theorem DxA.get {S : List Addr} {H : Hp} : ∀ {vs : List V} {ds : List PyData} {i : Nat} {v : V}, DxA S H vs ds → vs[i]? = some v → ∃ d, ds[i]? = some d ∧ Dx S H v d
  | _, _, _, _, .nil, h => by cases h
  | _, _, 0, _, .cons a _, h => by cases h; exact ⟨_, rfl, a⟩
  | _, _, i + 1, _, .cons _ t, h => DxA.get (i := i) t (by simpa using h)
theorem DxA.get' {S : List Addr} {H : Hp} : ∀ {vs : List V} {ds : List PyData} {i : Nat} {d : PyData}, DxA S H vs ds → ds[i]? = some d → ∃ v, vs[i]? = some v ∧ Dx S H v d
  | _, _, _, _, .nil, h => by cases h
  | _, _, 0, _, .cons a _, h => by cases h; exact ⟨_, rfl, a⟩
  | _, _, i + 1, _, .cons _ t, h => DxA.get' (i := i) t (by simpa using h)
theorem DxA.app {S : List Addr} {H : Hp} : ∀ {vs ws : List V} {ds es : List PyData}, DxA S H vs ds → DxA S H ws es → DxA S H (vs ++ ws) (ds ++ es)
  | _, _, _, _, .nil, h => h
  | _, _, _, _, .cons a t, h => .cons a (DxA.app t h)
mutual
/-- what the layer calls data: no dict in it -/
theorem Dx.dp {S : List Addr} {K : PySem.W.Frag} {H : Hp} : ∀ {v : V} {d : PyData}, Dx S H v d → d.hasDict = false → Dp K H v d
  | _, _, .non, _ => .non
  | _, _, .bl b, _ => .bl b
  | _, _, .int i, _ => .int i
  | _, _, .str z, _ => .str z
  | _, _, .lst n h r, e => .lst (SqL.of h) (DxA.dp r (by simpa [PyData.hasDict] using e))
  | _, _, .tup n h r, e => .tup (SqT.of h) (DxA.dp r (by simpa [PyData.hasDict] using e))
  | _, _, .dic n h, e => by simp [PyData.hasDict] at e
theorem DxA.dp {S : List Addr} {K : PySem.W.Frag} {H : Hp} : ∀ {v : List V} {d : List PyData}, DxA S H v d → PyData.hasDictAll d = false → DpAll K H v d
  | _, _, .nil, _ => .nil
  | _, _, @DxA.cons _ _ v vs d ds h t, e => by
    have e2 : PyData.hasDict d = false ∧ PyData.hasDictAll ds = false := by simpa [PyData.hasDictAll] using e
    exact .cons (Dx.dp h e2.1) (DxA.dp t e2.2)
end

/-- new data: none of it stood in H -/
def Nw (H H' : Hp) (v : V) (d : PyData) : Prop := ∀ S : List Addr, (∀ s ∈ S, H s ≠ none) → Dx S H' v d
def NwA (H H' : Hp) (vs : List V) (ds : List PyData) : Prop := ∀ S : List Addr, (∀ s ∈ S, H s ≠ none) → DxA S H' vs ds
theorem Nw.tup {H H1 : Hp} {p : Addr} {xs : List V} {ds : List PyData} (k : ∀ b, H b ≠ none → H1 b ≠ none) (n : H1 p = none) (h : NwA H H1 xs ds) : Nw H (upd H1 p (.tup xs)) (.ref p) (.tuple ds) := fun S t =>
  .tup (fun z => k p (t p z) n) upd_same ((h S t).kp (Kp.new (S := []) n) fun _ z => by cases z)
theorem Nw.lst {H H1 : Hp} {p : Addr} {xs : List V} {ds : List PyData} (k : ∀ b, H b ≠ none → H1 b ≠ none) (n : H1 p = none) (h : NwA H H1 xs ds) : Nw H (upd H1 p (.lst xs)) (.ref p) (.list ds) := fun S t =>
  .lst (fun z => k p (t p z) n) upd_same ((h S t).kp (Kp.new (S := []) n) fun _ z => by cases z)
theorem NwA.nil {H H1 : Hp} : NwA H H1 [] [] := fun _ _ => .nil
theorem NwA.cons {H H1 : Hp} {v : V} {vs : List V} {d : PyData} {ds : List PyData} (h : Nw H H1 v d) (t : NwA H H1 vs ds) : NwA H H1 (v :: vs) (d :: ds) := fun S z => .cons (h S z) (t S z)
theorem Nw.int {H H1 : Hp} (i : Int) : Nw H H1 (.int i) (.int i) := fun _ _ => .int i
theorem Nw.non {H H1 : Hp} : Nw H H1 .non .none := fun _ _ => .non
theorem Nw.bl {H H1 : Hp} (b : Bool) : Nw H H1 (.bl b) (.bool b) := fun _ _ => .bl b
theorem Nw.str {H H1 : Hp} (z : Str) : Nw H H1 (.str z) (.str z) := fun _ _ => .str z
theorem Nw.kp {H H1 H2 : Hp} {v : V} {d : PyData} (h : Nw H H1 v d) (k : Kp [] H1 H2) : Nw H H2 v d := fun S t => (h S t).kp k fun _ z => by cases z
theorem NwA.kp {H H1 H2 : Hp} {v : List V} {d : List PyData} (h : NwA H H1 v d) (k : Kp [] H1 H2) : NwA H H2 v d := fun S t => (h S t).kp k fun _ z => by cases z
/-- what was written stood before -/
theorem Nw.kpS {H H1 H2 : Hp} {S0 : List Addr} {v : V} {d : PyData} (h : Nw H H1 v d) (k : Kp S0 H1 H2) (hs : ∀ s ∈ S0, H s ≠ none) : Nw H H2 v d := fun S t =>
  ((h (S0 ++ S) fun s z => by rcases List.mem_append.mp z with z | z <;> first | exact hs s z | exact t s z).kp k fun x z => List.mem_append_left _ z).wk fun x z => List.mem_append_right _ z
theorem NwA.kpS {H H1 H2 : Hp} {S0 : List Addr} {v : List V} {d : List PyData} (h : NwA H H1 v d) (k : Kp S0 H1 H2) (hs : ∀ s ∈ S0, H s ≠ none) : NwA H H2 v d := fun S t =>
  ((h (S0 ++ S) fun s z => by rcases List.mem_append.mp z with z | z <;> first | exact hs s z | exact t s z).kp k fun x z => List.mem_append_left _ z).wk fun x z => List.mem_append_right _ z
theorem Nw.old {H0 H H1 : Hp} {v : V} {d : PyData} (k : ∀ b, H0 b ≠ none → H b ≠ none) (h : Nw H H1 v d) : Nw H0 H1 v d := fun S t => h S fun s z => k s (t s z)
theorem NwA.old {H0 H H1 : Hp} {v : List V} {d : List PyData} (k : ∀ b, H0 b ≠ none → H b ≠ none) (h : NwA H H1 v d) : NwA H0 H1 v d := fun S t => h S fun s z => k s (t s z)
theorem NwA.app {H H1 : Hp} {v w : List V} {d e : List PyData} (h : NwA H H1 v d) (h2 : NwA H H1 w e) : NwA H H1 (v ++ w) (d ++ e) := fun S t => (h S t).app (h2 S t)
theorem NwA.ints {H H1 : Hp} : ∀ ns : List Int, NwA H H1 (ns.map V.int) (ns.map PyData.int)
  | [] => .nil
  | n :: r => .cons (.int n) (NwA.ints r)

section
variable {X : Cx}
theorem ix_tupK {K : PySem.W.Frag} (h : X.K = K) : IxR X (rIxT K) := h ▸ ix_tup
theorem ix_listK {K : PySem.W.Frag} (h : X.K = K) : IxR X (rIxL K) := h ▸ ix_list
def CPowW (i j : Int) : Prop := 0 ≤ j ∧ (Builtin.Int.intBits i : Int) * j ≤ 2 ^ 27
theorem op_powW : OpR X (binaryOp .Pow) (rI CPowW fun i j => .int (i ^ j.toNat)) := opI fun i j _ _ _ _ _ hc q => PyProof.Rows.pow_int hc.1 hc.2 q
def rCatL (K : PySem.W.Frag) : R2 := fun x y H Q => ∃ l b xs zs, x = .ref l ∧ y = .ref b ∧ SqL K H l xs ∧ SqL K H b zs ∧ xs.length + zs.length ≤ sizeLine ∧ ∀ p, H p = none → Q (.ref p) (upd H p (.lst (xs ++ zs)))
/-- list + list, also of a list that no one may write -/
theorem op_catL : OpR X (binaryOp .Add) (rCatL X.K) := by
  intro pins s σ H x y v u Q I rx ry h
  obtain ⟨l, b, xs, zs, rfl, rfl, hH, hB, hz, q⟩ := h
  cases rx
  cases ry
  obtain ⟨its, r, pl, _⟩ := I.list hH
  obtain ⟨its2, r2, pl2, _⟩ := I.list hB
  have hl := r.length
  have hl2 := r2.length
  obtain ⟨⟨cls, dd, data, sl⟩, ho, hc, n, hd⟩ := id pl.isList
  obtain ⟨⟨cls2, dd2, data2, sl2⟩, ho2, hc2, n2, hd2⟩ := id pl2.isList
  simp only at hc hd hc2 hd2
  subst hc hd hc2 hd2
  have e : its.toArray ++ its2.toArray = (its ++ its2).toArray := by simp
  refine concat_meets ⟨_, ho, rfl⟩ ⟨_, ho2, rfl⟩ noFill_list_add seq_list_add PySem.F.slot_list_add PySem.F.entry_list_add (PySem.F.args_list_add_2 _ _) (list_addW l b its.toArray its2.toArray n n2 dd dd2 sl sl2 (by rw [List.size_toArray, List.size_toArray]; omega)) ⟨ho, ho2, ?_⟩
  rw [e]
  exact ⟨.ref _, _, I.lnew (t' := s.toks) (r.append r2) (by rw [List.length_append]; omega), rfl, q _ I.fresh⟩
end
end Em

namespace Em
open PySem PySem.Spec PyProof.Rows L2 Qt

def LawG (l : PySem.W.OpenLaw) (w : World) (K : PySem.W.Frag) (k n : Nat) (x : Str) (mg : Str → Option Value) (fa : Addr) (h : Heap) : Prop :=
  ∃ (fd : FuncData) (cs : List (Addr × Addr)) (sp : Sp), (∀ p ∈ cs, h.get? p.2 = some { cls := .none, data := .fields #[] } ∧ K.lookup p.2 = none ∧ PySem.W.CodeHd h p.1 p.2) ∧ (∀ (s : Shared) (u : Value), BindsTo s fd ⟨[u], []⟩ [(x, u)]) ∧
    (∀ (H : Hp) (a : Addr) (ns : List Int), ns.length ≤ n → (∀ z ∈ ns, Builtin.Int.intBits z ≤ 1048576) → (∀ p ∈ cs, H p.2 = some (.tbl #[])) → SqL K H a (ns.map V.int) → sp [.ref a] H (fun v _ => v = .bl true) fun _ _ _ => False) ∧
    ∀ base : Heap, K.In base → base.Ns mainGlobals mg → (∀ p ∈ cs, GxR.TabB base mg p.1 p.2) → FnG l.prog w K mg base CX0 k fa fd [x] sp

section
variable {P : Program} {w : World} {K : PySem.W.Frag} {mg mb : Str → Option Value} {k : Nat} {fa a : Addr} {cs : List (Addr × Addr)} {fd : FuncData} {x : Str} {sp : Sp} {s : Shared} {vs : List Value} {ns : List Int}
/-- what is tracked as the law begins: the tables, and the script if it is no written thing -/
def hp0 (K : PySem.W.Frag) (cs : List (Addr × Addr)) (a : Addr) (vs : List Value) (ns : List Int) : Hp := fun b =>
  if b ∈ cs.map (·.2) then some (.tbl #[]) else if b = a ∧ K.lookup a = none then some (.frz { cls := .type "list", data := .seq vs.toArray } (.lst (ns.map V.int))) else none
theorem hp0_tab {b : Addr} (h : b ∈ cs.map (·.2)) : hp0 K cs a vs ns b = some (.tbl #[]) := by unfold hp0; rw [if_pos h]
theorem hp0_scr (h : a ∉ cs.map (·.2)) (hk : K.lookup a = none) : hp0 K cs a vs ns a = some (.frz { cls := .type "list", data := .seq vs.toArray } (.lst (ns.map V.int))) := by
  unfold hp0; rw [if_neg h, if_pos ⟨rfl, hk⟩]
theorem hp0_cases {b : Addr} {o : HO} (h : hp0 K cs a vs ns b = some o) : (b ∈ cs.map (·.2) ∧ o = .tbl #[]) ∨ (b ∉ cs.map (·.2) ∧ b = a ∧ K.lookup a = none ∧ o = .frz { cls := .type "list", data := .seq vs.toArray } (.lst (ns.map V.int))) := by
  unfold hp0 at h
  by_cases h1 : b ∈ cs.map (·.2)
  · rw [if_pos h1] at h; exact .inl ⟨h1, (Option.some.inj h).symm⟩
  · rw [if_neg h1] at h
    by_cases h2 : b = a ∧ K.lookup a = none
    · rw [if_pos h2] at h; exact .inr ⟨h1, h2.1, h2.2, (Option.some.inj h).symm⟩
    · rw [if_neg h2] at h; cases h

theorem law_endG (KX : K.In s.heap) (n1 : s.heap.Ns mainGlobals mg) (n2 : s.heap.Ns builtinsNs mb) (n3 : ∀ x : Str, x ≠ "__name__" → mb x = bootBuiltins x) (lim : s.heap.NoLimit) (hg : s.gens = #[])
    (hT : ∀ p ∈ cs, s.heap.get? p.2 = some { cls := .none, data := .fields #[] } ∧ K.lookup p.2 = none ∧ PySem.W.CodeHd s.heap p.1 p.2)
    (hbm : ∃ (bm : Addr) (ob : Obj), mg "__builtins__" = some (.ref bm) ∧ bm ≠ builtinsNs ∧ s.heap.get? bm = some ob ∧ ob.cls = .type "module" ∧ ob.dict = some builtinsNs ∧ ob.data = .plain)
    (ha : s.heap.get? a = some { cls := .type "list", data := .seq vs.toArray }) (hi : IntsAre vs ns) (hl : ns.length ≤ sizeLine) (rm : Room k callerA)
    (F : ∀ base : Heap, K.In base → base.Ns mainGlobals mg → (∀ p ∈ cs, GxR.TabB base mg p.1 p.2) → FnG P w K mg base CX0 k fa fd [x] sp) (hb : ∀ (s : Shared) (u : Value), BindsTo s fd ⟨[u], []⟩ [(x, u)])
    (hsp : ∀ H : Hp, (∀ p ∈ cs, H p.2 = some (.tbl #[])) → SqL K H a (ns.map V.int) → sp [.ref a] H (fun v _ => v = .bl true) fun _ _ _ => False) :
    codeAny (model P w) callerA (.call (.ref fa) ⟨[.ref a], []⟩) (fun r s' => r = .ok (.ret (.bool true)) ∧ OldK s.heap s'.heap ∧ s'.os = s.os ∧ AllBare s'.gens) s := by
  have rv := vals_ints hi
  have lenV := hi.length
  obtain ⟨H, eH⟩ : ∃ H, H = hp0 K cs a vs ns := ⟨_, rfl⟩
  have memT : ∀ p ∈ cs, p.2 ∈ cs.map (·.2) := fun p hp => List.mem_map.mpr ⟨p, hp, rfl⟩
  have tabH : ∀ b, b ∈ cs.map (·.2) → s.heap.get? b = some { cls := .none, data := .fields #[] } ∧ K.lookup b = none := fun b hb => by
    obtain ⟨p, hp, e⟩ := List.mem_map.mp hb
    rw [← e]
    exact ⟨(hT p hp).1, (hT p hp).2.1⟩
  have aT : a ∉ cs.map (·.2) := fun z => by
    have q := (tabH a z).1
    rw [ha] at q
    have q2 : Data.seq vs.toArray _ = Data.fields #[] := congrArg Obj.data (Option.some.inj q)
    cases q2
  have hS : SqL K H a (ns.map V.int) := by
    cases hk : K.lookup a with
    | none => exact .inl (.inr ⟨_, by rw [eH]; exact hp0_scr aT hk⟩)
    | some o =>
      have e := KX a o hk
      rw [ha] at e
      cases e
      exact .inr ⟨_, vs.toArray, _, hk, rfl, rfl, rfl, by rw [List.size_toArray, lenV]; exact hl, by simpa using rv⟩
  have hH : ∀ p ∈ cs, H p.2 = some (.tbl #[]) := fun p hp => by rw [eH]; exact hp0_tab (memT p hp)
  have hok : HOk P w H s.heap := fun b o e => by
    rw [eH] at e
    rcases hp0_cases e with ⟨h1, rfl⟩ | ⟨h1, rfl, hk, rfl⟩
    · exact (tabH b h1).1
    · exact ⟨ha, by rw [List.length_map]; exact hl, vs, _, rv, ha⟩
  -- what is neither a sequence nor an empty table is untracked
  have out : ∀ {b : Addr} {o : Obj}, s.heap.get? b = some o → (∀ us n, o.data ≠ .seq us n) → o.data ≠ .fields #[] → H b = none := fun {b o} e h1 h2 => by
    cases q : H b with
    | none => rfl
    | some u =>
      rw [eH] at q
      rcases hp0_cases q with ⟨h3, _⟩ | ⟨_, h3, _⟩
      · rw [(tabH b h3).1] at e; cases e; exact absurd rfl h2
      · rw [h3, ha] at e; cases e; exact absurd rfl (h1 _ _)
  have keepB : ∀ {b : Addr} {o : Obj}, s.heap.get? b = some o → H b = none → (hidT s.heap H).get? b = some o := fun e n => hidT_get e n
  have nsB : ∀ {b : Addr} {m : Str → Option Value}, s.heap.Ns b m → (hidT s.heap H).Ns b m := fun {b m} ⟨o, es, ep, e, d, r⟩ =>
    ⟨o, es, ep, keepB e (out e (fun us n z => by rw [d] at z; cases z) fun z => by rw [d] at z; cases z), d, r⟩
  have KB : K.In (hidT s.heap H) := fun b o e => keepB (KX b o e) (by
    cases q : H b with
    | none => rfl
    | some u =>
      rw [eH] at q
      rcases hp0_cases q with ⟨h3, _⟩ | ⟨_, h3, h4, _⟩
      · rw [(tabH b h3).2] at e; cases e
      · rw [h3, h4] at e; cases e)
  have MB : L2.Mod K mg (hidT s.heap H) := ⟨KB, nsB n1, ⟨mb, nsB n2, n3⟩, let ⟨mc, h1, h2⟩ := lim; ⟨mc, nsB h1, h2⟩⟩
  have TB : ∀ p ∈ cs, GxR.TabB (hidT s.heap H) mg p.1 p.2 := fun p hp => by
    obtain ⟨t1, t2, o, us, file, tf, flags, tg, inF, text, tt, e1, r1, r2, r3, r4, r5, r6, r7, r8, hne⟩ := hT p hp
    obtain ⟨bm, ob, b1, b2, b3, b4, b5, b6⟩ := hbm
    refine ⟨⟨o, us, file, tf, flags, tg, inF, text, tt, keepB e1 (out e1 (fun vs n z => by rw [r2] at z; cases z) fun z => by rw [r2] at z; cases z; simp at r3), r1, r2, r3, r4, r5, r6, r7, r8, hne⟩,
      ⟨bm, ob, b1, b2, fun q => ?_, fun q => ?_, keepB b3 (out b3 (fun vs n z => by rw [b6] at z; cases z) fun z => by rw [b6] at z; cases z), b4, b5, b6⟩, fun z => ?_⟩
    · obtain ⟨o, es, ep, e, hd, _⟩ := n1
      rw [q, e] at b3; cases b3
      rw [hd] at b6; cases b6
    · rw [q, t1] at b3; cases b3; cases b6
    · obtain ⟨o, es, ep, e, hd, _⟩ := n1
      rw [z, t1] at e; cases e; cases hd
  have e0 : Env0 P w K mg (hidT s.heap H) callerA [] s H := ⟨rfl, MB, fun b o e => of_hidT e, Nat.le_of_eq (hidT_size _ _), trivial, fun b hb => absurd (show b ∈ ([] : List Addr) from hb) (by simp), hok, .of_eq hg⟩
  refine codeAny_mono ((F _ KB (nsB n1) TB).go callerA [] s H ⟨[.ref a], []⟩ [.ref a] [.ref a] _ _ rfl rm e0 (hb s (.ref a)) (.cons rfl .nil) (hsp H hH hS)) fun r s' h => ?_
  cases r with
  | error e => exact absurd (show False from h) (fun z => z)
  | ok fl =>
    cases fl with
    | next => exact absurd (show False from h) (fun z => z)
    | brk => exact absurd (show False from h) (fun z => z)
    | cont => exact absurd (show False from h) (fun z => z)
    | ret u =>
      obtain ⟨v, H', hos, bare, un, hok', r', q⟩ := h
      subst q
      obtain rfl : u = Value.bool true := r'
      have noA : ∀ b : Addr, b ∉ ([] : List Addr) := fun b => by simp
      have same : ∀ b o, b ∉ cs.map (·.2) → s.heap.get? b = some o → s'.heap.get? b = some o := fun b o nb e => by
        cases q : H b with
        | none => exact un.keep b o e q (fun z => absurd (show b ∈ ([] : List Addr) from z) (noA b)) (noA b)
        | some u =>
          have q0 := q
          rw [eH] at q
          rcases hp0_cases q with ⟨h3, _⟩ | ⟨_, h3, h4, rfl⟩
          · exact absurd h3 nb
          · obtain ⟨e1, _⟩ := hok b _ q0
            obtain ⟨e2, _⟩ := hok' b _ (un.frzs b _ _ q0)
            rw [e] at e1
            cases e1
            exact e2
      have more : ∀ b, b ∈ cs.map (·.2) → ∃ m : Array Value, s'.heap.get? b = some { cls := .none, data := .fields m } := fun b hb => by
        obtain ⟨p, hp, e⟩ := List.mem_map.mp hb
        obtain ⟨m, z⟩ := un.tbls p.2 #[] (hH p hp)
        rw [← e]
        exact ⟨_, hok' p.2 _ z⟩
      refine ⟨rfl, ⟨fun b o e => ?_, fun b o e => ?_⟩, hos, bare⟩
      · by_cases hb : b ∈ cs.map (·.2)
        · obtain ⟨m, hm⟩ := more b hb
          obtain ⟨p, hp, ep⟩ := List.mem_map.mp hb
          rw [(tabH b hb).1] at e
          cases e
          refine .inr (.inl ⟨?_, rfl, #[], m, rfl, by rw [Array.empty_append]; exact hm⟩)
          rw [← ep]
          exact ((hT p hp).2.2.tab (hT p hp).1).isCodeTable
        · exact .inl (same b o hb e)
      · by_cases hb : b ∈ cs.map (·.2)
        · obtain ⟨m, hm⟩ := more b hb
          exact ⟨_, hm⟩
        · exact ⟨o, same b o hb e⟩
end
theorem walkG {l : PySem.W.OpenLaw} {n k : Nat} {q : Program} {loose : List Str} {XP : (Str → Option Value) → Heap → Prop} {YP : World → Heap → Prop} {d : DefRec} {x : Str}
    (hn : l.most = some n) (hn2 : n ≤ sizeLine) (hdf : d.params.defaults = []) (rm : Room k callerA)
    (F : ∀ (w : World) (mg : Str → Option Value) (fa : Addr) (h : Heap), YP w h → h.Ns mainGlobals mg → mg d.name = some (.ref fa) → ∃ K : PySem.W.Frag, K.In h ∧ LawG l w K k n x mg fa h) :
    PySem.W.WalkO q loose XP YP l.row.toRowW d [] (fun f vs => PySem.call f vs) := by
  refine Att.attach_callB hn hdf fun w s0 s1 mg mb fa o pm cd doc a vs ns G Y ho hd hcd hmg hobj hints hlen hbits hg => ?_
  obtain ⟨K, KX, fd, cs, sp, hT, hb, hsp, hF⟩ := F w mg fa _ Y G.T.g hmg
  exact law_endG KX G.T.g G.T.b G.T.builtins G.T.nolimit hg hT G.T.bmain hobj hints (Nat.le_trans hlen hn2) rm hF hb fun H hH hS => hsp H a ns hlen hbits hH hS
theorem funOf {K : PySem.W.Frag} {x qual : Str} {st : Stmt} {f : Addr} {fd : FuncData} (F : FunD K x qual (defArgs st) (defBody st) (defScope st) [] [] f fd) : Fun K x qual st f fd := by
  obtain ⟨oc, od, dV, kV, doc, pm, an, cdv, ct, osl, e, lk, hcd, hD, hK⟩ := F.ex
  rcases hD with ⟨_, rfl⟩ | ⟨z, _⟩
  · exact ⟨⟨oc, od, kV, doc, pm, an, cdv, ct, osl, e, lk, hcd⟩, F.kp⟩
  · exact absurd rfl z
/-- a def of the module: where it stands, how it is called -/
structure Df (K : PySem.W.Frag) (mg : Str → Option Value) (x : Str) (st : Stmt) (ps : List Str) (f : Addr) (fd : FuncData) : Prop where
  F : Fun K x x st f fd
  b : Binds K fd ps []
  g : mg x = some (.ref f)
/-- its code's object -/
def CodeIs (K : PySem.W.Frag) (f c : Addr) : Prop := ∀ oc od fd osl, K.lookup f = some ⟨oc, od, .func fd, osl⟩ → fd.code = .ref c
theorem codeIs_of {K : PySem.W.Frag} {x qual : Str} {st : Stmt} {p : Str × Option Str} {fd : FuncData} (F : Fun K x qual st (He.fAd K p) fd) : CodeIs K (He.fAd K p) (He.codeOf K p) := by
  obtain ⟨oc, od, kV, doc, pm, an, cdv, ct, osl, e, lk, hcd⟩ := F.ex
  obtain ⟨c, hc⟩ := He.codeIn_ref hcd
  have h1 : He.codeOf K p = c := He.codeOf_eq lk (by rw [e]; exact hc)
  intro oc2 od2 fd2 osl2 lk2
  rw [lk] at lk2
  cases lk2
  rw [h1, e]
  exact hc
theorem Df.mk' {K : PySem.W.Frag} {mg : Str → Option Value} {x : Str} {st : Stmt} {ps : List Str} {f : Addr} {fd : FuncData} (F : FunD K x x (defArgs st) (defBody st) (defScope st) [] [] f fd) (hm : mg x = some (.ref f))
    (h : ∀ (kV doc pm : Value) (an : Option Addr) (cdv ct : Value) (us : List Value), us.length = ps.length → bindArgs (PySem.W.fnOf x x (defArgs st) (defBody st) (defScope st) .none kV doc pm an cdv ct) ⟨us, []⟩ = pure (ps.zip us)) : Df K mg x st ps f fd :=
  ⟨funOf F, F.bindsN h, hm⟩
/-- as Fun.ok, the code's object known -/
theorem okC {P : Program} {w : World} {K : PySem.W.Frag} {mg : Str → Option Value} {base : Heap} {k : Nat} {f c : Addr} {fd : FuncData} {ps : List Str} {sp : Sp} {x qual : Str} {st : Stmt} {N : List Str} (F : Fun K x qual st f fd) (hC : CodeIs K f c) (S : FnScope N ps (defScope st)) (len : ∀ vs H Q E, sp vs H Q E → vs.length = ps.length)
    (hbody : ∀ (A : Around) (outer : List Env) (s : Shared) (H : Hp) (vs : List V) (Q : VK) (E : XK), Room k (A.deeper (envOfC qual (defScope st) s.heap.objs.size f (.ref c))) → sp vs H Q E →
      ∃ t, PSs (cxOf CX0 P w K mg base N qual (defScope st) f (.ref c) A outer s H E).nox (defBody st) t ∧ t { nx := fun _ H' => Q .non H', rt := Q } (start N vs) H) : FnOk P w K mg base CX0 (k + 1) f fd ps sp := by
  obtain ⟨oc, od, kV, doc, pm, an, cdv, ct, osl, rfl, lk, hcd⟩ := F.ex
  have hc : cdv = .ref c := hC _ _ _ _ lk
  subst hc
  refine fn_of lk hcd S len fun A outer s H vs Q E hr hs => ?_
  obtain ⟨t, h, q⟩ := hbody A outer s H vs Q E hr hs
  exact ⟨t, h.nox, q⟩
end Em

namespace Em
open PySem PySem.Spec PyProof.Rows L2 Qt

def isW : PyData → Bool
  | .int _ => true
  | _ => false
def numB (m : Nat) : PyData → Bool
  | .int i => decide (0 ≤ i) && decide (i < (m : Int))
  | _ => false
def lenB : PyData → Bool
  | .int i => !decide (i < 1)
  | _ => false
def nxB (m : Nat) : PyData → Bool
  | .none => true
  | d => numB m d
def lampB (m : Nat) : PyData → Bool
  | .tuple [l, o] => lenB l && nxB m o
  | _ => false
def netB : PyData → Bool
  | .tuple ds => !decide ((ds.length : Int) < 1) && !decide ((12 : Int) < (ds.length : Int)) && (ds.map (lampB ds.length)).all id
  | _ => false

def kname : PyData → String
  | .none => "NoneType"
  | .bool _ => "bool"
  | .int _ => "int"
  | .str _ => "str"
  | .list _ => "list"
  | .tuple _ => "tuple"
  | .dict _ => "dict"
theorem knd_of {c : Qc} {S : List Addr} (O : c.Ok) : ∀ {v : V} {d : PyData}, Dx S c.H v d → Knd c v (kname d)
  | _, _, .non => .non
  | _, _, .bl b => .bl b
  | _, _, .int i => .int i
  | _, _, .str z => .str z
  | _, _, .lst n h r => by
    obtain ⟨_, its, m, _, e⟩ := O.hok _ _ h
    exact .lst ⟨_, e, rfl⟩
  | _, _, .tup n h r => by
    obtain ⟨_, its, _, o, e, ec, _⟩ := O.hok _ _ h
    exact .tup ⟨o, e, ec⟩
  | _, _, .dic n h => by
    obtain ⟨_, _, vs, _, o, es, ep, e, q, _⟩ := O.hok _ _ h
    exact .dic ⟨o, e, q.1⟩
theorem tupQ_of {c : Qc} (O : c.Ok) {a : Addr} {xs : List V} (h : c.H a = some (.tup xs)) : TupQ c a xs := by
  obtain ⟨hz, its, rv, ht⟩ := O.hok _ _ h
  exact ⟨its, rv, ht, hz⟩
/-- isinstance(x, C) of data -/
def kindS (k C : String) : Bool := k == C || (k == "bool" && C == "int")
def kindB (d : PyData) (C : String) : Bool := kindS (kname d) C
def kinds : List String := ["NoneType", "bool", "int", "str", "list", "tuple", "dict"]
theorem kname_mem (d : PyData) : kname d ∈ kinds := by cases d <;> simp [kname, kinds]
def cls4 : List String := ["int", "bool", "tuple", "list"]
theorem kits : ∀ C ∈ cls4, ∀ k ∈ kinds, kitB k C = some (kindS k C) := by decide +kernel
theorem kit_data {K : PySem.W.Frag} {d : PyData} {C : String} (hC : C ∈ cls4) : PySem.W.kitOne K (.type (kname d)) (.type C) = some (kindB d C) := kit_ty (kits C hC _ (kname_mem d))
theorem qe_isi {c : Qc} {k : Nat} {env : Env} {N : Nm} {S : List Addr} {v : V} {d : PyData} {C : String} {e : Expr} {p1 p2 pos : Pos} (O : c.Ok) (h : Dx S c.H v d) (he : QE c k env N e v) (hg : env.kindOf ("isinstance" : Str) = some .globalImplicit) (hm : c.mg "isinstance" = none)
    (hgC : env.kindOf (Str.ofString C) = some .globalImplicit) (hmC : c.mg (Str.ofString C) = none) (hvC : bootBuiltins (Str.ofString C) = some (.type C)) (hC : C ∈ cls4)
    (hn : (Str.ofString C) ≠ "__name__" := by decide) (hd : ((Str.ofString C) == ("__debug__" : Str)) = false := by decide)
    (s1 : starEach (e :: [.Name (Str.ofString C) p2]) env = (false, eval e env) :: starEach [.Name (Str.ofString C) p2] env := by rfl) (s2 : starEach (.Name (Str.ofString C) p2 :: []) env = (false, eval (.Name (Str.ofString C) p2) env) :: starEach [] env := by rfl)
    (hpl : (backTo pos (starEach [.Name (Str.ofString C) p2] env)).any (·.1) = false := by rfl) :
    QE c k env N (.Call (.Name "isinstance" p1) (e :: [.Name (Str.ofString C) p2]) [] pos) (.bl (kindB d C)) :=
  q_callB O (qc_isi O (knd_of O h) (kit_data hC)) hg hm (by decide +kernel) (qa_cons he (qa_cons (q_blt (v := .ty C) O hgC hmC hvC rfl hn hd) qa_nil s2) s1) (by decide) (by decide) s1 hpl
theorem tyx_of {K : PySem.W.Frag} {S : List Addr} {H : Hp} : ∀ {v : V} {d : PyData}, Dx S H v d → TyX K H v (.type (kname d))
  | _, _, .non => .base .non
  | _, _, .bl b => .base (.bl b)
  | _, _, .int i => .base (.int i)
  | _, _, .str z => .base (.str z)
  | _, _, .lst n h r => .base (.lst h)
  | _, _, .tup n h r => .base (.tup h)
  | _, _, .dic n h => .base (.dK h)
mutual
theorem Dx.wiped {S : List Addr} {H : Hp} {P : Addr} (t : GxR.TabG H P) : ∀ {v : V} {d : PyData}, Dx S H v d → Dx S (wipe H P) v d
  | _, _, .non => .non
  | _, _, .bl b => .bl b
  | _, _, .int i => .int i
  | _, _, .str z => .str z
  | _, _, .lst n h r => .lst n (wipe_at (fun z => by obtain ⟨ps, e, _⟩ := t; rw [z, e] at h; cases h) h) (DxA.wiped t r)
  | _, _, .tup n h r => .tup n (wipe_at (fun z => by obtain ⟨ps, e, _⟩ := t; rw [z, e] at h; cases h) h) (DxA.wiped t r)
  | _, _, .dic n h => .dic n (wipe_at (fun z => by obtain ⟨ps, e, _⟩ := t; rw [z, e] at h; cases h) h)
theorem DxA.wiped {S : List Addr} {H : Hp} {P : Addr} (t : GxR.TabG H P) : ∀ {v : List V} {d : List PyData}, DxA S H v d → DxA S (wipe H P) v d
  | _, _, .nil => .nil
  | _, _, .cons h r => .cons (Dx.wiped t h) (DxA.wiped t r)
end
theorem free_by {names : List (Str × NameKind)} {sc : Scope} {n : Nat} (h : names.all (fun y => y.2 != .free || sc.names.lookup y.1 == some .cell) = true) : ∀ y ∈ names, y.2 = .free → ∃ c, (cellsFrom n sc.names []).lookup y.1 = some c := fun y hy e => by
  have q := List.all_eq_true.mp h y hy
  rw [e] at q
  exact cell_has (by simpa using q)
end Em

namespace Em
open PySem PySem.Spec PyProof.Rows L2 Qt

abbrev Net := List (Int × Option Nat)
def nxD : Option Nat → PyData
  | none => .none
  | some n => .int n
def nxV : Option Nat → V
  | none => .non
  | some n => .int n
def lampD (p : Int × Option Nat) : PyData := .tuple [.int p.1, nxD p.2]
def netD (N : Net) : PyData := .tuple (N.map lampD)
structure NetOk (N : Net) : Prop where
  lo : 1 ≤ N.length
  hi : N.length ≤ 12
  len : ∀ p ∈ N, 1 ≤ p.1
  nx : ∀ p ∈ N, ∀ y, p.2 = some y → y < N.length
theorem netB_of {N : Net} (h : NetOk N) : netB (netD N) = true := by
  have h1 := h.lo
  have h2 := h.hi
  show (!decide (((N.map lampD).length : Int) < 1) && !decide ((12 : Int) < ((N.map lampD).length : Int)) && ((N.map lampD).map (lampB (N.map lampD).length)).all id) = true
  rw [List.length_map, decide_eq_false (by omega), decide_eq_false (by omega)]
  simp only [Bool.not_false, Bool.true_and, List.map_map, List.all_eq_true]
  intro b hb
  obtain ⟨p, hp, rfl⟩ := List.mem_map.mp hb
  have e1 := h.len p hp
  have e2 := h.nx p hp
  obtain ⟨l, o⟩ := p
  have h3 : ¬ l < 1 := by simp only at e1; omega
  show (!decide (l < 1) && nxB N.length (nxD o)) = true
  rw [decide_eq_false h3]
  cases o with
  | none => rfl
  | some y =>
    have := e2 y rfl
    show (decide ((0 : Int) ≤ (y : Int)) && decide ((y : Int) < (N.length : Int))) = true
    rw [decide_eq_true (by omega), decide_eq_true (by omega)]
    rfl
/-- the next lamp -/
def nxt (N : Net) (x : Nat) : Option Nat := (N.getD x (1, none)).2
theorem nxt_get {N : Net} {x : Nat} {p : Int × Option Nat} (h : N[x]? = some p) : nxt N x = p.2 := by
  unfold nxt
  rw [List.getD_eq_getElem?_getD, h]
  rfl
theorem nxt_lt {N : Net} (h : NetOk N) {x y : Nat} (e : nxt N x = some y) : y < N.length := by
  by_cases hx : x < N.length
  · have g := List.getElem?_eq_getElem hx
    rw [nxt_get g] at e
    exact h.nx _ (List.getElem_mem hx) y e
  · unfold nxt at e
    rw [List.getD_eq_getElem?_getD, List.getElem?_eq_none (by omega)] at e
    cases e

def lastOf (g : List Nat) : Nat := g.getLastD 0
def step (N : Net) (g : List Nat) : List Nat := match nxt N (lastOf g) with
  | none => g
  | some y => if y ∈ g then g else g ++ [y]
def itr {α : Type} (f : α → α) : Nat → α → α
  | 0, a => a
  | n + 1, a => f (itr f n a)
def path (N : Net) (x : Nat) : List Nat := itr (step N) N.length [x]
/-- the way's two parts -/
def cutAt (N : Net) (g : List Nat) : Nat := match nxt N (lastOf g) with
  | none => g.length
  | some y => g.idxOf y
def wayA (N : Net) (x : Nat) : List Nat := (path N x).take (cutAt N (path N x))
def wayR (N : Net) (x : Nat) : List Nat := (path N x).drop (cutAt N (path N x))
def natsD (g : List Nat) : PyData := .tuple (g.map fun n : Nat => .int (n : Int))
def wayD (N : Net) (x : Nat) : PyData := .tuple [natsD (wayA N x), natsD (wayR N x)]
theorem itr_fix {α : Type} {f : α → α} {a : α} (h : f a = a) : ∀ n, itr f n a = a
  | 0 => rfl
  | n + 1 => by
    show f (itr f n a) = a
    rw [itr_fix h n, h]
theorem itr_add {α : Type} {f : α → α} {a : α} (m : Nat) : ∀ n, itr f (m + n) a = itr f n (itr f m a)
  | 0 => rfl
  | n + 1 => by
    show f (itr f (m + n) a) = f (itr f n (itr f m a))
    rw [itr_add m n]
theorem last_app (g : List Nat) (y : Nat) : lastOf (g ++ [y]) = y := by
  unfold lastOf
  rw [List.getLastD_eq_getLast?, List.getLast?_concat]
  rfl
/-- what is gone so far: i steps on the way -/
structure Gone (N : Net) (x i : Nat) (g : List Nat) : Prop where
  it : g = itr (step N) i [x]
  len : g.length = i + 1
  nd : g.Nodup
  lt : ∀ y ∈ g, y < N.length
theorem Gone.start {N : Net} {x : Nat} (h : x < N.length) : Gone N x 0 [x] := ⟨rfl, rfl, by simp, by simpa using h⟩
theorem Gone.more {N : Net} (o : NetOk N) {x i : Nat} {g : List Nat} (a : Gone N x i g) {y : Nat} (h : nxt N (lastOf g) = some y) (hn : y ∉ g) : Gone N x (i + 1) (g ++ [y]) := by
  refine ⟨?_, by rw [List.length_append, a.len]; rfl, ?_, fun z hz => ?_⟩
  · show g ++ [y] = step N (itr (step N) i [x])
    rw [← a.it]
    unfold step
    rw [h]
    simp only [hn, if_false]
  · rw [List.nodup_append]
    refine ⟨a.nd, by simp, fun b hb c hc => ?_⟩
    have : c = y := by simpa using hc
    subst this
    exact fun e => hn (e ▸ hb)
  · rcases List.mem_append.mp hz with hz | hz
    · exact a.lt z hz
    · have : z = y := by simpa using hz
      rw [this]
      exact nxt_lt o h
theorem nodup_le : ∀ {n : Nat} {g : List Nat}, g.Nodup → (∀ y ∈ g, y < n) → g.length ≤ n
  | 0, g, _, h2 => by
    cases g with
    | nil => exact Nat.le_refl _
    | cons y r => exact absurd (h2 y List.mem_cons_self) (Nat.not_lt_zero _)
  | n + 1, g, h1, h2 => by
    by_cases hn : n ∈ g
    · have h3 := nodup_le (n := n) (g := g.erase n) (h1.erase n) fun y hy => by
        have q := (h1.mem_erase_iff).mp hy
        have := h2 y q.2
        have := q.1
        omega
      rw [List.length_erase_of_mem hn] at h3
      omega
    · have h3 := nodup_le (n := n) h1 fun y hy => by
        have := h2 y hy
        have : y ≠ n := fun e => hn (e ▸ hy)
        omega
      omega
theorem Gone.le {N : Net} {x i : Nat} {g : List Nat} (a : Gone N x i g) : g.length ≤ N.length := nodup_le a.nd a.lt
/-- where no step is left, that is the whole path -/
theorem Gone.done {N : Net} {x i : Nat} {g : List Nat} (a : Gone N x i g) (h : step N g = g) : path N x = g := by
  have hl := a.le
  have e : N.length = i + (N.length - i) := by have := a.len; omega
  unfold path
  rw [e, itr_add, ← a.it]
  exact itr_fix h _
theorem step_none {N : Net} {g : List Nat} (h : nxt N (lastOf g) = none) : step N g = g := by unfold step; rw [h]
theorem step_in {N : Net} {g : List Nat} {y : Nat} (h : nxt N (lastOf g) = some y) (hy : y ∈ g) : step N g = g := by unfold step; rw [h]; simp only [hy, if_true]
def natV (g : List Nat) : List V := g.map fun n : Nat => V.int (n : Int)
theorem natV_app (g : List Nat) (y : Nat) : natV (g ++ [y]) = natV g ++ [.int y] := by unfold natV; rw [List.map_append]; rfl
theorem natV_len (g : List Nat) : (natV g).length = g.length := by unfold natV; rw [List.length_map]
theorem natV_get {g : List Nat} {i y : Nat} (h : g[i]? = some y) : (natV g)[i]? = some (.int y) := by unfold natV; rw [List.getElem?_map, h]; rfl
theorem natV_flat (g : List Nat) : (natV g).all flatV = true := by
  unfold natV
  rw [List.all_eq_true]
  intro v hv
  obtain ⟨n, _, rfl⟩ := List.mem_map.mp hv
  rfl
theorem inV_natV {x : Nat} (g : List Nat) : inV (.int x) (natV g) = decide (x ∈ g) := by
  rw [Bool.eq_iff_iff, decide_eq_true_iff]
  unfold inV natV
  rw [List.any_eq_true]
  constructor
  · rintro ⟨v, hv, e⟩
    obtain ⟨n, hn, rfl⟩ := List.mem_map.mp hv
    have e1 : ((n : Int) == (x : Int)) = true := e
    have e2 : n = x := by have := beq_iff_eq.mp e1; omega
    exact e2 ▸ hn
  · intro h
    exact ⟨_, List.mem_map.mpr ⟨x, h, rfl⟩, by show ((x : Int) == (x : Int)) = true; simp⟩
theorem nwA_natV {H H1 : Hp} : ∀ g : List Nat, NwA H H1 (natV g) (g.map fun n : Nat => PyData.int (n : Int))
  | [] => .nil
  | n :: r => .cons (.int _) (nwA_natV r)
theorem dx_nx {S : List Addr} {H : Hp} {v : V} {o : Option Nat} (h : Dx S H v (nxD o)) : v = nxV o := by
  cases o with
  | none => cases h; rfl
  | some n => cases h; rfl
theorem net_at {S : List Addr} {H : Hp} {v : V} {N : Net} (h : Dx S H v (netD N)) : ∃ (ad : Addr) (xs : List V), v = .ref ad ∧ ad ∉ S ∧ H ad = some (.tup xs) ∧ xs.length = N.length ∧
    ∀ (x : Nat) (p : Int × Option Nat), N[x]? = some p → ∃ la : Addr, xs[x]? = some (.ref la) ∧ la ∉ S ∧ H la = some (.tup [.int p.1, nxV p.2]) := by
  cases h with
  | @tup ad xs ds n h r =>
    refine ⟨ad, xs, rfl, n, h, by rw [r.len, List.length_map], fun x p hp => ?_⟩
    obtain ⟨w, hw, hx⟩ := r.get' (i := x) (d := lampD p) (by rw [List.getElem?_map, hp]; rfl)
    cases hx with
    | @tup la ys es m h2 r2 =>
      cases r2 with
      | cons a1 r3 =>
        cases r3 with
        | cons a2 r4 =>
          cases r4
          cases a1
          rw [dx_nx a2] at h2
          exact ⟨la, hw, m, h2⟩
theorem natV_cut0 {g : List Nat} {i : Nat} (h : i ≤ g.length) : cutV (natV g) none (some (i : Int)) = natV (g.take i) := by
  unfold cutV
  rw [show HT.sIx (natV g).length (natV g).length (some (i : Int)) = min i (natV g).length from HT.sIx_nat _ _ i, HT.sIx_none, natV_len, Nat.min_eq_left h, Nat.sub_zero, List.drop_zero]
  unfold natV
  rw [List.map_take]
theorem natV_cut1 {g : List Nat} {i : Nat} (h : i ≤ g.length) : cutV (natV g) (some (i : Int)) none = natV (g.drop i) := by
  unfold cutV
  rw [show HT.sIx (natV g).length 0 (some (i : Int)) = min i (natV g).length from HT.sIx_nat _ _ i, HT.sIx_none, natV_len, Nat.min_eq_left h]
  unfold natV
  rw [← List.map_drop, List.take_of_length_le (by rw [List.length_map, List.length_drop]; exact Nat.le_refl _)]
theorem idx_ne {g : List Nat} {j u y : Nat} (hj : j < g.idxOf y) (hu : g[j]? = some u) : u ≠ y := fun e => by
  have h := List.not_of_lt_findIdx (p := (· == y)) (xs := g) hj
  obtain ⟨h1, h2⟩ := List.getElem?_eq_some_iff.mp hu
  rw [h2, e] at h
  simp at h
theorem big_log {m : Int} (h : 0 < m) (h2 : m < 2 ^ 8000) : m.natAbs.log2 < 9000 := by
  have h3 : m.natAbs < 2 ^ 8000 := by
    have e : ((2 ^ 8000 : Nat) : Int) = (2 : Int) ^ 8000 := by rw [Int.natCast_pow]; rfl
    have : (m.natAbs : Int) < ((2 ^ 8000 : Nat) : Int) := by rw [e]; omega
    exact Int.ofNat_lt.mp this
  exact Nat.lt_of_lt_of_le (PySem.Flt.log2_lt_of (by decide) h3) (by decide)
/-- what a walk of so many turns has come by: a turn may have stood still -/
structure Been (N : Net) (x i : Nat) (g : List Nat) : Prop where
  it : g = itr (step N) i [x]
  pos : 1 ≤ g.length
  nd : g.Nodup
  lt : ∀ y ∈ g, y < N.length
  st : g.length = i + 1 ∨ step N g = g
theorem Been.start {N : Net} {x : Nat} (h : x < N.length) : Been N x 0 [x] := ⟨rfl, Nat.le_refl _, by simp, by simpa using h, .inl rfl⟩
theorem Been.still {N : Net} {x i : Nat} {g : List Nat} (a : Been N x i g) (h : step N g = g) : Been N x (i + 1) g := by
  refine ⟨?_, a.pos, a.nd, a.lt, .inr h⟩
  show g = step N (itr (step N) i [x])
  rw [← a.it, h]
theorem Been.more {N : Net} (o : NetOk N) {x i : Nat} {g : List Nat} (a : Been N x i g) {y : Nat} (h : nxt N (lastOf g) = some y) (hn : y ∉ g) : Been N x (i + 1) (g ++ [y]) := by
  have e : step N g = g ++ [y] := by unfold step; rw [h]; simp only [hn, if_false]
  have hl : g.length = i + 1 := by
    rcases a.st with h | h
    · exact h
    · rw [e] at h
      have := congrArg List.length h
      simp at this
  refine ⟨?_, by simp, ?_, fun z hz => ?_, .inl (by rw [List.length_append, hl]; rfl)⟩
  · show g ++ [y] = step N (itr (step N) i [x])
    rw [← a.it, e]
  · rw [List.nodup_append]
    refine ⟨a.nd, by simp, fun b hb c hc => ?_⟩
    have : c = y := by simpa using hc
    subst this
    exact fun e => hn (e ▸ hb)
  · rcases List.mem_append.mp hz with hz | hz
    · exact a.lt z hz
    · have : z = y := by simpa using hz
      rw [this]
      exact nxt_lt o h
theorem Been.le {N : Net} {x i : Nat} {g : List Nat} (a : Been N x i g) : g.length ≤ N.length := nodup_le a.nd a.lt
theorem Been.done {N : Net} {x : Nat} {g : List Nat} (a : Been N x N.length g) : path N x = g ∧ step N g = g := by
  refine ⟨a.it.symm, ?_⟩
  rcases a.st with h | h
  · have := a.le
    omega
  · exact h
theorem step_mem {N : Net} {g : List Nat} {y : Nat} (h : nxt N (lastOf g) = some y) (e : step N g = g) : y ∈ g := by
  by_cases hn : y ∈ g
  · exact hn
  · unfold step at e
    rw [h] at e
    simp only [hn, if_false] at e
    have := congrArg List.length e
    simp at this
theorem natV_last {N : Net} {x i : Nat} {g : List Nat} (a : Been N x i g) : atI (natV g) (-1) = some (.int (lastOf g : Nat)) := by
  have h := a.pos
  have hne : g ≠ [] := fun e => by rw [e] at h; exact absurd h (by decide)
  have e := (List.dropLast_concat_getLast hne).symm
  have el : lastOf g = g.getLast hne := by
    unfold lastOf
    rw [List.getLastD_eq_getLast?, List.getLast?_eq_some_getLast hne]
    rfl
  have e2 : natV g = natV g.dropLast ++ [.int (g.getLast hne : Nat)] := by rw [← natV_app]; exact congrArg natV e
  rw [el, e2]
  exact atI_last _ _
end Em

namespace Em
open PySem PySem.Spec PyProof.Rows L2 Qt

def Short (N : Net) : Prop := ∀ p ∈ N, p.1 < 10 ^ 60
theorem all_lay {α : Type} {f : α → PyData} (h : ∀ a, (f a).canLay0 = true) : ∀ xs : List α, PyData.canLayAll0 (xs.map f) = true
  | [] => rfl
  | x :: r => by
    show ((f x).canLay0 && PyData.canLayAll0 (r.map f)) = true
    rw [h x, all_lay h r]
    rfl
theorem all_depth {α : Type} {f : α → PyData} {n : Nat} (h : ∀ a, (f a).depth ≤ n) : ∀ xs : List α, PyData.depthAll (xs.map f) ≤ n
  | [] => Nat.zero_le _
  | x :: r => by
    show max (f x).depth (PyData.depthAll (r.map f)) ≤ n
    exact Nat.max_le.mpr ⟨h x, all_depth h r⟩
theorem small_log {i : Int} (h : i.natAbs < 10 ^ 60) : i.natAbs.log2 < 200 := PySem.Flt.log2_lt_of (by decide) (Nat.lt_of_lt_of_le h (by decide))
theorem small_shown {i : Int} (h : i.natAbs < 10 ^ 60) : (PyData.shown (.int i)).length ≤ 61 := by
  have e := int_text_length_le10 (k := 60) (by decide) h
  show (Str.ofString (toString i)).length ≤ 61
  rw [PySem.ofString_length]
  exact e
structure SmallD (d : PyData) : Prop where
  sh : d.showable = true
  lv : d.leavesShort 61 = true
  wt : d.weight ≤ 600
theorem small_int {i : Int} (h : i.natAbs < 10 ^ 60) : (PyData.int i).showable = true ∧ (PyData.int i).leavesShort 61 = true := by
  have h1 := small_log h
  have h2 := small_shown h
  exact ⟨by show decide _ = true; exact decide_eq_true (by omega), by show decide _ = true; exact decide_eq_true h2⟩
theorem ints_at {S : List Addr} {H : Hp} : ∀ {xs : List V} (g : List Nat), DxA S H xs (g.map fun n : Nat => PyData.int (n : Int)) → xs = natV g
  | _, [], h => by
    cases h
    rfl
  | _, n :: r, h => by
    cases h with
    | cons a t =>
      cases a
      rw [ints_at r t]
      rfl
theorem nats_at {S : List Addr} {H : Hp} {v : V} {g : List Nat} (h : Dx S H v (natsD g)) : ∃ a : Addr, v = .ref a ∧ a ∉ S ∧ H a = some (.tup (natV g)) := by
  cases h with
  | @tup a xs ds n h r => exact ⟨a, rfl, n, by rw [h, ints_at g r]⟩
theorem way_at {S : List Addr} {H : Hp} {v : V} {N : Net} {x : Nat} (h : Dx S H v (wayD N x)) : ∃ a b c : Addr, v = .ref a ∧ a ∉ S ∧ H a = some (.tup [.ref b, .ref c]) ∧ H b = some (.tup (natV (wayA N x))) ∧ H c = some (.tup (natV (wayR N x))) ∧ b ∉ S ∧ c ∉ S := by
  cases h with
  | @tup a xs ds n h r =>
    cases r with
    | cons a1 r =>
      cases r with
      | cons a2 r =>
        cases r
        obtain ⟨b, rfl, nb, hb⟩ := nats_at a1
        obtain ⟨c, rfl, nc, hc⟩ := nats_at a2
        exact ⟨a, b, c, rfl, n, h, hb, hc, nb, nc⟩
theorem step_len (N : Net) (g : List Nat) : (step N g).length ≤ g.length + 1 := by
  unfold step
  split
  · omega
  · split
    · omega
    · rw [List.length_append]
      exact Nat.le_refl _
theorem itr_len (N : Net) (x : Nat) : ∀ n, (itr (step N) n [x]).length ≤ n + 1
  | 0 => Nat.le_refl _
  | n + 1 => by
    have h1 := itr_len N x n
    have h2 := step_len N (itr (step N) n [x])
    show (step N (itr (step N) n [x])).length ≤ _
    omega
theorem way_len {N : Net} (o : NetOk N) (x : Nat) : (natV (wayA N x)).length + (natV (wayR N x)).length ≤ 13 := by
  have h1 : (path N x).length ≤ N.length + 1 := itr_len N x N.length
  have h2 := o.hi
  rw [natV_len, natV_len]
  unfold wayA wayR
  rw [List.length_take, List.length_drop]
  omega
end Em

namespace Em
open PySem PySem.Spec PyProof.Rows L2 Qt

def lexL : List Int → List Int → Bool
  | _, [] => false
  | [], _ :: _ => true
  | a :: as, b :: bs => if a = b then lexL as bs else decide (a < b)
theorem lexL_cons {a b : Int} {as bs : List Int} : lexL (a :: as) (b :: bs) = if a = b then lexL as bs else decide (a < b) := rfl
theorem lexL_asym : ∀ x y : List Int, lexL x y = true → lexL y x = false
  | _, [], h => by
    unfold lexL at h
    cases h
  | [], _ :: _, _ => rfl
  | a :: as, b :: bs, h => by
    rw [lexL_cons] at h ⊢
    by_cases e : a = b
    · rw [if_pos e] at h
      rw [if_pos e.symm]
      exact lexL_asym as bs h
    · rw [if_neg e] at h
      rw [if_neg (fun z => e z.symm)]
      have := of_decide_eq_true h
      exact decide_eq_false (by omega)
theorem lexL_tr : ∀ x y z : List Int, lexL y x = false → lexL z y = false → lexL z x = false
  | [], _, z, _, _ => by cases z <;> rfl
  | a :: as, [], _, h, _ => by cases h
  | a :: as, b :: bs, [], _, h => by cases h
  | a :: as, b :: bs, c :: cs, h1, h2 => by
    rw [lexL_cons] at h1 h2 ⊢
    by_cases e1 : b = a
    · by_cases e2 : c = b
      · rw [if_pos e1] at h1
        rw [if_pos e2] at h2
        rw [if_pos (e2.trans e1)]
        exact lexL_tr as bs cs h1 h2
      · rw [if_neg e2] at h2
        have := of_decide_eq_false h2
        rw [if_neg (by omega)]
        exact decide_eq_false (by omega)
    · rw [if_neg e1] at h1
      have q1 := of_decide_eq_false h1
      by_cases e2 : c = b
      · rw [if_neg (by omega)]
        exact decide_eq_false (by omega)
      · rw [if_neg e2] at h2
        have q2 := of_decide_eq_false h2
        rw [if_neg (by omega)]
        exact decide_eq_false (by omega)
theorem lexL_swo {α : Type} (k : α → List Int) : SrtO.Swo fun v u => lexL (k v) (k u) := ⟨fun x y => lexL_asym _ _, fun x y z => lexL_tr _ _ _⟩
/-- a tuple of ints -/
def TupN (h : Heap) (v : Value) (ns : List Int) : Prop := ∃ (a : Addr) (o : Obj) (its : Array Value) (n : Nat), v = .ref a ∧ h.get? a = some o ∧ o.cls = .type "tuple" ∧ o.data = .seq its n ∧ IntsAre its.toList ns
theorem TupN.keeps {h h' : Heap} {v : Value} {ns : List Int} (p : TupN h v ns) (k : ∀ b o, h.get? b = some o → o.cls = .type "tuple" → h'.get? b = some o) : TupN h' v ns := by
  obtain ⟨a, o, its, n, e, ho, hc, r⟩ := p
  exact ⟨a, o, its, n, e, k _ _ ho hc, hc, r⟩
theorem lex_go {prog : Program} {w : World} {A : Around} {s : Shared} {b fin : Bool} {Q : Bool → Shared → Prop} : ∀ {xs ys : List Value} {ns ms : List Int} (i : Nat), IntsAre xs ns → IntsAre ys ms → fin = decide (ns.length < ms.length) → Q (lexL ns ms) s → PySem.W.KatLex prog w A b fin Q (xs.zip ys) i s := by
  intro xs ys ns ms i hx hy hf h
  induction hx generalizing ys ms i with
  | nil =>
    cases hy with
    | nil => exact PySem.W.kat_nil (by rw [hf]; exact h)
    | cons q u hy => exact PySem.W.kat_nil (by rw [hf, decide_eq_true (by simp)]; exact h)
  | @cons p t xs ns hx ih =>
    cases hy with
    | nil => exact PySem.W.kat_nil (by rw [hf, decide_eq_false (by simp)]; exact h)
    | @cons q u ys ms hy =>
      show PySem.W.KatLex prog w A b fin Q ((Value.int p t, Value.int q u) :: xs.zip ys) i s
      refine PySem.W.kat_cons (wpAny_eqBool_int ?_)
      rw [lexL_cons] at h
      by_cases e : p = q
      · subst e
        rw [if_pos rfl] at h
        rw [beq_self_eq_true]
        refine PySem.W.kat_yes (ih (i + 1) hy ?_ h)
        rw [hf]
        simp
      · rw [if_neg e] at h
        rw [show (p == q) = false from beq_eq_false_iff_ne.mpr e]
        exact PySem.W.kat_no (TS.oneLt_ints _ h)
theorem tupn_cmp {prog : Program} {w : World} {A : Around} {s : Shared} {vs : List Value} {k : Value → List Int} (hp : ∀ v ∈ vs, TupN s.heap v (k v)) : SrtO.Cmp prog w A s (tuples' true) (fun p => p.1 ∈ vs) (SrtO.lt2 fun v u => lexL (k v) (k u)) := by
  intro p q hm hm'
  obtain ⟨a, o, its, n, e, ho, hc, hd, hi⟩ := hp _ hm
  obtain ⟨a', o', its', n', e', ho', hc', hd', hi'⟩ := hp _ hm'
  show wpAny (model prog w) A (keyLt' (tuples' true) p.1 q.1) (fun r s' => s' = s ∧ r = lexL (k p.1) (k q.1)) (fun _ _ => False) s
  generalize k p.1 = x at hi ⊢
  generalize k q.1 = y at hi' ⊢
  rw [e, e']
  refine PySem.W.kat_lt ho hd ho' hd' (lex_go 0 hi hi' ?_ ⟨rfl, rfl⟩)
  have h1 := hi.length
  have h2 := hi'.length
  rw [← h1, ← h2]
  rfl
theorem tupn_firsts {h : Heap} : ∀ vs : List Value, (∀ v ∈ vs, ∃ ns, ns ≠ [] ∧ TupN h v ns) → ∃ fs, PySem.W.KatTups h vs fs ∧ fs.length = vs.length ∧ ∀ f, f ∈ fs → ∃ n t, f = Value.int n t
  | [], _ => ⟨[], PySem.W.KatTups.nil, rfl, fun f hf => by simp at hf⟩
  | v :: vs, x => by
    obtain ⟨fs, k, hl, hi⟩ := tupn_firsts vs fun u hu => x u (List.mem_cons_of_mem _ hu)
    obtain ⟨ns, hne, a, o, xs, n, rfl, ho, hc, hdt, i⟩ := x v (List.mem_cons_self ..)
    obtain ⟨y, ys, e⟩ : ∃ y ys, xs.toList = y :: ys := by
      cases q : xs.toList with
      | nil =>
        rw [q] at i
        have l := i.length
        rw [List.length_nil] at l
        exact absurd (List.length_eq_zero_iff.mp l.symm) hne
      | cons y ys => exact ⟨y, ys, rfl⟩
    obtain ⟨m, t, hy⟩ := i.all y (by rw [e]; exact List.mem_cons_self ..)
    refine ⟨y :: fs, PySem.W.KatTups.cons ho hc hdt ?_ k, by simp [hl], ?_⟩
    · have z := congrArg (fun l : List Value => l[0]?) e
      simpa using z
    · intro f hf
      rcases List.mem_cons.mp hf with rfl | hf
      · exact ⟨m, t, hy⟩
      · exact hi f hf
theorem tupn_sortable {prog : Program} {w : World} {A : Around} {s : Shared} {a : Addr} {vs : List Value} {k : Value → List Int} (h0 : 0 < vs.length) (hp : ∀ v ∈ vs, TupN s.heap v (k v)) (hne : ∀ v ∈ vs, k v ≠ []) (ha : ∀ o, s.heap.get? a = some o → o.cls ≠ .type "tuple") : SrtO.SortableO prog w A s a vs fun v u => lexL (k v) (k u) := by
  intro h' keep
  have hp' : ∀ v ∈ vs, TupN h' v (k v) := fun v hm => (hp v hm).keeps fun b o e c => keep b o (fun z => by subst z; exact ha o e c) e
  obtain ⟨fs, h1, h2, h3⟩ := tupn_firsts vs fun v hm => ⟨_, hne v hm, hp' v hm⟩
  refine ⟨tuples' true, fun Q E hq => ?_, tupn_cmp hp'⟩
  refine PySem.W.kat_kind (T := .type "int") h1 (by omega) (fun f hm => ?_) (by rfl) ?_
  · obtain ⟨x, t, rfl⟩ := h3 f hm
    exact PySem.W.Looks.now
  · have e : (Value.type "int" != Value.type "tuple") = true := by first | decide +kernel | rfl | decide
    rw [e]
    exact hq
def rSortedN (K : PySem.W.Frag) : List V → Hp → VK → Prop := fun vs H Q => ∃ (a : Addr) (xs : List V) (k : V → List Int), vs = [V.ref a] ∧ SqL K H a xs ∧ (∀ x ∈ xs, k x ≠ [] ∧ ∃ t, x = V.ref t ∧ H t = some (.tup ((k x).map V.int))) ∧
  ∀ ys p, SrtO.Srtd (fun v u => lexL (k v) (k u)) ys → SrtO.Stb (fun v u => lexL (k v) (k u)) ys xs → H p = none → Q (.ref p) (upd H p (.lst ys))
section
variable {X : Cx}
theorem cr_sortedN : CallR X (.builtin "sorted") (rSortedN X.K) := by
  intro pins s σ H vs us Q I r h
  obtain ⟨a, xs, k, rfl, hs, hx, q⟩ := h
  obtain ⟨its, rv, hl, hz⟩ := I.list hs
  obtain ⟨u, rfl, ru⟩ := vals1 r
  obtain rfl : u = Value.ref a := ru
  obtain ⟨e1, e2⟩ := refs_back rv fun x m => by
    obtain ⟨_, t, e, _⟩ := hx x m
    exact ⟨t, e⟩
  have tn : ∀ v ∈ its, TupN s.heap v (k (backV v)) ∧ k (backV v) ≠ [] := fun v hv => by
    obtain ⟨t, rfl⟩ := e2 v hv
    have hm : V.ref t ∈ xs := by rw [e1]; exact List.mem_map.mpr ⟨_, hv, rfl⟩
    obtain ⟨hne, t', e, ht⟩ := hx _ hm
    cases e
    obtain ⟨_, its2, r2, o, ho, hc, n, hd⟩ := I.hok _ _ ht
    exact ⟨⟨t, o, _, n, rfl, ho, hc, hd, by rw [List.toList_toArray]; exact r2.ints⟩, hne⟩
  refine SrtO.sorted_ord (lexL_swo fun u => k (backV u)) hl.isList (by rw [← rv.length]; exact hz) (fun h2 h₁ a ha kk => ?_) fun out h1 h2 => ?_
  · refine tupn_sortable (s := { s with heap := h₁ }) (by omega) (fun v hm => (tn v hm).1.keeps fun b o e _ => (kk b o e).2) (fun v hm => (tn v hm).2) fun o e => ?_
    have e' : some o = some (seqObj "list" its.toArray 0) := e.symm.trans ha
    cases e'
    intro c
    exact absurd (Value.type.inj c) (by decide)
  · have h3 : ∀ u ∈ out, ∃ a, u = Value.ref a := fun u hu => e2 u (h2.perm.mem_iff.mp hu)
    obtain ⟨n, hn⟩ := sortedAll_at s.heap its out.toArray
    have hb : SrtO.Stb (fun v u => lexL (k v) (k u)) (out.map backV) xs := by
      rw [e1]
      exact SrtO.Stb.map (lexL_swo k) backV h2
    refine ⟨.ref _, upd H _ (.lst (out.map backV)), I.laid (t' := s.toks) (fun b o e => sortedAll_old e) (Nat.le_succ _) ⟨?_, out, n, vals_back h3, hn⟩, rfl, q _ _ (SrtO.srtd_map h1) hb (I.hok.fresh (Nat.le_succ _))⟩
    rw [hb.len]
    exact hz
end

section
variable {prog : Program} {w : World} {A : Around} {E : Value → Shared → Prop} {s : Shared} {l : Addr}
theorem min_intTup {xs : Array (Int × Tok)} {Q : Value → Shared → Prop} (hh : A.handled = none) (hl : s.heap.IsTuple l (intItems xs)) (hne : 0 < xs.size)
    (h : ∀ v h' tk, (intItems xs)[argBest (fun i j => decide (numAt xs i < numAt xs j)) (xs.size - 1)]? = some v → (∀ b o, s.heap.get? b = some o → h'.get? b = some o) → Q v { s with heap := h', toks := tk }) :
    wpAny (model prog w) A (call (.builtin "min") [.ref l]) Q E s := by
  have hlt : l < s.heap.objs.size := by obtain ⟨_, e, _⟩ := hl; exact Heap.lt_size e
  refine call_min_walk (wpAny_pyIter_tuple hl ?_)
  refine ⟨_, [_, l], [_], _, _, _, _, rfl, Walks.tuple (A := A.in1) hh _ l (Nat.ne_of_lt hlt) (intItems xs), ⟨⟨_, Heap.get?_push_size _ rfl, rfl, rfl⟩, hl.push _⟩, fun c hc => ?_, by simpa [intItems] using hne, CmpOf.ints_lt (numAt xs) (fun _ _ => intItems_at), fun v h' tk hP hk => ?_⟩
  · show c < (s.heap.push _).objs.size
    rw [Heap.size_push]
    rcases List.mem_cons.mp hc with rfl | hc
    · exact Nat.lt_succ_self _
    · rcases List.mem_cons.mp hc with rfl | hc
      · exact Nat.lt_succ_of_lt hlt
      · cases hc
  · refine h v h' tk (by simpa [intItems] using hP) fun c o e => hk c o (fun hm => ?_) (Heap.get?_push_of_some _ e)
    rcases List.mem_cons.mp hm with e1 | hm
    · exact absurd (e1 ▸ Heap.lt_size e) (Nat.lt_irrefl _)
    · cases hm
theorem min_rawT {its : List Value} {ns : List Int} {Q : Value → Shared → Prop} (hh : A.handled = none) (hl : s.heap.IsTuple l its.toArray) (hi : IntsAre its ns) (hne : 0 < ns.length)
    (h : ∀ h' tk M t', (∀ b o, s.heap.get? b = some o → h'.get? b = some o) → M ∈ ns → (∀ a, a ∈ ns → M ≤ a) → Q (.int M t') { s with heap := h', toks := tk }) : wpAny (model prog w) A (call (.builtin "min") [.ref l]) Q E s := by
  obtain ⟨xs, e⟩ := hi.allInts.items
  have hn : numsOf (intItems xs).toList = ns := by rw [← e]; exact hi.numsOf
  rw [nums_intItems] at hn
  subst hn
  rw [e] at hl
  have hsz : 0 < xs.size := by simpa using hne
  refine min_intTup hh hl hsz fun v h' tk hv hk => ?_
  obtain ⟨t, rfl⟩ := intItems_at hv
  obtain ⟨h1, h2⟩ := argBest_lt (numAt xs) (xs.size - 1)
  refine h h' tk _ t hk ?_ fun a ha => ?_
  · rw [numAt_eq]; exact PySem.getD_mem (by rw [List.length_map, Array.length_toList]; omega)
  · obtain ⟨j, hj, rfl⟩ := mem_getD ha
    rw [List.length_map, Array.length_toList] at hj
    rw [← numAt_eq]; exact h2 j (by omega)
end
def rMinT (K : PySem.W.Frag) : List V → Hp → VK → Prop := fun vs H Q => ∃ (a : Addr) (ns : List Int), vs = [V.ref a] ∧ SqT K H a (ns.map V.int) ∧ 0 < ns.length ∧ ∀ m, m ∈ ns → (∀ y, y ∈ ns → m ≤ y) → Q (.int m) H
theorem cr_minT {X : Cx} (hc : X.calm = true) : CallR X (.builtin "min") (rMinT X.K) := by
  intro pins s σ H vs us Q I r h
  obtain ⟨a, ns, rfl, hs, hne, q⟩ := h
  obtain ⟨its, rv, hl, _⟩ := I.tuple hs
  rw [Vals.ref1 r]
  exact min_rawT (I.ok.hd hc) hl rv.ints hne fun h' tk m t' hk h1 h2 => ⟨.int _, H, I.kept hk, ⟨_, rfl⟩, q m h1 h2⟩
end Em

namespace Em
open PySem PySem.Spec PyProof.Rows L2 Qt

theorem been_itr {N : Net} (o : NetOk N) {x : Nat} (hx : x < N.length) : ∀ i, Been N x i (itr (step N) i [x])
  | 0 => Been.start hx
  | i + 1 => by
    have h := been_itr o hx i
    show Been N x (i + 1) (step N (itr (step N) i [x]))
    cases z : nxt N (lastOf (itr (step N) i [x])) with
    | none =>
      rw [step_none z]
      exact h.still (step_none z)
    | some y =>
      by_cases hn : y ∈ itr (step N) i [x]
      · rw [step_in z hn]
        exact h.still (step_in z hn)
      · have e : step N (itr (step N) i [x]) = itr (step N) i [x] ++ [y] := by
          generalize itr (step N) i [x] = g at *
          unfold step
          rw [z]
          simp only [hn, if_false]
        rw [e]
        exact h.more o z hn
theorem path_been {N : Net} (o : NetOk N) {x : Nat} (hx : x < N.length) : Been N x N.length (path N x) := been_itr o hx _
theorem step_head {N : Net} {x : Nat} {g : List Nat} (h : ∃ t, g = x :: t) : ∃ t, step N g = x :: t := by
  obtain ⟨t, rfl⟩ := h
  unfold step
  split
  · exact ⟨t, rfl⟩
  · split
    · exact ⟨t, rfl⟩
    · exact ⟨_, rfl⟩
theorem itr_head (N : Net) (x : Nat) : ∀ n, ∃ t, itr (step N) n [x] = x :: t
  | 0 => ⟨[], rfl⟩
  | n + 1 => step_head (itr_head N x n)
theorem path_head (N : Net) (x : Nat) : ∃ t, path N x = x :: t := itr_head N x _
theorem way_cat (N : Net) (x : Nat) : wayA N x ++ wayR N x = path N x := List.take_append_drop _ _
theorem way_sub {N : Net} (o : NetOk N) {x : Nat} (hx : x < N.length) : ∀ y ∈ wayR N x, y < N.length := fun y hy => (path_been o hx).lt y (by rw [← way_cat]; exact List.mem_append_right _ hy)
def rootB (N : Net) (x : Nat) : Bool := decide (x ∈ wayR N x) && (wayR N x).all fun y => decide (x ≤ y)
theorem root_iff {N : Net} {x : Nat} : rootB N x = true ↔ x ∈ wayR N x ∧ ∀ y ∈ wayR N x, x ≤ y := by
  unfold rootB
  rw [Bool.and_eq_true, decide_eq_true_iff, List.all_eq_true]
  simp only [decide_eq_true_iff]
theorem root_ahead {N : Net} (o : NetOk N) {x : Nat} (hx : x < N.length) (h : x ∈ wayR N x) : wayA N x = [] := by
  have nd := (path_been o hx).nd
  obtain ⟨t, ht⟩ := path_head N x
  have e := way_cat N x
  cases q : wayA N x with
  | nil => rfl
  | cons z r =>
    rw [q] at e
    rw [← e] at nd
    rw [ht] at e
    have ez : z = x := (List.cons.inj e).1
    have := (List.nodup_cons.mp (show (z :: (r ++ wayR N x)).Nodup from nd)).1
    exact absurd (List.mem_append_right r (ez ▸ h)) this
theorem ahead_path {N : Net} {x : Nat} (h : wayA N x = []) : wayR N x = path N x := by
  have e := way_cat N x
  rw [h] at e
  exact e
/-- the least of the ring is x: that is a root -/
theorem root_min {N : Net} {x : Nat} {m : Int} (h1 : m ∈ (wayR N x).map fun n : Nat => (n : Int)) (h2 : ∀ y ∈ (wayR N x).map fun n : Nat => (n : Int), m ≤ y) : decide ((x : Int) = m) = rootB N x := by
  rw [Bool.eq_iff_iff, decide_eq_true_iff, root_iff]
  obtain ⟨n, hn, rfl⟩ := List.mem_map.mp h1
  have h3 : ∀ y ∈ wayR N x, n ≤ y := fun y hy => Int.ofNat_le.mp (h2 _ (List.mem_map.mpr ⟨y, hy, rfl⟩))
  constructor
  · intro e
    have : x = n := Int.ofNat_inj.mp e
    subst this
    exact ⟨hn, h3⟩
  · rintro ⟨a, b⟩
    have := h3 x a
    have := b n hn
    congr 1
    omega
def ringsL (N : Net) (i : Nat) : List Nat := (List.range i).filter (rootB N)
theorem ringsL_succ (N : Net) (i : Nat) : ringsL N (i + 1) = if rootB N i = true then ringsL N i ++ [i] else ringsL N i := by
  unfold ringsL
  rw [List.range_succ, List.filter_append]
  split
  · rename_i h
    rw [List.filter_cons_of_pos h]
    rfl
  · rename_i h
    rw [List.filter_cons_of_neg h]
    simp
theorem ringsL_len (N : Net) (i : Nat) : (ringsL N i).length ≤ i := by
  have := List.length_filter_le (rootB N) (List.range i)
  rw [List.length_range] at this
  exact this
theorem ringsL_mem {N : Net} {i x : Nat} (h : x ∈ ringsL N i) : x < i ∧ rootB N x = true := by
  have := List.mem_filter.mp h
  exact ⟨List.mem_range.mp this.1, this.2⟩
def ringD (N : Net) (x : Nat) : PyData := natsD (wayR N x)
def ringsD (N : Net) : PyData := .list ((ringsL N N.length).map (ringD N))
def lenOf (N : Net) (y : Nat) : Int := (N.getD y (1, none)).1
theorem lenOf_get {N : Net} {x : Nat} {p : Int × Option Nat} (h : N[x]? = some p) : lenOf N x = p.1 := by
  unfold lenOf
  rw [List.getD_eq_getElem?_getD, h]
  rfl
def lensR (N : Net) (x : Nat) : List Int := (wayR N x).map (lenOf N)
def LapD (N : Net) (x : Nat) (d : PyData) : Prop := (wayR N x = [] ∧ d = .none) ∨ (wayR N x ≠ [] ∧ ∃ m, m ∈ lensR N x ∧ (∀ y ∈ lensR N x, y ≤ m) ∧ d = .tuple [.int (lensR N x).sum, .int m])
theorem LapD.uniq {N : Net} {x : Nat} {d e : PyData} (h : LapD N x d) (k : LapD N x e) : d = e := by
  rcases h with ⟨h1, h2⟩ | ⟨h1, m, a, b, h2⟩ <;> rcases k with ⟨k1, k2⟩ | ⟨k1, n, c, f, k2⟩
  · rw [h2, k2]
  · exact absurd h1 k1
  · exact absurd k1 h1
  · have := b n c
    have := f m a
    have e : m = n := by omega
    rw [h2, k2, e]
theorem LapD.lay {N : Net} {x : Nat} {d : PyData} (h : LapD N x d) : d.canLay0 = true ∧ d.depth ≤ 1 := by
  rcases h with ⟨_, rfl⟩ | ⟨_, m, _, _, rfl⟩
  · exact ⟨rfl, Nat.zero_le _⟩
  · exact ⟨rfl, Nat.le_refl _⟩
theorem LapD.shaped {N : Net} {x : Nat} {d : PyData} (h : LapD N x d) : SeqAt.shaped d = true := by
  unfold SeqAt.shaped
  rw [h.lay.1, decide_eq_true (Nat.le_trans h.lay.2 (by decide))]
  rfl
theorem Nw.fresh {H H1 : Hp} {a : Addr} {d : PyData} (h : Nw H H1 (.ref a) d) : H a = none := by
  cases q : H a with
  | none => rfl
  | some o =>
    have hd := h [a] fun s z => by
      obtain rfl : s = a := by simpa using z
      rw [q]
      exact fun z => by cases z
    cases hd with
    | lst n _ _ => exact absurd (List.mem_singleton.mpr rfl) n
    | tup n _ _ => exact absurd (List.mem_singleton.mpr rfl) n
    | dic n _ => exact absurd (List.mem_singleton.mpr rfl) n
theorem way_new {H H1 : Hp} {a b c : Addr} {N : Net} {x : Nat} (h : Nw H H1 (.ref a) (wayD N x)) (e : H1 a = some (.tup [.ref b, .ref c])) : Nw H H1 (.ref b) (natsD (wayA N x)) ∧ Nw H H1 (.ref c) (natsD (wayR N x)) := by
  have key : ∀ S : List Addr, (∀ s ∈ S, H s ≠ none) → Dx S H1 (.ref b) (natsD (wayA N x)) ∧ Dx S H1 (.ref c) (natsD (wayR N x)) := fun S z => by
    have hd := h S z
    cases hd with
    | @tup _ xs ds n h r =>
      rw [e] at h
      cases h
      cases r with
      | cons a1 r =>
        cases r with
        | cons a2 r => exact ⟨a1, a2⟩
  exact ⟨fun S z => (key S z).1, fun S z => (key S z).2⟩
end Em

namespace Em
open PySem PySem.Spec PyProof.Rows L2 Qt

mutual
inductive Tu (H : Hp) : V → PyData → Prop
  | non : Tu H .non .none
  | bl (b : Bool) : Tu H (.bl b) (.bool b)
  | int (i : Int) : Tu H (.int i) (.int i)
  | str (z : Str) : Tu H (.str z) (.str z)
  | tup {a : Addr} {xs : List V} {ds : List PyData} (h : H a = some (.tup xs)) (r : TuA H xs ds) : Tu H (.ref a) (.tuple ds)
inductive TuA (H : Hp) : List V → List PyData → Prop
  | nil : TuA H [] []
  | cons {v : V} {vs : List V} {d : PyData} {ds : List PyData} (h : Tu H v d) (t : TuA H vs ds) : TuA H (v :: vs) (d :: ds)
end
/-- tuples stay -/
def Kt (H H' : Hp) : Prop := ∀ a xs, H a = some (.tup xs) → H' a = some (.tup xs)
theorem Kt.rfl' {H : Hp} : Kt H H := fun _ _ h => h
theorem Kt.tr {H H1 H2 : Hp} (a : Kt H H1) (b : Kt H1 H2) : Kt H H2 := fun p xs h => b p xs (a p xs h)
theorem Kt.new {H : Hp} {p : Addr} {o : HO} (n : H p = none) : Kt H (upd H p o) := fun a xs h => by rw [upd_ne (ne_of_none h n)]; exact h
theorem Kt.put {H : Hp} {p : Addr} {o u : HO} (h : H p = some u) (nt : ∀ xs, u ≠ .tup xs) : Kt H (upd H p o) := fun a xs q => by
  rw [upd_ne (fun z => by rw [z, h] at q; exact nt xs (Option.some.inj q))]; exact q
theorem Kp.kt {S : List Addr} {H H' : Hp} (k : Kp S H H') (hs : ∀ s ∈ S, ∀ xs, H s ≠ some (.tup xs)) : Kt H H' := fun a xs h => k.tup (fun z => hs a z xs h) h
theorem Kp.kt0 {H H' : Hp} (k : Kp [] H H') : Kt H H' := k.kt fun s z => by cases z
mutual
theorem Tu.kt {H H' : Hp} (k : Kt H H') : ∀ {v : V} {d : PyData}, Tu H v d → Tu H' v d
  | _, _, .non => .non
  | _, _, .bl b => .bl b
  | _, _, .int i => .int i
  | _, _, .str z => .str z
  | _, _, .tup h r => .tup (k _ _ h) (TuA.kt k r)
theorem TuA.kt {H H' : Hp} (k : Kt H H') : ∀ {v : List V} {d : List PyData}, TuA H v d → TuA H' v d
  | _, _, .nil => .nil
  | _, _, .cons h t => .cons (Tu.kt k h) (TuA.kt k t)
end
mutual
theorem Tu.dx {S : List Addr} {H : Hp} (hs : ∀ s ∈ S, ∀ xs, H s ≠ some (.tup xs)) : ∀ {v : V} {d : PyData}, Tu H v d → Dx S H v d
  | _, _, .non => .non
  | _, _, .bl b => .bl b
  | _, _, .int i => .int i
  | _, _, .str z => .str z
  | _, _, .tup h r => .tup (fun z => hs _ z _ h) h (TuA.dx hs r)
theorem TuA.dx {S : List Addr} {H : Hp} (hs : ∀ s ∈ S, ∀ xs, H s ≠ some (.tup xs)) : ∀ {v : List V} {d : List PyData}, TuA H v d → DxA S H v d
  | _, _, .nil => .nil
  | _, _, .cons h t => .cons (Tu.dx hs h) (TuA.dx hs t)
end
theorem Tu.dx0 {H : Hp} {v : V} {d : PyData} (h : Tu H v d) : Dx [] H v d := h.dx fun s z => by cases z
theorem TuA.dx0 {H : Hp} {v : List V} {d : List PyData} (h : TuA H v d) : DxA [] H v d := h.dx fun s z => by cases z
mutual
def flatD : PyData → Bool
  | .list _ | .dict _ => false
  | .tuple ds => flatAll ds
  | _ => true
def flatAll : List PyData → Bool
  | [] => true
  | d :: ds => flatD d && flatAll ds
end
mutual
theorem Dx.tu {S : List Addr} {H : Hp} : ∀ {v : V} {d : PyData}, Dx S H v d → flatD d = true → Tu H v d
  | _, _, .non, _ => .non
  | _, _, .bl b, _ => .bl b
  | _, _, .int i, _ => .int i
  | _, _, .str z, _ => .str z
  | _, _, .lst n h r, e => by simp [flatD] at e
  | _, _, .tup n h r, e => .tup h (DxA.tu r (by simpa [flatD] using e))
  | _, _, .dic n h, e => by simp [flatD] at e
theorem DxA.tu {S : List Addr} {H : Hp} : ∀ {v : List V} {d : List PyData}, DxA S H v d → flatAll d = true → TuA H v d
  | _, _, .nil, _ => .nil
  | _, _, @DxA.cons _ _ v vs d ds h t, e => by
    have e2 : flatD d = true ∧ flatAll ds = true := by simpa [flatAll] using e
    exact .cons (Dx.tu h e2.1) (DxA.tu t e2.2)
end
theorem Nw.tu {H H' : Hp} {v : V} {d : PyData} (h : Nw H H' v d) (e : flatD d = true) : Tu H' v d := (h [] fun s z => by cases z).tu e
theorem TuA.len {H : Hp} : ∀ {vs : List V} {ds : List PyData}, TuA H vs ds → vs.length = ds.length
  | _, _, .nil => rfl
  | _, _, .cons _ t => by rw [List.length_cons, List.length_cons, TuA.len t]
theorem TuA.get {H : Hp} : ∀ {vs : List V} {ds : List PyData} {i : Nat} {v : V}, TuA H vs ds → vs[i]? = some v → ∃ d, ds[i]? = some d ∧ Tu H v d
  | _, _, _, _, .nil, h => by cases h
  | _, _, 0, _, .cons a _, h => by cases h; exact ⟨_, rfl, a⟩
  | _, _, i + 1, _, .cons _ t, h => TuA.get (i := i) t (by simpa using h)
theorem TuA.get' {H : Hp} : ∀ {vs : List V} {ds : List PyData} {i : Nat} {d : PyData}, TuA H vs ds → ds[i]? = some d → ∃ v, vs[i]? = some v ∧ Tu H v d
  | _, _, _, _, .nil, h => by cases h
  | _, _, 0, _, .cons a _, h => by cases h; exact ⟨_, rfl, a⟩
  | _, _, i + 1, _, .cons _ t, h => TuA.get' (i := i) t (by simpa using h)
theorem TuA.app {H : Hp} : ∀ {vs ws : List V} {ds es : List PyData}, TuA H vs ds → TuA H ws es → TuA H (vs ++ ws) (ds ++ es)
  | _, _, _, _, .nil, h => h
  | _, _, _, _, .cons a t, h => .cons a (TuA.app t h)
theorem TuA.set {H : Hp} {v : V} {d : PyData} (h : Tu H v d) : ∀ {vs : List V} {ds : List PyData} (i : Nat), TuA H vs ds → TuA H (vs.set i v) (ds.set i d)
  | _, _, _, .nil => .nil
  | _, _, 0, .cons _ t => .cons h t
  | _, _, i + 1, .cons a t => .cons a (TuA.set h i t)
theorem TuA.drop {H : Hp} : ∀ {vs : List V} {ds : List PyData} (n : Nat), TuA H vs ds → TuA H (vs.drop n) (ds.drop n)
  | _, _, 0, h => h
  | _, _, _ + 1, .nil => .nil
  | _, _, n + 1, .cons _ t => TuA.drop n t
theorem TuA.take {H : Hp} : ∀ {vs : List V} {ds : List PyData} (n : Nat), TuA H vs ds → TuA H (vs.take n) (ds.take n)
  | _, _, 0, _ => .nil
  | _, _, _ + 1, .nil => .nil
  | _, _, n + 1, .cons a t => .cons a (TuA.take n t)
/-- the net's lamps in the heap -/
theorem tnet_at {H : Hp} {v : V} {N : Net} (h : Tu H v (netD N)) : ∃ (a : Addr) (xs : List V), v = .ref a ∧ H a = some (.tup xs) ∧ xs.length = N.length ∧ ∀ (i : Nat) (p : Int × Option Nat), N[i]? = some p → ∃ l, xs[i]? = some (V.ref l) ∧ H l = some (.tup [V.int p.1, nxV p.2]) := by
  obtain ⟨a, xs, e, _, h1, h2, h3⟩ := net_at h.dx0
  exact ⟨a, xs, e, h1, h2, fun i p hp => let ⟨l, q1, _, q2⟩ := h3 i p hp; ⟨l, q1, q2⟩⟩

structure Bag (H : Hp) (c : Addr) (ps : List Addr) (css : List (List Nat)) : Prop where
  top : H c = some (.lst (ps.map V.ref))
  nd : (c :: ps).Nodup
  len : ps.length = css.length
  at_ : ∀ (i : Nat) p g, ps[i]? = some p → css[i]? = some g → H p = some (.lst (natV g))
theorem Bag.kp {S : List Addr} {H H1 : Hp} {c : Addr} {ps : List Addr} {css : List (List Nat)} (b : Bag H c ps css) (k : Kp S H H1) (hc : ∀ x ∈ c :: ps, x ∉ S) : Bag H1 c ps css :=
  ⟨k.lst (hc c List.mem_cons_self) b.top, b.nd, b.len, fun i p g hp hg => k.lst (hc p (List.mem_cons_of_mem _ (List.mem_of_getElem? hp))) (b.at_ i p g hp hg)⟩
theorem Bag.tr {H : Hp} {c : Addr} {ps : List Addr} {css : List (List Nat)} (b : Bag H c ps css) : ∀ x ∈ c :: ps, H x ≠ none := fun x hx => by
  rcases List.mem_cons.mp hx with rfl | hx
  · rw [b.top]; exact fun z => by cases z
  · obtain ⟨i, hi, e⟩ := List.getElem_of_mem hx
    have h1 : ps[i]? = some x := by rw [List.getElem?_eq_getElem hi, e]
    have h2 : css[i]? = some (css[i]'(by rw [← b.len]; exact hi)) := List.getElem?_eq_getElem _
    rw [b.at_ i x _ h1 h2]; exact fun z => by cases z
theorem Bag.get {H : Hp} {c : Addr} {ps : List Addr} {css : List (List Nat)} (b : Bag H c ps css) {i : Nat} (hi : i < css.length) : ∃ p g, css[i]? = some g ∧ ps[i]? = some p ∧ (ps.map V.ref)[i]? = some (V.ref p) ∧ H p = some (.lst (natV g)) ∧ p ∈ ps := by
  have h1 : ps[i]? = some (ps[i]'(by rw [b.len]; exact hi)) := List.getElem?_eq_getElem _
  have h2 : css[i]? = some css[i] := List.getElem?_eq_getElem hi
  exact ⟨_, _, h2, h1, by rw [List.getElem?_map, h1]; rfl, b.at_ i _ _ h1 h2, List.getElem_mem _⟩
theorem nodup_get {α : Type} {l : List α} (h : l.Nodup) {i j : Nat} {x : α} (hi : l[i]? = some x) (hj : l[j]? = some x) : i = j := by
  exact (List.getElem?_inj (List.getElem?_eq_some_iff.mp hi).1 h).mp (hi.trans hj.symm)
theorem Bag.put {H : Hp} {c : Addr} {ps : List Addr} {css : List (List Nat)} (b : Bag H c ps css) {i : Nat} {p : Addr} (hp : ps[i]? = some p) (g : List Nat) : Bag (upd H p (.lst (natV g))) c ps (css.set i g) := by
  have hcp : c ≠ p := fun e => (List.nodup_cons.mp b.nd).1 (e ▸ List.mem_of_getElem? hp)
  refine ⟨by rw [upd_ne hcp]; exact b.top, b.nd, by rw [List.length_set]; exact b.len, fun j q u hq hu => ?_⟩
  by_cases e : j = i
  · subst e
    rw [hp] at hq
    cases hq
    rw [List.getElem?_set_self (by have := (List.getElem?_eq_some_iff.mp hp).1; have := b.len; omega)] at hu
    cases hu
    exact upd_same
  · rw [List.getElem?_set_ne (fun z => e z.symm)] at hu
    have hqp : q ≠ p := fun z => e (nodup_get (List.nodup_cons.mp b.nd).2 (z ▸ hq) hp)
    rw [upd_ne hqp]
    exact b.at_ j q u hq hu
/-- one more list, empty -/
theorem Bag.more {H : Hp} {c : Addr} {ps : List Addr} {css : List (List Nat)} (b : Bag H c ps css) {p : Addr} (np : H p = none) : Bag (upd (upd H p (.lst [])) c (.lst (ps.map V.ref ++ [.ref p]))) c (ps ++ [p]) (css ++ [[]]) := by
  have hpc : ∀ x ∈ c :: ps, x ≠ p := fun x hx e => b.tr x hx (e ▸ np)
  refine ⟨by rw [upd_same, List.map_append]; rfl, ?_, by rw [List.length_append, List.length_append, b.len]; rfl, fun i q g hq hg => ?_⟩
  · rw [← List.cons_append, List.nodup_append]
    exact ⟨b.nd, by simp, fun x hx y hy => by rw [List.mem_singleton.mp hy]; exact hpc x hx⟩
  · have hqc : q ≠ c := fun e => by
      rcases List.mem_append.mp (List.mem_of_getElem? hq) with z | z
      · exact (List.nodup_cons.mp b.nd).1 (e ▸ z)
      · exact hpc c List.mem_cons_self (e ▸ List.mem_singleton.mp z)
    rw [upd_ne hqc]
    by_cases hi : i < ps.length
    · rw [List.getElem?_append_left hi] at hq
      rw [List.getElem?_append_left (by rw [← b.len]; exact hi)] at hg
      rw [upd_ne (hpc q (List.mem_cons_of_mem _ (List.mem_of_getElem? hq)))]
      exact b.at_ i q g hq hg
    · have e : i = ps.length := by
        have := (List.getElem?_eq_some_iff.mp hq).1
        rw [List.length_append] at this
        simp at this
        omega
      subst e
      rw [List.getElem?_append_right (Nat.le_refl _), Nat.sub_self] at hq
      rw [b.len, List.getElem?_append_right (Nat.le_refl _), Nat.sub_self] at hg
      cases hq
      cases hg
      exact upd_same
mutual
def wdB : PyData → Bool
  | .list ds | .tuple ds => decide (ds.length < 100000) && wdAll ds
  | _ => true
def wdAll : List PyData → Bool
  | [] => true
  | d :: ds => wdB d && wdAll ds
end
theorem wd_len : 100000 < sizeLine := by rw [sizeLine_eq]; decide
theorem wd_mem {d : PyData} : ∀ {ds : List PyData}, wdAll ds = true → d ∈ ds → wdB d = true
  | [], _, h => by cases h
  | e :: ds, h, hm => by
    have h2 : wdB e = true ∧ wdAll ds = true := by simpa [wdAll] using h
    rcases List.mem_cons.mp hm with rfl | hm
    · exact h2.1
    · exact wd_mem h2.2 hm
theorem wd_map {α : Type} {f : α → PyData} (h : ∀ a, wdB (f a) = true) : ∀ xs : List α, wdAll (xs.map f) = true
  | [] => rfl
  | x :: r => by
    show (wdB (f x) && wdAll (r.map f)) = true
    rw [h x, wd_map h r]; rfl
theorem wd_list {ds : List PyData} (h : ds.length < 100000) (h2 : wdAll ds = true) : wdB (.list ds) = true := by
  show (decide _ && wdAll ds) = true
  rw [decide_eq_true h, h2]; rfl

def srt (g : List Nat) : List Nat := g.mergeSort
theorem srt_perm (g : List Nat) : (srt g).Perm g := List.mergeSort_perm g _
theorem srt_up (g : List Nat) : (srt g).Pairwise (· ≤ ·) := by
  have := List.pairwise_mergeSort (le := fun a b : Nat => decide (a ≤ b)) (fun a b c h1 h2 => by simp at *; omega) (fun a b => by simp; omega) g
  exact this.imp fun h => by simpa using h
theorem srt_len (g : List Nat) : (srt g).length = g.length := (srt_perm g).length_eq
end Em

namespace Em
open PySem PySem.Spec PyProof.Rows L2 Qt

/-- how long a lamp burns -/
def burnOf (N : Net) (x : Nat) : Int := (N.getD x (1, none)).1
theorem burnOf_get {N : Net} {x : Nat} {p : Int × Option Nat} (h : N[x]? = some p) : burnOf N x = p.1 := by
  unfold burnOf
  rw [List.getD_eq_getElem?_getD, h]
  rfl
abbrev Lt := Option (Nat × Nat)
inductive Row where
  | ended (b k f : Nat)
  | lit (b k f : Nat)
  | lost (b k f g : Nat)
def rowD : Row → PyData
  | .ended b k f => .tuple [.str "ended", .int b, .int k, .int f]
  | .lit b k f => .tuple [.str "lit", .int b, .int k, .int f]
  | .lost b k f g => .tuple [.str "lost", .int b, .int k, .int f, .int g]
def Row.at_ : Row → Nat
  | .ended b _ _ | .lit b _ _ | .lost b _ _ _ => b
def lightD : Lt → PyData
  | none => .none
  | some (f, t) => .tuple [.int f, .int t]
def waitD (p : Nat × Nat) : PyData := .tuple [.int p.1, .int p.2]
structure Dk where
  L : List Lt
  css : List (List Nat)
  rows : List Row
def darkK (N : Net) (b k : Nat) (s : Dk) : Dk :=
  match s.L.getD k none with
  | none => s
  | some (f, t) => if (b : Int) < (t : Int) + burnOf N k then s else
    match nxt N k with
    | none => ⟨s.L.set k none, s.css, s.rows ++ [.ended b k f]⟩
    | some y => ⟨s.L.set k none, s.css.set y (s.css.getD y [] ++ [f]), s.rows⟩
def darkN (N : Net) (b : Nat) : Nat → Dk → Dk
  | 0, s => s
  | k + 1, s => darkK N b k (darkN N b k s)
def addK (css : List (List Nat)) (p : Nat × Nat) : List (List Nat) := css.set p.2 (css.getD p.2 [] ++ [p.1])
def addW (css : List (List Nat)) (W : List (Nat × Nat)) : List (List Nat) := W.foldl addK css
def meet (b k : Nat) : Lt → List Nat → Lt × List Row
  | some (g, t), fs => (some (g, t), fs.map fun f => .lost b k f g)
  | none, [] => (none, [])
  | none, f :: r => (some (f, b), .lit b k f :: r.map fun g => .lost b k g f)
structure Ms where
  L : List Lt
  rows : List Row
def meetK (b : Nat) (css : List (List Nat)) (k : Nat) (s : Ms) : Ms :=
  ⟨s.L.set k (meet b k (s.L.getD k none) (srt (css.getD k []))).1, s.rows ++ (meet b k (s.L.getD k none) (srt (css.getD k []))).2⟩
def meetN (b : Nat) (css : List (List Nat)) : Nat → Ms → Ms
  | 0, s => s
  | k + 1, s => meetK b css k (meetN b css k s)
def darkA (N : Net) (b : Nat) (L : List Lt) : Dk := darkN N b N.length ⟨L, List.replicate N.length [], []⟩
def beatA (N : Net) (b : Nat) (L : List Lt) (W : List (Nat × Nat)) : Ms :=
  meetN b (addW (darkA N b L).css W) N.length ⟨(darkA N b L).L, (darkA N b L).rows⟩

def tot (css : List (List Nat)) : Nat := (css.map List.length).sum
theorem meet_len (b k : Nat) (l : Lt) (fs : List Nat) : (meet b k l fs).2.length = fs.length := by
  cases l with
  | some p => simp [meet]
  | none => cases fs <;> simp [meet]
theorem meetK_len (b : Nat) (css : List (List Nat)) (k : Nat) (s : Ms) : (meetK b css k s).L.length = s.L.length ∧ (meetK b css k s).rows.length = s.rows.length + (css.getD k []).length := by
  refine ⟨List.length_set, ?_⟩
  show (s.rows ++ (meet b k (s.L.getD k none) (srt (css.getD k []))).2).length = _
  rw [List.length_append, meet_len, srt_len]
theorem meetN_len (b : Nat) (css : List (List Nat)) (s : Ms) : ∀ k, (meetN b css k s).L.length = s.L.length ∧ (meetN b css k s).rows.length ≤ s.rows.length + tot (css.take k)
  | 0 => ⟨rfl, Nat.le_add_right _ _⟩
  | k + 1 => by
    obtain ⟨a1, a2⟩ := meetN_len b css s k
    obtain ⟨b1, b2⟩ := meetK_len b css k (meetN b css k s)
    refine ⟨b1.trans a1, ?_⟩
    show (meetK b css k (meetN b css k s)).rows.length ≤ _
    rw [b2]
    by_cases hk : k < css.length
    · have e : tot (css.take (k + 1)) = tot (css.take k) + (css.getD k []).length := by
        rw [List.take_add_one, List.getElem?_eq_getElem hk]
        unfold tot
        rw [List.map_append, List.sum_append, List.getD_eq_getElem?_getD, List.getElem?_eq_getElem hk]
        simp
      omega
    · have e1 : css.getD k [] = [] := by rw [List.getD_eq_getElem?_getD, List.getElem?_eq_none (by omega)]; rfl
      have e2 : css.take (k + 1) = css.take k := by rw [List.take_of_length_le (by omega), List.take_of_length_le (by omega)]
      rw [e1, e2]
      simpa using a2
end Em

namespace Em
open PySem PySem.Spec PyProof.Rows L2 Qt
open AutoSeq1 (wpAny_loadPart')

/-- (a, b, ..) = t within a comprehension, the written part told -/
theorem pg_tupK {X : Cx} {K : PySem.W.Frag} (e : X.K = K) {es : List Expr} {k : Nat} {t : TGs} {n : Nat} {pos : Pos} (hc : X.calm = true) (h : PGs X es t)
    (hn : (assignEach es X.env).length = n := by rfl) (hst : (assignEach es X.env).findIdx? (·.1) = none := by rfl) : PG X (.Tuple es k pos) (gTup K n t) := e ▸ pg_tup hc h hn hst

section
variable {P : Program} {w : World} {A : Around} {E : Value → Shared → Prop} {s : Shared}
end
end Em

namespace Em
open PySem PySem.Spec PyProof.Rows L2 Qt

mutual
def okD : PyData → Bool
  | .none | .bool _ => true
  | .int i => decide (i.natAbs < 10 ^ 60)
  | .str z => (z.cps.toList.all fun c => decide (c < 16 ^ 8)) && decide (z.cps.size ≤ 7)
  | .list xs | .tuple xs => okAll xs
  | .dict _ => false
def okAll : List PyData → Bool
  | [] => true
  | x :: xs => okD x && okAll xs
end
mutual
theorem okD_show : ∀ d : PyData, okD d = true → d.showable = true ∧ d.leavesShort 61 = true
  | .none, _ => ⟨rfl, rfl⟩
  | .bool b, _ => ⟨rfl, rfl⟩
  | .int i, h => small_int (of_decide_eq_true (by simpa only [okD] using h))
  | .str z, h => ⟨rfl, (Bool.and_eq_true_iff.mp (show ((z.cps.toList.all fun c => decide (c < 16 ^ 8)) && decide (z.cps.size ≤ 7)) = true from h)).1⟩
  | .list xs, h => by
    have := okAll_show xs (by simpa only [okD] using h)
    simpa only [PyData.showable, PyData.leavesShort] using this
  | .tuple xs, h => by
    have := okAll_show xs (by simpa only [okD] using h)
    simpa only [PyData.showable, PyData.leavesShort] using this
  | .dict kvs, h => by cases h
theorem okAll_show : ∀ ds : List PyData, okAll ds = true → PyData.showableAll ds = true ∧ PyData.leavesShortAll 61 ds = true
  | [], _ => ⟨rfl, rfl⟩
  | d :: ds, h => by
    have h2 : okD d = true ∧ okAll ds = true := by simpa only [okAll, Bool.and_eq_true] using h
    obtain ⟨a1, a2⟩ := okD_show d h2.1
    obtain ⟨b1, b2⟩ := okAll_show ds h2.2
    exact ⟨by simp only [PyData.showableAll, a1, b1, Bool.and_self], by simp only [PyData.leavesShortAll, a2, b2, Bool.and_self]⟩
end
mutual
theorem okD_noDict : ∀ d : PyData, okD d = true → d.hasDict = false
  | .none, _ => rfl
  | .bool b, _ => rfl
  | .int i, _ => rfl
  | .str z, _ => rfl
  | .list xs, h => by simpa only [PyData.hasDict] using okAll_noDict xs (by simpa only [okD] using h)
  | .tuple xs, h => by simpa only [PyData.hasDict] using okAll_noDict xs (by simpa only [okD] using h)
  | .dict kvs, h => by cases h
theorem okAll_noDict : ∀ ds : List PyData, okAll ds = true → PyData.hasDictAll ds = false
  | [], _ => rfl
  | d :: ds, h => by
    have h2 : okD d = true ∧ okAll ds = true := by simpa only [okAll, Bool.and_eq_true] using h
    simp only [PyData.hasDictAll, okD_noDict d h2.1, okAll_noDict ds h2.2, Bool.or_self]
end
mutual
/-- how many parts -/
def szD : PyData → Nat
  | .list xs | .tuple xs => szAll xs
  | _ => 0
def szAll : List PyData → Nat
  | [] => 0
  | x :: xs => szD x + 1 + szAll xs
end
mutual
theorem shown_sz : ∀ d : PyData, okD d = true → d.shown.length ≤ 80 * szD d + 75
  | .none, _ => by decide
  | .bool b, _ => by cases b <;> decide
  | .int i, h => Nat.le_trans (small_shown (of_decide_eq_true (by simpa only [okD] using h))) (by omega)
  | .str z, h => by
    obtain ⟨h1, h2⟩ := Bool.and_eq_true_iff.mp (show ((z.cps.toList.all fun c => decide (c < 16 ^ 8)) && decide (z.cps.size ≤ 7)) = true from h)
    have e := StrLaws.reprText_len z (by simpa only [List.all_eq_true, decide_eq_true_eq] using h1)
    have h3 := of_decide_eq_true h2
    have e2 : z.length = z.cps.size := rfl
    show (reprText z).length ≤ _
    omega
  | .list xs, h => by
    have h1 := shownAll_sz xs (by simpa only [okD] using h)
    have h2 := listText_len_le (PyData.shownAll xs)
    have h3 := PyData.shownAll_length xs
    simp only [PyData.shown, szD]
    omega
  | .tuple xs, h => by
    have h1 := shownAll_sz xs (by simpa only [okD] using h)
    have h2 := tupleText_len_le (PyData.shownAll xs)
    have h3 := PyData.shownAll_length xs
    simp only [PyData.shown, szD]
    omega
  | .dict kvs, h => by cases h
theorem shownAll_sz : ∀ xs : List PyData, okAll xs = true → ((PyData.shownAll xs).map (·.length)).sum + 2 * xs.length ≤ 80 * szAll xs
  | [], _ => Nat.le_refl _
  | x :: xs, h => by
    have h2 : okD x = true ∧ okAll xs = true := by simpa only [okAll, Bool.and_eq_true] using h
    have a := shown_sz x h2.1
    have b := shownAll_sz xs h2.2
    simp only [PyData.shownAll, szAll, List.map_cons, List.sum_cons, List.length_cons]
    omega
end
structure Fit (w k : Nat) (d : PyData) : Prop where
  ok : okD d = true
  wt : szD d ≤ w
  dp : d.depth ≤ k
theorem Fit.mono {w k w' k' : Nat} {d : PyData} (h : Fit w k d) (hw : w ≤ w') (hk : k ≤ k') : Fit w' k' d := ⟨h.ok, Nat.le_trans h.wt hw, Nat.le_trans h.dp hk⟩
theorem Fit.shown {w k : Nat} {d : PyData} (h : Fit w k d) (hw : w ≤ 200000) : d.showable = true ∧ d.shown.length ≤ sizeLine := by
  obtain ⟨h1, h2⟩ := okD_show d h.ok
  refine ⟨h1, ?_⟩
  have h4 := shown_sz d h.ok
  have h5 := h.wt
  rw [sizeLine_eq]
  omega
section
variable {X : Cx}
end
theorem Dx.newL {S : List Addr} {H : Hp} {p : Addr} {xs : List V} {ds : List PyData} (hS : ∀ s ∈ S, H s ≠ none) (np : H p = none) (h : DxA S H xs ds) : Dx S (upd H p (.lst xs)) (.ref p) (.list ds) :=
  .lst (fun z => hS p z np) upd_same (h.kp (Kp.new (S := []) np) fun _ z => by cases z)
structure Shows (d : PyData) : Prop where
  pl : d.hasDict = false ∨ d = .dict []
  sh : d.showable = true
  dp : d.depth < 150
  ln : d.shown.length ≤ sizeLine
end Em

namespace Em
open PySem PySem.Spec PyProof.Rows L2 Qt

def beatB : PyData → Bool
  | .int i => !decide (i < 0)
  | _ => false
def sparkB (m : Nat) : PyData → Bool
  | .tuple [b, l] => beatB b && numB m l
  | _ => false
def sparksB (m : Nat) : PyData → Bool
  | .list ds => !decide ((40 : Int) < (ds.length : Int)) && (ds.map (sparkB m)).all id
  | _ => false
abbrev Sparks := List (Int × Nat)
def sparkD (p : Int × Nat) : PyData := .tuple [.int p.1, .int (p.2 : Nat)]
structure SpOk (m : Nat) (L : Sparks) : Prop where
  len : L.length ≤ 40
  lo : ∀ p ∈ L, 0 ≤ p.1
  hi : ∀ p ∈ L, p.1 < 10 ^ 60
  at_ : ∀ p ∈ L, p.2 < m
section
variable {X : Cx} {es : List Expr} {t : TA} {pos : Pos}
end
end Em

namespace Qt
open PySem PySem.Spec PyProof.Rows L2

theorem q_ixT {c : Qc} {k : Nat} {env : Env} {N : Nm} {a b : Expr} {pos : Pos} {p : Addr} {xs : List V} {j : Nat} {v : V} (ha : QE c k env N a (.ref p)) (hb : QE c k env N b (.int j)) (ht : TupQ c p xs) (hx : xs[j]? = some v)
    (hs : PlainIx b := by intro _ _; rfl) : QE c k env N (.Subscript a b pos) v := by
  intro A E Q s r i h
  refine Subscript_ (ha A E _ s r i fun u g tk ru up => hb A E _ _ r (i.more up) fun u2 g2 tk2 r2 up2 => ?_)
  cases ru
  obtain ⟨t, rfl⟩ := r2
  obtain ⟨its, rv, hT, hz⟩ := ht
  obtain ⟨w, hw, rw_⟩ := rv.get hx
  have hup := i.up.tr (up.tr up2)
  have hT2 := isTup_up hup hT
  have hl := rv.length
  have hj := (List.getElem?_eq_some_iff.mp hx).1
  have hn := line63
  have fin : Q w { s with heap := g2, toks := tk2 } := h w g2 tk2 rw_ (up.tr up2)
  have e1 : seqIndex? (j : Int) its.toArray.size = some j := by
    rw [seqIndex_of (by omega) (by rw [List.size_toArray]; omega)]
    rfl
  exact subscriptTail_builtinR (x := w) hT2.typeIs slot_tuple_getitem.lookup
    (getItem_tuple (j := j) (Q := fun r s' => r = w ∧ Q r s') hT2 (by omega) (by omega) e1 (by simpa using hw) ⟨rfl, fin⟩) (hs _ _)

section
variable {X : Cx} {pins : List (Addr × Obj)} {σ : L2.St} {H : Hp} {s : Shared}
/-- what the element of a generator expression is, for the item xv: any value -/
def EltV (X : Cx) (kk : Nat) (scope : Scope) (x : Str) (elt : Expr) (caps : Nm) (Hw : Hp) (xs : List V) (bs : List V) : Prop :=
  bs.length = xs.length ∧ ∀ (hd : Heap) (env : Env), (Qc.mk X.prog X.w X.K X.mg Hw hd).Ok → env.scope = scope → ∀ (j : Nat) (xv : V) (b : V), xs[j]? = some xv → bs[j]? = some b → QE ⟨X.prog, X.w, X.K, X.mg, Hw, hd⟩ kk env ((x, xv) :: caps) elt b
/-- the generator g is made, to be gone through -/
def MadeV (X : Cx) (pins : List (Addr × Obj)) (σ : L2.St) (H1 : Hp) (P : Addr) (xs : List V) (bs : List V) (g : Addr) (s5 : Shared) : Prop :=
  ∃ (fp wr : List Addr) (G : Array GenState → Array GenState → Prop) (F : Nat → Value → Prop) (St : Nat → Shared → Prop),
    WalksS X.prog X.w X.A.in1 g fp wr G bs.length F St ∧ St 0 s5 ∧ (∀ i y, F i y → ∃ b, bs[i]? = some b ∧ RelV b y) ∧ (∀ z ∈ fp, z < s5.heap.objs.size) ∧ ∀ s', Moved wr G s5 s' → ∃ H2, GxR.Tabbed P H1 H2 ∧ Inv X pins σ H2 s'

/-- the generator g is made, to be gone through from within what is called with it -/
def MadeW (X : Cx) (pins : List (Addr × Obj)) (σ : L2.St) (H1 : Hp) (P : Addr) (xs : List V) (bs : List V) (g : Addr) (s5 : Shared) : Prop :=
  ∃ (fp wr : List Addr) (G : Array GenState → Array GenState → Prop) (F : Nat → Value → Prop) (St : Nat → Shared → Prop),
    WalksS X.prog X.w X.A.in4 g fp wr G bs.length F St ∧ St 0 s5 ∧ (∀ i s, St i s → s.TypeIs (.ref g) "generator") ∧ g ∈ fp ∧ (∀ i y, F i y → ∃ b, bs[i]? = some b ∧ RelV b y) ∧ (∀ z ∈ fp, z < s5.heap.objs.size) ∧ ∀ s', Moved wr G s5 s' → ∃ H2, GxR.Tabbed P H1 H2 ∧ Inv X pins σ H2 s'
theorem MadeW.v {H1 : Hp} {P g : Addr} {xs bs : List V} {s5 : Shared} (h : MadeW X pins σ H1 P xs bs g s5) : MadeV X pins σ H1 P xs bs g s5 := by
  obtain ⟨fp, wr, G, F, St, h1, h2, _, _, h5, h6, h7⟩ := h
  exact ⟨fp, wr, G, F, St, h1.in4_1, h2, h5, h6, h7⟩

theorem gen_madeW {c P : Addr} {elt iter : Expr} {x : Str} {px gpos : Pos} {scope : Scope} {te : TE} {k : Nat} {Z : Value → Shared → Prop} {R : List V → List V → Hp → Prop}
    (rm : Room (k + 2) X.A) (TB : GxR.TabB X.base X.mg c P) (hcode : X.env.code = .ref c) (GS : GxR.GenS X.env scope x) (hi : PE X iter te)
    (hs : ∀ v, genFold iter X.env v = pure v) (I : Inv X pins σ H s)
    (h : te σ H fun v H1 => ∃ (ad : Addr) (xs : List V) (bs : List V) (caps : Nm), v = .ref ad ∧ (SqT X.K H1 ad xs ∨ SqL X.K H1 ad xs) ∧ GxR.TabG H1 P ∧ Caps X scope x σ caps ∧ EltV X (3 * k) scope x elt caps (wipe H1 P) xs bs ∧ R xs bs H1)
    (hZ : ∀ xs bs H1 g s5, R xs bs H1 → MadeW X pins σ H1 P xs bs g s5 → Z (.ref g) s5) :
    wpAny (model X.prog X.w) X.A (eval (.GeneratorExp elt [⟨.Name x px, iter, [], 0⟩] scope gpos) X.env) Z X.xe s := by
  have hdp := rm.dp
  refine wpAny_GeneratorExp_walksQD rm.hd GS.co (closure_ok GS.free) GS.cell GS.dot GS.loc GS.kind rm.depth ?_ hs
  refine thn (hi.run pins s σ H _ I h) fun xv s1 hx => ?_
  obtain ⟨v, H1, I1, r1, ad, xs, bs, caps, ev, hsq, ⟨ps, hP, htr⟩, hcap, hel, hR⟩ := hx
  subst ev
  obtain rfl : xv = Value.ref ad := r1
  obtain ⟨its, o, St, rv, S, hno⟩ := seq_src I1 hsq
  have hlen : its.length = xs.length := rv.length.symm
  have hPs : s1.heap.get? P = some { cls := .none, data := .fields ps } := I1.hok P _ hP
  have hPlt : P < s1.heap.objs.size := Heap.lt_size hPs
  have adP : ad ≠ P := by
    rintro rfl
    rcases hsq with hq | hq
    · obtain ⟨_, _, ⟨ob, e, ec, _⟩, _⟩ := I1.tuple hq
      rw [hPs] at e
      cases e
      cases ec
    · obtain ⟨_, _, hl, _⟩ := I1.list hq
      obtain ⟨ob, _, e, ec, _⟩ := id hl
      rw [hPs] at e
      cases e
      cases ec
  refine S.iter _ _ _ _ rfl ?_
  have push_ok : ∀ b u, s1.heap.get? b = some u → (s1.heap.push o).get? b = some u := fun b u e => Heap.get?_push_of_some _ e
  have hPo := push_ok P _ hPs
  have lim2 : (s1.heap.push o).NoLimit := I1.nolimit.push o
  have cd : PySem.W.CodeHd (s1.heap.push o) c P := TB.code.keeps fun b u e => push_ok b u (I1.bk b u e)
  have go : ∀ (code : Value) (h3 : Heap) (tk : Nat) (ps' : Array Value), Heap.ExtBut P (s1.heap.push o) h3 → (s1.heap.push o).objs.size ≤ h3.objs.size → h3.get? P = some { cls := .none, data := .fields ps' } → (∃ more, ps' = ps ++ more) → TriplesOk ps'.toList →
      wpAny (model X.prog X.w) X.A (builtinsFor X.env.globals X.env.builtins) (fun bi s₄ =>
        ∃ Ia fp wr n₀ Pf St₀ pz F, Value.ref s1.heap.objs.size = .ref Ia ∧ (∀ A' : Around, A'.handled = none → Walks X.prog X.w A' Ia fp wr n₀ Pf St₀) ∧ St₀ 0 s₄.heap ∧ (∀ b ∈ fp, b < s₄.heap.objs.size) ∧ s₄.heap.NoLimit ∧ cStatics ∉ wr ∧
          (∀ hr : Heap, (∀ b u, s₄.heap.get? b = some u → hr.get? b = some u) →
            QuietGenD X.prog X.w (genEnv scope (cloFrom X.env.cells scope.names []) s₄.heap.objs.size code bi X.env) x [] elt (List.range s₄.heap.objs.size) wr Pf pz F hr (X.A.depth + 1) (X.A.units + 8)) ∧
          (∀ a h₅ tk gs, gs.bare = true → s₄.heap.objs.size < a → h₅.objs.size = a + 1 → (∀ b u, s₄.heap.get? b = some u → h₅.get? b = some u) →
            WalksS X.prog X.w X.A.in4 a (a :: s₄.heap.objs.size :: List.range s₄.heap.objs.size) (s₄.heap.objs.size :: wr) (GenOnlyQ s₄.gens.size) (passing pz n₀ 0).length
              (fun j y => ∃ i, (passing pz n₀ 0)[j]? = some i ∧ F i y) (GenAt X.prog X.w X.A.in4 a s₄.gens.size s₄.heap.objs.size (List.range s₄.heap.objs.size) wr pz n₀ F) →
            GenAt X.prog X.w X.A.in4 a s₄.gens.size s₄.heap.objs.size (List.range s₄.heap.objs.size) wr pz n₀ F 0 { s₄ with gens := s₄.gens.push gs, toks := tk, heap := h₅ } →
            Z (.ref a) { s₄ with gens := s₄.gens.push gs, toks := tk, heap := h₅ })) X.xe { s1 with heap := h3, toks := tk } := by
    intro code h3 tk ps' hx hsz hP3 hmore ht3
    obtain ⟨bm, ob, e1, e2, e3, e4, e5, e6, e7, e8⟩ := TB.bm
    have szo : (s1.heap.push o).objs.size = s1.heap.objs.size + 1 := Heap.size_push ..
    have k3 : ∀ b u, b ≠ P → s1.heap.get? b = some u → h3.get? b = some u := fun b u hb e => hx b u hb (push_ok b u e)
    have hcP : cStatics ≠ P := by
      rintro rfl
      obtain ⟨_, hns, _⟩ := I1.nolimit
      obtain ⟨o', es, ep, ho, hd, _⟩ := hns
      rw [hPs] at ho
      cases ho
      cases hd
    have hcl : cStatics < s1.heap.objs.size := let ⟨_, hns, _⟩ := I1.nolimit; hns.lt
    refine wpAny_builtinsFor (m := X.mg) (by rw [I1.ok.glob]; exact ((I1.mod.glob.keeps I1.bk).push o).extBut hx TB.gP) e1 e2 (k3 _ _ e4 (I1.bk _ _ e5)) e6 e7 e8 ?_
    have hi3 : s1.heap.objs.size < h3.objs.size := by omega
    refine ⟨s1.heap.objs.size, [s1.heap.objs.size, ad], [s1.heap.objs.size], its.toArray.size, (fun i v => its.toArray[i]? = some v), St s1.heap.objs.size, (fun _ => true), (fun i y => ∃ b, bs[i]? = some b ∧ RelV b y), rfl,
      fun A' hA => S.walks A' _ hA (Nat.ne_of_lt S.lt), ?_, ?_, lim2.extBut hx hcP, ?_, ?_, ?_⟩
    · refine S.st0 h3 fun b u hb e => hx b u (fun z => ?_) e
      rcases hb with hb | hb
      · exact adP (hb.symm.trans z)
      · exact Nat.ne_of_gt hPlt (hb.symm.trans z)
    · intro b hb
      simp only [List.mem_cons, List.not_mem_nil, or_false] at hb
      rcases hb with hb | hb
      · rw [hb]; exact hi3
      · rw [hb]; exact Nat.lt_trans S.lt hi3
    · intro z
      simp only [List.mem_cons, List.not_mem_nil, or_false] at z
      exact Nat.ne_of_lt hcl z
    · intro hr hhr
      obtain ⟨hd, g1, g2⟩ := restrict h3 fun b => decide (b ≠ s1.heap.objs.size)
      have old : ∀ b u, b ≠ P → s1.heap.get? b = some u → hd.get? b = some u := fun b u nb e => by
        rw [g1 b (decide_eq_true (Nat.ne_of_lt (Heap.lt_size e)))]
        exact k3 b u nb e
      have up3 : Up hd h3 := fun b u e => by
        by_cases hb : b = s1.heap.objs.size
        · rw [g2 b (by simp [hb])] at e
          cases e
        · rw [g1 b (decide_eq_true hb)] at e
          exact e
      have bP : ∀ b u, X.base.get? b = some u → b ≠ P := fun b u e z => by
        have q := (I1.bs b u e).2
        rw [z, hP] at q
        cases q
      have bup : ∀ b u, X.base.get? b = some u → hd.get? b = some u := fun b u e => old b u (bP b u e) (I1.bk b u e)
      have OK : (Qc.mk X.prog X.w X.K X.mg (wipe H1 P) hd).Ok := by
        obtain ⟨mb, q1, q2⟩ := I1.mod.blt
        refine ⟨I1.mod.kin.keeps bup, I1.mod.glob.keeps bup, ⟨mb, q1.keeps bup, q2⟩, I1.mod.nolimit.keeps bup, fun a u e => ?_⟩
        obtain ⟨na, e⟩ := wipe_of e
        have noP : ∀ b, H1 b = some (.own a) → b ≠ P := fun b q z => by
          rw [z, hP] at q
          cases q
        refine (I1.hok a u e).stay (fun b u' hb q => old b u' ?_ q) (fun b q => wipe_at (noP b q) q) (fun b ys q => wipe_at (fun z => ?_) q)
        · rcases hb with hb | hb
          · rw [hb]; exact na
          · exact noP b hb
        · rw [z, hP] at q
          cases q
      have seen : ∀ s₂ : Shared, (∀ b ∈ List.range h3.objs.size, b ∉ [s1.heap.objs.size] → ∀ u, hr.get? b = some u → s₂.heap.get? b = some u) → Up hd s₂.heap := fun s₂ hk b u e => by
        have h3e := up3 b u e
        refine hk b (List.mem_range.mpr (Heap.lt_size h3e)) (fun z => ?_) u (hhr b u h3e)
        have hb : b = s1.heap.objs.size := by simpa using z
        rw [g2 b (by simp [hb])] at e
        cases e
      refine ⟨fun A' E' i v s₂ m₂ hA _ _ hPv hn hm hk => ?_, fun A' E' i v s₂ m₂ hA hAd _ hPv hp hn hm hk => ?_⟩
      · simp only [List.forIn_nil]
        exact wpAny_pure ⟨rfl, GxR.keeps_refl _⟩
      · have hv2 : its[i]? = some v := by simpa using hPv
        have hix : i < xs.length := by rw [← hlen]; exact (List.getElem?_eq_some_iff.mp hv2).1
        obtain ⟨xv, hxv⟩ : ∃ xv, xs[i]? = some xv := ⟨xs[i], List.getElem?_eq_getElem hix⟩
        obtain ⟨u, hu, ru⟩ := rv.get hxv
        rw [hv2] at hu
        cases hu
        have at2 : At ⟨X.prog, X.w, X.K, X.mg, wipe H1 P, hd⟩ (genEnv scope (cloFrom X.env.cells scope.names []) h3.objs.size code builtinsNs X.env) ((x, xv) :: caps) s₂.heap := by
          have upS := seen s₂ hk
          refine ⟨upS, GS.kind, I1.ok.glob, rfl, m₂, hn, fun y vy hy => ?_⟩
          by_cases ey : y = x
          · subst ey
            have e9 : xv = vy := by simpa [List.lookup] using hy
            exact ⟨v, e9 ▸ ru, .inl ⟨GS.loc, hm⟩⟩
          · have ey' : (y == x) = false := by simpa using ey
            have hy2 : caps.lookup y = some vy := by simpa [List.lookup, ey'] using hy
            obtain ⟨_, hmem, hfr, j, hj, hσ, hcl2⟩ := hcap y vy hy2
            obtain ⟨m1, hn1, hloc⟩ := I1.loc
            obtain ⟨u9, r9, l9⟩ := hloc j y vy hj hσ (.inr (.inl hcl2))
            refine ⟨u9, r9, .inr ⟨.inr hfr, ?_⟩⟩
            rcases l9 with ⟨l9, _⟩ | ⟨_, ca, hca, hic⟩
            · have l8 : X.env.scope.names.lookup y = some .local := l9
              rw [hcl2] at l8
              cases l8
            · refine ⟨ca, NdefX.clo_has GS.free hmem hca, ?_⟩
              obtain ⟨oc, ec, rc⟩ := hic
              have nP : ca ≠ P := fun z => by
                have q := I1.freeC y ca hca
                rw [z, hP] at q
                cases q
              exact ⟨oc, upS _ _ (old _ _ nP ec), rc⟩
        obtain ⟨b, hb⟩ : ∃ b, bs[i]? = some b := ⟨bs[i]'(by rw [hel.1]; exact hix), List.getElem?_eq_getElem _⟩
        refine hel.2 hd _ OK rfl i xv b hxv hb A' E' _ s₂ ⟨hA, by omega⟩ at2 fun u9 g9 tk9 r9 up9 => ?_
        exact ⟨⟨b, hb, r9⟩, g9, tk9, rfl, up9⟩
    · intro g h5 tk5 gs hgb hag hsz5 hk5 W5 hgat
      simp only [GxR.passing_true, List.length_range] at W5
      have hn5 : its.toArray.size = bs.length := by rw [List.size_toArray, hlen, hel.1]
      rw [hn5] at W5 hgat
      refine hZ xs bs H1 g _ hR ⟨_, _, _, _, _, W5, hgat, fun _ _ st => st.1.typeIs, List.mem_cons_self, fun j y hy => ?_, fun z hz => ?_, fun s' hm => ?_⟩
      · obtain ⟨i, hij, b, hb1, hb2⟩ := hy
        obtain ⟨hj, ej⟩ := List.getElem?_eq_some_iff.mp hij
        rw [List.getElem_range] at ej
        subst ej
        exact ⟨b, hb1, hb2⟩
      · show z < h5.objs.size
        rw [hsz5]
        rcases List.mem_cons.mp hz with e | hz
        · rw [e]; exact Nat.lt_succ_self _
        · rcases List.mem_cons.mp hz with e | hz
          · rw [e]; exact Nat.lt_succ_of_lt hag
          · exact Nat.lt_succ_of_lt (Nat.lt_trans (List.mem_range.mp hz) hag)
      · obtain ⟨more, em⟩ := hmore
        have nwr : ∀ b u, s1.heap.get? b = some u → b ∉ h3.objs.size :: [s1.heap.objs.size] := fun b u e hb => by
          have hl := Heap.lt_size e
          simp only [List.mem_cons, List.not_mem_nil, or_false] at hb
          rcases hb with hb | hb
          · rw [hb] at hl
            exact absurd (Nat.lt_trans hl hi3) (Nat.lt_irrefl _)
          · rw [hb] at hl
            exact Nat.lt_irrefl _ hl
        have J := GxR.inv_tab (more := more) (h' := s'.heap) (g' := s'.gens) (d' := s'.drawn) (t' := s'.toks) I1 hP (fun b u hb e => hm.heap b u (nwr b u e) (hk5 b u (k3 b u hb e)))
          (by rw [← em]; exact hm.heap P _ (nwr P _ hPs) (hk5 P _ hP3)) (AllBare.movedS (I1.bare.push hgb) hm)
        rw [GxR.sh_eta s1 s' hm.os] at J
        exact ⟨upd H1 P (.tbl (ps ++ more)), ⟨⟨ps ++ more, upd_same, by rw [← em]; exact ht3⟩, fun b hb => upd_ne hb⟩, J⟩
  refine ⟨lim2, ?_⟩
  cases hf : codeAmong gpos ps.toList with
  | none =>
    refine wpAny_genexprCodeX hcode (cd.code hPo htr) (cd.tab hPo) hf fun c' h' tk hx hge hlt hco' _ htab' _ => ?_
    obtain ⟨_, _, _, _, _, _, _, _, _, _, _, _, _, _, _, _, _, _, _, htr', _⟩ := hco'
    exact go _ h' tk _ hx (Nat.le_trans hge (Nat.le_of_lt hlt)) htab'.2 ⟨_, rfl⟩ htr'
  | some cv =>
    refine wpAny_genexprCode_hit hcode (cd.code hPo htr) hf ?_
    exact go cv (s1.heap.push o) s1.toks ps (Heap.ExtBut.refl _ _) (Nat.le_refl _) hPo ⟨#[], by simp⟩ htr

theorem gen_madeV {c P : Addr} {elt iter : Expr} {x : Str} {px gpos : Pos} {scope : Scope} {te : TE} {k : Nat} {Z : Value → Shared → Prop} {R : List V → List V → Hp → Prop}
    (rm : Room (k + 2) X.A) (TB : GxR.TabB X.base X.mg c P) (hcode : X.env.code = .ref c) (GS : GxR.GenS X.env scope x) (hi : PE X iter te)
    (hs : ∀ v, genFold iter X.env v = pure v) (I : Inv X pins σ H s)
    (h : te σ H fun v H1 => ∃ (ad : Addr) (xs : List V) (bs : List V) (caps : Nm), v = .ref ad ∧ (SqT X.K H1 ad xs ∨ SqL X.K H1 ad xs) ∧ GxR.TabG H1 P ∧ Caps X scope x σ caps ∧ EltV X (3 * k) scope x elt caps (wipe H1 P) xs bs ∧ R xs bs H1)
    (hZ : ∀ xs bs H1 g s5, R xs bs H1 → MadeV X pins σ H1 P xs bs g s5 → Z (.ref g) s5) :
    wpAny (model X.prog X.w) X.A (eval (.GeneratorExp elt [⟨.Name x px, iter, [], 0⟩] scope gpos) X.env) Z X.xe s :=
  gen_madeW (R := R) rm TB hcode GS hi hs I h fun xs bs H1 g s5 hR hW => hZ xs bs H1 g s5 hR hW.v

/-- sum(.. for x in e), e a tuple or a list, the element a quiet int -/
def tSumQ (X : Cx) (P : Addr) (k : Nat) (scope : Scope) (x : Str) (elt : Expr) (te : TE) : TE := fun σ H Q => te σ H fun v H1 => ∃ (ad : Addr) (xs bs : List V) (caps : Nm), v = .ref ad ∧ (SqT X.K H1 ad xs ∨ SqL X.K H1 ad xs) ∧
  GxR.TabG H1 P ∧ Caps X scope x σ caps ∧ EltV X (3 * k) scope x elt caps (wipe H1 P) xs bs ∧ ∃ ns : List Int, bs = ns.map V.int ∧ ∀ H2, GxR.Tabbed P H1 H2 → Q (.int ns.sum) H2
theorem pe_sumQ {c P : Addr} {elt iter : Expr} {x : Str} {px p pos gpos : Pos} {scope : Scope} {te : TE} {k : Nat}
    (rm : Room (k + 2) X.A) (hg : Gl X "sum") (hm : X.mg "sum" = none) (TB : GxR.TabB X.base X.mg c P) (hcode : X.env.code = .ref c) (GS : GxR.GenS X.env scope x) (hi : PE X iter te)
    (hs : ∀ v, genFold iter X.env v = pure v) (hb : bootBuiltins "sum" = some (.builtin "sum") := by decide +kernel)
    (he : starEach [.GeneratorExp elt [⟨.Name x px, iter, [], 0⟩] scope gpos] X.env = (false, eval (.GeneratorExp elt [⟨.Name x px, iter, [], 0⟩] scope gpos) X.env) :: starEach [] X.env := by rfl) :
    PE X (.Call (.Name "sum" p) [.GeneratorExp elt [⟨.Name x px, iter, [], 0⟩] scope gpos] [] pos) (tSumQ X P k scope x elt te) := by
  refine ⟨fun pins s σ H Q I h => ?_⟩
  refine wpAny_Call_Name_kw (ld_blt I hg hm hb (PyProof.Rows.callWith_builtin1 ?_ he (by rfl)))
  rw [he]
  show wpAny _ X.A (spliced ((false, eval (.GeneratorExp elt [⟨.Name x px, iter, [], 0⟩] scope gpos) X.env) :: backTo pos (starEach [] X.env))) _ X.xe s
  refine Calls.spliced_cons (gen_madeV (R := fun xs bs H1 => ∃ ns : List Int, bs = ns.map V.int ∧ ∀ H2, GxR.Tabbed P H1 H2 → Q (.int ns.sum) H2) rm TB hcode GS hi hs I h fun xs bs H1 g s5 hR hG => Calls.spliced_nil ?_)
  obtain ⟨ns, rfl, hR⟩ := hR
  obtain ⟨fp, wr, G, F, St, W, hst, hF, hfp, hI⟩ := hG
  refine call_sum_walkAnyS (W.self 0 _ _ _ hst ⟨g, fp, wr, G, _, F, St, fun i => ns.getD i 0, rfl, W, hst, hfp, fun i v hv => ?_, fun s' t' hmv => ?_⟩)
  · obtain ⟨b, hb1, hb2⟩ := hF i v hv
    rw [List.getElem?_map] at hb1
    cases q : ns[i]? with
    | none => rw [q] at hb1; cases hb1
    | some n =>
      rw [q] at hb1
      cases hb1
      obtain ⟨t, rfl⟩ := hb2
      exact ⟨t, by show Value.int n t = Value.int (ns.getD i 0) t; rw [List.getD_eq_getElem?_getD, q]; rfl⟩
  · obtain ⟨H2, hT, J⟩ := hI s' hmv
    have e : preSum (fun i => ns.getD i 0) (ns.map V.int).length = ns.sum := by
      have h1 := preSum_list (h := fun v => match v with | .int i => i | _ => 0) (ns.map V.int) (fun i => ns.getD i 0) (fun i x hx => by
        rw [List.getElem?_map] at hx
        cases q : ns[i]? with
        | none => rw [q] at hx; cases hx
        | some n =>
          rw [q] at hx
          cases hx
          show ns.getD i 0 = n
          rw [List.getD_eq_getElem?_getD, q]; rfl) (ns.map V.int).length (Nat.le_refl _)
      rw [h1, List.take_length, List.map_map]
      congr 1
      exact (List.map_congr_left fun n _ => rfl).trans (List.map_id ns)
    exact ⟨.int ns.sum, H2, J, ⟨t', by rw [e]⟩, hR H2 hT⟩
end
end Qt

namespace Em
open PySem PySem.Spec PyProof.Rows L2 Qt

theorem burn_pos {N : Net} (o : NetOk N) {y : Nat} (h : y < N.length) : 1 ≤ burnOf N y := by
  have hp := List.getElem?_eq_getElem h
  rw [burnOf_get hp]
  exact o.len _ (List.getElem_mem h)
def sumB (N : Net) (g : List Nat) : Int := (g.map (burnOf N)).sum
theorem sumB_nil (N : Net) : sumB N [] = 0 := rfl
theorem sumB_app (N : Net) (g h : List Nat) : sumB N (g ++ h) = sumB N g + sumB N h := by unfold sumB; rw [List.map_append, List.sum_append_int]
theorem sumB_one (N : Net) (y : Nat) : sumB N [y] = burnOf N y := by simp [sumB]
theorem sumB_cons (N : Net) (y : Nat) (g : List Nat) : sumB N (y :: g) = burnOf N y + sumB N g := by simp [sumB]
theorem sumB_nonneg {N : Net} (o : NetOk N) : ∀ {g : List Nat}, (∀ y ∈ g, y < N.length) → 0 ≤ sumB N g
  | [], _ => Int.le_refl _
  | y :: g, h => by
    have h1 := burn_pos o (h y List.mem_cons_self)
    have h2 := sumB_nonneg o (g := g) fun z hz => h z (List.mem_cons_of_mem _ hz)
    rw [sumB_cons]
    omega
/-- the lamps of a way, each with the first beat and the lap -/
abbrev Lgt := Nat × Int × Option Int
def lts (N : Net) (lap : Option Int) : Int → List Nat → List Lgt
  | _, [] => []
  | b, y :: r => (y, b, lap) :: lts N lap (b + burnOf N y) r
theorem lts_len (N : Net) (lap : Option Int) : ∀ (b : Int) (g : List Nat), (lts N lap b g).length = g.length
  | _, [] => rfl
  | b, y :: r => congrArg Nat.succ (lts_len N lap _ r)
theorem lts_snoc (N : Net) (lap : Option Int) (y : Nat) : ∀ (b : Int) (g : List Nat), lts N lap b (g ++ [y]) = lts N lap b g ++ [(y, b + sumB N g, lap)]
  | b, [] => by
    show [(y, b, lap)] = [(y, b + 0, lap)]
    rw [Int.add_zero]
  | b, z :: r => by
    show (z, b, lap) :: lts N lap (b + burnOf N z) (r ++ [y]) = _
    rw [lts_snoc N lap y (b + burnOf N z) r, sumB_cons, Int.add_assoc]
    rfl
theorem lts_get (N : Net) (lap : Option Int) : ∀ (b : Int) (g : List Nat) (j y : Nat), g[j]? = some y → (lts N lap b g)[j]? = some (y, b + sumB N (g.take j), lap)
  | _, [], _, _, h => by cases h
  | b, z :: r, 0, y, h => by
    cases h
    show some (z, b, lap) = some (z, b + 0, lap)
    rw [Int.add_zero]
  | b, z :: r, j + 1, y, h => by
    have := lts_get N lap (b + burnOf N z) r j y (by simpa using h)
    show (lts N lap (b + burnOf N z) r)[j]? = _
    rw [this, List.take_succ_cons, sumB_cons, Int.add_assoc]
theorem lts_fst (N : Net) (lap : Option Int) : ∀ (b : Int) (g : List Nat), (lts N lap b g).map (·.1) = g
  | _, [] => rfl
  | b, z :: r => congrArg (z :: ·) (lts_fst N lap _ r)
def lapOf (N : Net) (x : Nat) : Int := sumB N (wayR N x)
def cutN (N : Net) (x : Nat) : Nat := cutAt N (path N x)
def frst (N : Net) (b : Int) (x j : Nat) : Int := b + sumB N ((path N x).take j)
def lightsL (N : Net) (b : Int) (x : Nat) : List Lgt := lts N none b (wayA N x) ++ lts N (some (lapOf N x)) (b + sumB N (wayA N x)) (wayR N x)
theorem lights_fst (N : Net) (b : Int) (x : Nat) : (lightsL N b x).map (·.1) = path N x := by
  unfold lightsL
  rw [List.map_append, lts_fst, lts_fst, way_cat]
theorem cut_le {N : Net} (o : NetOk N) {x : Nat} (hx : x < N.length) : cutN N x ≤ (path N x).length := by
  unfold cutN cutAt
  split
  · exact Nat.le_refl _
  · exact List.idxOf_le_length
theorem wayA_len {N : Net} (o : NetOk N) {x : Nat} (hx : x < N.length) : (wayA N x).length = cutN N x := by
  have := cut_le o hx
  unfold wayA
  rw [List.length_take]
  show min (cutN N x) _ = _
  omega
theorem lights_get {N : Net} (o : NetOk N) {x : Nat} (hx : x < N.length) (b : Int) {j y : Nat} (h : (path N x)[j]? = some y) :
    (lightsL N b x)[j]? = some (y, frst N b x j, if j < cutN N x then none else some (lapOf N x)) := by
  have lA := wayA_len o hx
  have hc := way_cat N x
  have hj := (List.getElem?_eq_some_iff.mp h).1
  unfold lightsL
  by_cases hjc : j < cutN N x
  · rw [if_pos hjc, List.getElem?_append_left (by rw [lts_len, lA]; exact hjc)]
    have h2 : (wayA N x)[j]? = some y := by
      unfold wayA
      rw [List.getElem?_take, if_pos (show j < cutAt N (path N x) from hjc)]; exact h
    rw [lts_get N none b _ j y h2]
    have e : (wayA N x).take j = (path N x).take j := by
      unfold wayA
      rw [List.take_take, Nat.min_eq_left (show j ≤ cutAt N (path N x) from Nat.le_of_lt hjc)]
    rw [e]
    rfl
  · rw [if_neg hjc, List.getElem?_append_right (by rw [lts_len, lA]; omega), lts_len, lA]
    have h2 : (wayR N x)[j - cutN N x]? = some y := by
      unfold wayR
      rw [List.getElem?_drop]
      show (path N x)[cutN N x + (j - cutN N x)]? = _
      rw [show cutN N x + (j - cutN N x) = j by omega]; exact h
    rw [lts_get N _ _ _ _ y h2]
    have e : (path N x).take j = wayA N x ++ (wayR N x).take (j - cutN N x) := by
      rw [← hc, List.take_append, List.take_of_length_le (by rw [lA]; omega), lA]
    unfold frst
    rw [e, sumB_app, Int.add_assoc]
theorem take_succ_sum (N : Net) {g : List Nat} {j y : Nat} (h : g[j]? = some y) : sumB N (g.take (j + 1)) = sumB N (g.take j) + burnOf N y := by
  rw [List.take_add_one, h, sumB_app]
  show _ + sumB N [y] = _
  rw [sumB_one]
theorem sum_mono {N : Net} (o : NetOk N) {g : List Nat} (hg : ∀ y ∈ g, y < N.length) {i j : Nat} (h : i ≤ j) : sumB N (g.take i) ≤ sumB N (g.take j) := by
  have hn := sumB_nonneg o (g := (g.take j).drop i) fun y hy => hg y (List.mem_of_mem_take (List.mem_of_mem_drop hy))
  have e2 : sumB N (g.take j) = sumB N (g.take i) + sumB N ((g.take j).drop i) := by
    rw [← sumB_app]
    have e := List.take_append_drop i (g.take j)
    rw [List.take_take, Nat.min_eq_left h] at e
    rw [e]
  omega
theorem frst_gap {N : Net} (o : NetOk N) {x : Nat} (hx : x < N.length) (b : Int) {i j y : Nat} (h : (path N x)[i]? = some y) (hij : i < j) : frst N b x i + burnOf N y ≤ frst N b x j := by
  have h1 := sum_mono o (path_been o hx).lt (show i + 1 ≤ j from hij)
  rw [take_succ_sum N h] at h1
  unfold frst
  omega
theorem lap_frst {N : Net} (o : NetOk N) {x : Nat} (hx : x < N.length) (b : Int) : frst N b x (path N x).length = frst N b x (cutN N x) + lapOf N x := by
  unfold frst lapOf
  rw [List.take_length]
  have e : (path N x).take (cutN N x) = wayA N x := rfl
  rw [e]
  have : sumB N (path N x) = sumB N (wayA N x) + sumB N (wayR N x) := by rw [← sumB_app, way_cat]
  omega
def gone (beat : Int) (z : Lgt) : Int := match z.2.2 with
  | none => beat - z.2.1
  | some l => if 0 ≤ beat - z.2.1 then (beat - z.2.1) % l else beat - z.2.1
def hit (N : Net) (beat : Int) (z : Lgt) : Bool := decide (0 ≤ gone beat z) && decide (gone beat z < burnOf N z.1)
def placeL (N : Net) (beat : Int) : List Lgt → Option (Nat × Int)
  | [] => none
  | z :: r => if hit N beat z = true then some (z.1, gone beat z) else placeL N beat r
theorem place_some {N : Net} {beat : Int} : ∀ {L : List Lgt} {j : Nat} {z : Lgt}, L[j]? = some z → hit N beat z = true → (∀ i, i < j → ∀ y, L[i]? = some y → hit N beat y = false) → placeL N beat L = some (z.1, gone beat z)
  | [], _, _, h, _, _ => by cases h
  | y :: r, 0, z, h, hz, _ => by
    cases h
    unfold placeL
    rw [if_pos hz]
  | y :: r, j + 1, z, h, hz, hb => by
    unfold placeL
    rw [if_neg (by rw [hb 0 (Nat.zero_lt_succ _) y rfl]; exact Bool.false_ne_true)]
    exact place_some (j := j) (by simpa using h) hz fun i hi y hy => hb (i + 1) (Nat.succ_lt_succ hi) y (by simpa using hy)
theorem no_hit {N : Net} {beat : Int} {z : Lgt} (h : burnOf N z.1 ≤ gone beat z ∨ gone beat z < 0) : hit N beat z = false := by
  unfold hit
  rcases h with h | h
  · rw [decide_eq_false (show ¬ gone beat z < burnOf N z.1 by omega), Bool.and_false]
  · rw [decide_eq_false (show ¬ 0 ≤ gone beat z by omega), Bool.false_and]
theorem yes_hit {N : Net} {beat : Int} {z : Lgt} (h1 : 0 ≤ gone beat z) (h2 : gone beat z < burnOf N z.1) : hit N beat z = true := by
  unfold hit
  rw [decide_eq_true h1, decide_eq_true h2]; rfl
/-- so many laps on, within a lamp's length -/
theorem place_on {N : Net} (o : NetOk N) {x : Nat} (hx : x < N.length) (b : Int) {j y : Nat} (h : (path N x)[j]? = some y) {g laps : Int} (h0 : 0 ≤ g) (h1 : g < burnOf N y) (hl : 0 ≤ laps) (hlc : laps = 0 ∨ cutN N x ≤ j) :
    placeL N (frst N b x j + laps * lapOf N x + g) (lightsL N b x) = some (y, g) := by
  have hj := (List.getElem?_eq_some_iff.mp h).1
  have lp := lap_frst o hx b
  have gy := frst_gap o hx b h hj
  have key : gone (frst N b x j + laps * lapOf N x + g) (y, frst N b x j, if j < cutN N x then none else some (lapOf N x)) = g := by
    by_cases hjc : j < cutN N x
    · rw [if_pos hjc]
      have : laps = 0 := by rcases hlc with z | z <;> omega
      subst this
      show frst N b x j + 0 * lapOf N x + g - frst N b x j = g
      rw [Int.zero_mul]; omega
    · rw [if_neg hjc]
      have hm := sum_mono o (path_been o hx).lt (show cutN N x ≤ j by omega)
      have hlap : g < lapOf N x := by
        unfold frst at lp gy
        omega
      have hp : 0 ≤ laps * lapOf N x := Int.mul_nonneg hl (by omega)
      show (if 0 ≤ frst N b x j + laps * lapOf N x + g - frst N b x j then (frst N b x j + laps * lapOf N x + g - frst N b x j) % lapOf N x else _) = g
      have e : frst N b x j + laps * lapOf N x + g - frst N b x j = g + laps * lapOf N x := by omega
      rw [e, if_pos (by omega), Int.add_mul_emod_self_right]
      exact Int.emod_eq_of_lt h0 hlap
  have hz := lights_get o hx b h
  have r := place_some (N := N) (beat := frst N b x j + laps * lapOf N x + g) hz (yes_hit (by rw [key]; exact h0) (by rw [key]; exact h1)) fun i hi z hzi => ?_
  · rw [key] at r
    exact r
  · obtain ⟨yi, hyi⟩ : ∃ yi, (path N x)[i]? = some yi := ⟨_, List.getElem?_eq_getElem (by omega)⟩
    rw [lights_get o hx b hyi] at hzi
    cases hzi
    have gi := frst_gap o hx b hyi hi
    refine no_hit (.inl ?_)
    by_cases hic : i < cutN N x
    · rw [if_pos hic]
      have hp : 0 ≤ laps * lapOf N x := Int.mul_nonneg hl (sumB_nonneg o (way_sub o hx))
      show burnOf N yi ≤ frst N b x j + laps * lapOf N x + g - frst N b x i
      omega
    · rw [if_neg hic]
      have hm := sum_mono o (path_been o hx).lt (show cutN N x ≤ i by omega)
      have hp : 0 ≤ laps * lapOf N x := Int.mul_nonneg hl (sumB_nonneg o (way_sub o hx))
      show burnOf N yi ≤ (if 0 ≤ frst N b x j + laps * lapOf N x + g - frst N b x i then (frst N b x j + laps * lapOf N x + g - frst N b x i) % lapOf N x else _)
      have bp := burn_pos o ((path_been o hx).lt yi (List.mem_of_getElem? hyi))
      have e : frst N b x j + laps * lapOf N x + g - frst N b x i = (frst N b x j - frst N b x i + g) + laps * lapOf N x := by omega
      rw [e, if_pos (by omega), Int.add_mul_emod_self_right, Int.emod_eq_of_lt (by omega) (by
        unfold frst at lp gy gi ⊢
        omega)]
      omega
/-- when it lights a lamp -/
def lookL (y : Nat) : List Lgt → Option (Int × Option Int)
  | [] => none
  | z :: r => if z.1 = y then some z.2 else lookL y r
theorem look_none {y : Nat} : ∀ {L : List Lgt}, y ∉ L.map (·.1) → lookL y L = none
  | [], _ => rfl
  | z :: r, h => by
    simp only [List.map_cons, List.mem_cons, not_or] at h
    unfold lookL
    rw [if_neg (fun e => h.1 e.symm)]
    exact look_none h.2
theorem look_some {y : Nat} : ∀ {L : List Lgt} {j : Nat} {w : Int × Option Int}, (L.map (·.1)).Nodup → L[j]? = some (y, w) → lookL y L = some w
  | [], _, _, _, h => by cases h
  | z :: r, 0, w, _, h => by
    cases h
    unfold lookL
    rw [if_pos rfl]
  | z :: r, j + 1, w, hn, h => by
    have hm : (r.map (·.1))[j]? = some y := by rw [List.getElem?_map, show r[j]? = some (y, w) by simpa using h]; rfl
    have hn2 : z.1 ∉ r.map (·.1) ∧ (r.map (·.1)).Nodup := List.nodup_cons.mp hn
    unfold lookL
    rw [if_neg (fun e : z.1 = y => hn2.1 (by rw [e]; exact List.mem_of_getElem? hm))]
    exact look_some hn2.2 (by simpa using h)
theorem lights_nd {N : Net} (o : NetOk N) {x : Nat} (hx : x < N.length) (b : Int) : ((lightsL N b x).map (·.1)).Nodup := by
  rw [lights_fst]; exact (path_been o hx).nd

theorem nd_take {g : List Nat} {i y : Nat} (hn : g.Nodup) (h : g[i]? = some y) : y ∉ g.take i := by
  intro hm
  obtain ⟨hi, e⟩ := List.getElem?_eq_some_iff.mp h
  obtain ⟨j, hj, e2⟩ := List.getElem_of_mem hm
  rw [List.length_take] at hj
  rw [List.getElem_take] at e2
  have := (List.getElem_inj (h₀ := by omega) (h₁ := hi) hn).mp (e2.trans e.symm)
  omega
def lgtD (w : Int × Option Int) : PyData := .tuple [.int w.1, match w.2 with
  | none => .none
  | some l => .int l]
inductive LtA (H : Hp) : List (Key × V) → List Lgt → Prop
  | nil : LtA H [] []
  | cons {y : Nat} {w : Int × Option Int} {v : V} {r : List (Key × V)} {l : List Lgt} (h : Tu H v (lgtD w)) (t : LtA H r l) : LtA H ((Sum.inl (y : Int), v) :: r) ((y, w) :: l)
theorem LtA.kt {H H' : Hp} (k : Kt H H') : ∀ {r : List (Key × V)} {l : List Lgt}, LtA H r l → LtA H' r l
  | _, _, .nil => .nil
  | _, _, .cons h t => .cons (h.kt k) (LtA.kt k t)
theorem LtA.len {H : Hp} : ∀ {r : List (Key × V)} {l : List Lgt}, LtA H r l → r.length = l.length
  | _, _, .nil => rfl
  | _, _, .cons _ t => congrArg Nat.succ (LtA.len t)
theorem LtA.snoc {H : Hp} {y : Nat} {w : Int × Option Int} {v : V} (h : Tu H v (lgtD w)) : ∀ {r : List (Key × V)} {l : List Lgt}, LtA H r l → LtA H (r ++ [(Sum.inl (y : Int), v)]) (l ++ [(y, w)])
  | _, _, .nil => .cons h .nil
  | _, _, .cons a t => .cons a (LtA.snoc h t)
theorem LtA.get {H : Hp} : ∀ {r : List (Key × V)} {l : List Lgt} {i : Nat} {z : Lgt}, LtA H r l → l[i]? = some z → ∃ v, r[i]? = some (Sum.inl (z.1 : Int), v) ∧ Tu H v (lgtD z.2)
  | _, _, _, _, .nil, h => by cases h
  | _, _, 0, _, .cons a _, h => by cases h; exact ⟨_, rfl, a⟩
  | _, _, i + 1, _, .cons _ t, h => LtA.get (i := i) t (by simpa using h)
theorem LtA.val {H : Hp} {y : Nat} : ∀ {r : List (Key × V)} {l : List Lgt}, LtA H r l → (lookL y l = none ∧ valV r (Sum.inl (y : Int) : Key) = none) ∨ ∃ w v, lookL y l = some w ∧ valV r (Sum.inl (y : Int) : Key) = some v ∧ Tu H v (lgtD w)
  | _, _, .nil => .inl ⟨rfl, rfl⟩
  | _, _, @LtA.cons _ z w v r l h t => by
    by_cases e : z = y
    · subst e
      refine .inr ⟨w, v, ?_, valV_pos rfl, h⟩
      unfold lookL
      rw [if_pos rfl]
    · have e1 : lookL y ((z, w) :: l) = lookL y l := by
        show (if z = y then _ else _) = _
        rw [if_neg e]
      have e2 : valV ((Sum.inl (z : Int), v) :: r) (Sum.inl (y : Int) : Key) = valV r (Sum.inl (y : Int) : Key) := valV_neg (fun q => e (by
        have := Sum.inl.inj q
        omega))
      rw [e1, e2]
      exact LtA.val t
theorem wiped_tup {H : Hp} {P a : Addr} {xs : List V} (t : GxR.TabG H P) (h : H a = some (.tup xs)) : Qt.wipe H P a = some (.tup xs) :=
  wipe_at (fun z => by obtain ⟨ps, e, _⟩ := t; rw [z, e] at h; cases h) h
theorem lgt_at {H : Hp} {v : V} {w : Int × Option Int} (h : Tu H v (lgtD w)) : ∃ a, v = .ref a ∧ H a = some (.tup [.int w.1, match w.2 with
    | none => .non
    | some l => .int l]) := by
  obtain ⟨f, o⟩ := w
  cases h with
  | @tup a xs ds h t =>
    cases t with
    | cons t1 t =>
      cases t1
      cases t with
      | cons t2 t =>
        cases t
        cases o with
        | none => cases t2; exact ⟨a, rfl, h⟩
        | some l => cases t2; exact ⟨a, rfl, h⟩
end Em

namespace Em
open PySem PySem.Spec PyProof.Rows L2 Qt

theorem last_eq {g : List Nat} {j z : Nat} (h : g[j]? = some z) (hj : j + 1 = g.length) : lastOf g = z := by
  obtain ⟨l, rfl⟩ : ∃ l, g = l ++ [z] := by
    obtain ⟨hlt, e⟩ := List.getElem?_eq_some_iff.mp h
    refine ⟨g.take j, ?_⟩
    have := List.take_add_one (l := g) (i := j)
    rw [h, List.take_of_length_le (by omega)] at this
    exact this
  exact last_app l z
theorem path_chain {N : Net} {x : Nat} : ∀ n j z y, (itr (step N) n [x])[j]? = some z → (itr (step N) n [x])[j + 1]? = some y → nxt N z = some y
  | 0, j, z, y, h1, h2 => by
    have : j + 1 < 1 := (List.getElem?_eq_some_iff.mp h2).1
    omega
  | n + 1, j, z, y, h1, h2 => by
    have es : itr (step N) (n + 1) [x] = step N (itr (step N) n [x]) := rfl
    rw [es] at h1 h2
    obtain ⟨g, eg⟩ : ∃ g, g = itr (step N) n [x] := ⟨_, rfl⟩
    have ih := path_chain (N := N) (x := x) n
    rw [← eg] at h1 h2 ih
    unfold step at h1 h2
    cases hz : nxt N (lastOf g) with
    | none => rw [hz] at h1 h2; exact ih j z y h1 h2
    | some u =>
      rw [hz] at h1 h2
      by_cases hu : u ∈ g
      · simp only [hu, if_true] at h1 h2
        exact ih j z y h1 h2
      · simp only [hu, if_false] at h1 h2
        by_cases hj : j + 1 < g.length
        · rw [List.getElem?_append_left (by omega)] at h1
          rw [List.getElem?_append_left hj] at h2
          exact ih j z y h1 h2
        · have h3 := (List.getElem?_eq_some_iff.mp h2).1
          rw [List.length_append] at h3
          have h4 : j + 1 = g.length := by simp at h3; omega
          rw [List.getElem?_append_left (by omega)] at h1
          rw [h4, List.getElem?_append_right (Nat.le_refl _), Nat.sub_self] at h2
          cases h2
          rw [← last_eq h1 h4]
          exact hz
/-- the next one's place on the way -/
theorem next_at {N : Net} (o : NetOk N) {x j z : Nat} (hx : x < N.length) (h : (path N x)[j]? = some z) :
    (nxt N z = none ∧ j + 1 = (path N x).length ∧ cutN N x = (path N x).length) ∨
    (∃ y, nxt N z = some y ∧ (path N x)[j + 1]? = some y) ∨
    (∃ y, nxt N z = some y ∧ j + 1 = (path N x).length ∧ (path N x)[cutN N x]? = some y) := by
  have hj := (List.getElem?_eq_some_iff.mp h).1
  by_cases hl : j + 1 < (path N x).length
  · refine .inr (.inl ⟨(path N x)[j + 1], ?_, List.getElem?_eq_getElem hl⟩)
    exact path_chain (N := N) (x := x) N.length j z _ h (List.getElem?_eq_getElem hl)
  · have hl2 : j + 1 = (path N x).length := by omega
    have hz := last_eq h hl2
    have hs := (path_been o hx).done.2
    cases hn : nxt N z with
    | none =>
      refine .inl ⟨rfl, hl2, ?_⟩
      unfold cutN cutAt
      rw [hz, hn]
    | some y =>
      have hm : y ∈ path N x := step_mem (by rw [hz]; exact hn) hs
      refine .inr (.inr ⟨y, rfl, hl2, ?_⟩)
      have hc : cutN N x = (path N x).idxOf y := by
        unfold cutN cutAt
        rw [hz, hn]
      have hix := List.idxOf_lt_length_iff.mpr hm
      rw [hc, List.getElem?_eq_getElem hix, List.getElem_idxOf hix]
/-- so many laps on, at a lamp of the way -/
def OnWay (N : Net) (b : Int) (x : Nat) (t : Int) (z : Nat) : Prop := ∃ (j : Nat) (laps : Int), (path N x)[j]? = some z ∧ t = frst N b x j + laps * lapOf N x ∧ 0 ≤ laps ∧ (laps = 0 ∨ cutN N x ≤ j)
theorem onWay_start {N : Net} (b : Int) (x : Nat) : OnWay N b x b x := by
  obtain ⟨t, e⟩ := path_head N x
  refine ⟨0, 0, by rw [e]; rfl, ?_, by decide, .inl rfl⟩
  show b = b + 0 + 0 * lapOf N x
  rw [Int.zero_mul]; omega
theorem onWay_next {N : Net} (o : NetOk N) {b t : Int} {x z : Nat} (hx : x < N.length) (h : OnWay N b x t z) :
    (nxt N z = none ∧ wayR N x = [] ∧ t + burnOf N z = frst N b x (path N x).length) ∨ ∃ y, nxt N z = some y ∧ OnWay N b x (t + burnOf N z) y := by
  obtain ⟨j, laps, hj, rfl, h0, hc⟩ := h
  have hf : frst N b x (j + 1) = frst N b x j + burnOf N z := by
    unfold frst
    rw [take_succ_sum N hj]; omega
  have hjl := (List.getElem?_eq_some_iff.mp hj).1
  rcases next_at o hx hj with ⟨h1, h2, h3⟩ | ⟨y, h1, h2⟩ | ⟨y, h1, h2, h3⟩
  · refine .inl ⟨h1, ?_, ?_⟩
    · unfold wayR
      rw [show cutAt N (path N x) = (path N x).length from h3]
      exact List.drop_length
    · have : laps = 0 := by rcases hc with z | z <;> omega
      subst this
      rw [Int.zero_mul, Int.add_zero, ← hf, h2]
  · refine .inr ⟨y, h1, j + 1, laps, h2, by rw [hf]; omega, h0, ?_⟩
    rcases hc with z | z
    · exact .inl z
    · exact .inr (by omega)
  · refine .inr ⟨y, h1, cutN N x, laps + 1, h3, ?_, by omega, .inr (Nat.le_refl _)⟩
    have lp := lap_frst o hx b
    rw [← h2] at lp
    rw [Int.add_mul, Int.one_mul]
    omega
/-- rows of a flame that goes on alone -/
structure FreeOk (N : Net) (b : Int) (x : Nat) (rows : List (Int × Nat)) (t : Int) : Prop where
  on : ∀ r ∈ rows, OnWay N b x r.1 r.2
  all : ∀ a, b ≤ a → a < t → ∃ r ∈ rows, r.1 ≤ a ∧ a < r.1 + burnOf N r.2
  len : (rows.length : Int) ≤ t - b
theorem FreeOk.start {N : Net} {b : Int} {x : Nat} : FreeOk N b x [] b := ⟨fun r h => (by cases h), fun a h1 h2 => (by omega), (by simp)⟩
theorem FreeOk.more {N : Net} (o : NetOk N) {b t : Int} {x z : Nat} {rows : List (Int × Nat)} (hx : x < N.length) (f : FreeOk N b x rows t) (h : OnWay N b x t z) : FreeOk N b x (rows ++ [(t, z)]) (t + burnOf N z) := by
  have hz : 1 ≤ burnOf N z := by
    obtain ⟨j, _, hj, _⟩ := h
    exact burn_pos o ((path_been o hx).lt z (List.mem_of_getElem? hj))
  refine ⟨fun r hr => ?_, fun a h1 h2 => ?_, ?_⟩
  · rcases List.mem_append.mp hr with hr | hr
    · exact f.on r hr
    · rw [List.mem_singleton.mp hr]; exact h
  · by_cases ht : a < t
    · obtain ⟨r, hr, q⟩ := f.all a h1 ht
      exact ⟨r, List.mem_append_left _ hr, q⟩
    · exact ⟨(t, z), by simp, by show t ≤ a; omega, h2⟩
  · rw [List.length_append]
    have := f.len
    simp
    omega
theorem on_place {N : Net} (o : NetOk N) {b a : Int} {x : Nat} (hx : x < N.length) {r : Int × Nat} (h : OnWay N b x r.1 r.2) (h1 : r.1 ≤ a) (h2 : a < r.1 + burnOf N r.2) : placeL N a (lightsL N b x) = some (r.2, a - r.1) := by
  obtain ⟨j, laps, hj, e, h0, hc⟩ := h
  have := place_on o hx b hj (g := a - r.1) (laps := laps) (by omega) (by omega) h0 hc
  rw [← e, show r.1 + (a - r.1) = a by omega] at this
  exact this
end Em

namespace Em
open PySem PySem.Spec PyProof.Rows L2 Qt

theorem getD_set {α : Type} {l : List α} {k j : Nat} {v d : α} (hk : k < l.length) : (l.set k v).getD j d = if j = k then v else l.getD j d := by
  rw [List.getD_eq_getElem?_getD, List.getElem?_set, List.getD_eq_getElem?_getD]
  by_cases e : k = j
  · subst e
    rw [if_pos rfl, if_pos hk, if_pos rfl]; rfl
  · rw [if_neg e, if_neg (fun z => e z.symm)]
/-- the flame that leaves a lamp at a beat -/
def outB (N : Net) (b : Nat) (L : List Lt) (k : Nat) : Option Nat := match L.getD k none with
  | none => none
  | some (f, t) => if (b : Int) < (t : Int) + burnOf N k then none else some f
/-- a lamp when those that are over have gone dark -/
def leftB (N : Net) (b : Nat) (L : List Lt) (k : Nat) : Lt := match outB N b L k with
  | none => L.getD k none
  | some _ => none
def cameB (N : Net) (b : Nat) (L : List Lt) (y j : Nat) : Option Nat := (outB N b L j).bind fun f => if nxt N j = some y then some f else none
def overB (N : Net) (b : Nat) (L : List Lt) (j : Nat) : Option Row := (outB N b L j).bind fun f => if nxt N j = none then some (.ended b j f) else none
/-- the flames that come to a lamp from lamps -/
def cameL (N : Net) (b : Nat) (L : List Lt) (k y : Nat) : List Nat := (List.range k).filterMap (cameB N b L y)
def overL (N : Net) (b : Nat) (L : List Lt) (k : Nat) : List Row := (List.range k).filterMap (overB N b L)
theorem range_fm {α : Type} (g : Nat → Option α) (k : Nat) : (List.range (k + 1)).filterMap g = (List.range k).filterMap g ++ (g k).toList := by
  rw [List.range_succ, List.filterMap_append]
  cases h : g k with
  | none => simp [h]
  | some a => simp [h]
structure DkAt (N : Net) (b : Nat) (L : List Lt) (k : Nat) (s : Dk) : Prop where
  len : s.L.length = N.length
  cln : s.css.length = N.length
  lit : ∀ j, s.L.getD j none = if j < k then leftB N b L j else L.getD j none
  css : ∀ y, y < N.length → s.css.getD y [] = cameL N b L k y
  rows : s.rows = overL N b L k
theorem dark_at {N : Net} (o : NetOk N) {b : Nat} {L : List Lt} (hL : L.length = N.length) : ∀ k, k ≤ N.length → DkAt N b L k (darkN N b k ⟨L, List.replicate N.length [], []⟩)
  | 0, _ => ⟨hL, List.length_replicate, fun j => by rw [if_neg (Nat.not_lt_zero j)]; rfl, fun y hy => by
      show (List.replicate N.length []).getD y [] = []
      rw [List.getD_eq_getElem?_getD, List.getElem?_replicate]
      split <;> rfl, rfl⟩
  | k + 1, hk => by
    have ih := dark_at o (b := b) hL k (by omega)
    obtain ⟨s, es⟩ : ∃ s, s = darkN N b k ⟨L, List.replicate N.length [], []⟩ := ⟨_, rfl⟩
    show DkAt N b L (k + 1) (darkK N b k (darkN N b k ⟨L, List.replicate N.length [], []⟩))
    rw [← es] at ih ⊢
    have hlk : s.L.getD k none = L.getD k none := by rw [ih.lit k, if_neg (Nat.lt_irrefl k)]
    -- nothing leaves
    have stay : outB N b L k = none → DkAt N b L (k + 1) s := fun hout => by
      refine ⟨ih.len, ih.cln, fun j => ?_, fun y hy => ?_, ?_⟩
      · rw [ih.lit j]
        by_cases h1 : j < k
        · rw [if_pos h1, if_pos (by omega)]
        · rw [if_neg h1]
          by_cases h2 : j < k + 1
          · have : j = k := by omega
            subst this
            rw [if_pos h2]
            unfold leftB
            rw [hout]
          · rw [if_neg h2]
      · rw [ih.css y hy]
        unfold cameL
        rw [range_fm]
        unfold cameB
        rw [hout]
        exact (List.append_nil _).symm
      · rw [ih.rows]
        unfold overL
        rw [range_fm]
        unfold overB
        rw [hout]
        exact (List.append_nil _).symm
    unfold darkK
    rw [hlk]
    cases hl : L.getD k none with
    | none => exact stay (by unfold outB; rw [hl])
    | some p =>
      obtain ⟨f, t⟩ := p
      show DkAt N b L (k + 1) (if (b : Int) < (t : Int) + burnOf N k then s else _)
      by_cases hb : (b : Int) < (t : Int) + burnOf N k
      · rw [if_pos hb]
        exact stay (by unfold outB; rw [hl]; show (if _ then _ else _) = _; rw [if_pos hb])
      · rw [if_neg hb]
        have hout : outB N b L k = some f := by unfold outB; rw [hl]; show (if _ then _ else _) = _; rw [if_neg hb]
        have lit' : ∀ j, (s.L.set k none).getD j none = if j < k + 1 then leftB N b L j else L.getD j none := fun j => by
          rw [getD_set (by rw [ih.len]; omega)]
          by_cases h1 : j = k
          · subst h1
            rw [if_pos rfl, if_pos (by omega)]
            unfold leftB
            rw [hout]
          · rw [if_neg h1, ih.lit j]
            by_cases h2 : j < k
            · rw [if_pos h2, if_pos (by omega)]
            · rw [if_neg h2, if_neg (by omega)]
        cases hn : nxt N k with
        | none =>
          refine ⟨by rw [List.length_set]; exact ih.len, ih.cln, lit', fun y hy => ?_, ?_⟩
          · show s.css.getD y [] = _
            rw [ih.css y hy]
            unfold cameL
            rw [range_fm]
            unfold cameB
            rw [hout]
            show _ = _ ++ (if nxt N k = some y then some f else none).toList
            rw [hn, if_neg (fun z => by cases z)]
            exact (List.append_nil _).symm
          · show s.rows ++ [.ended b k f] = _
            rw [ih.rows]
            unfold overL
            rw [range_fm]
            unfold overB
            rw [hout]
            show _ = _ ++ (if nxt N k = none then some (Row.ended b k f) else none).toList
            rw [if_pos hn]
            rfl
        | some u =>
          have hu := nxt_lt o hn
          refine ⟨by rw [List.length_set]; exact ih.len, by rw [List.length_set]; exact ih.cln, lit', fun y hy => ?_, ?_⟩
          · show (s.css.set u (s.css.getD u [] ++ [f])).getD y [] = _
            rw [getD_set (by rw [ih.cln]; exact hu)]
            unfold cameL
            rw [range_fm]
            unfold cameB
            rw [hout]
            show _ = _ ++ (if nxt N k = some y then some f else none).toList
            rw [hn]
            by_cases e : y = u
            · subst e
              rw [if_pos rfl, if_pos rfl, ih.css y hy]
              rfl
            · rw [if_neg e, if_neg (fun z => e (Option.some.inj z).symm), ih.css y hy]
              exact (List.append_nil _).symm
          · show s.rows = _
            rw [ih.rows]
            unfold overL
            rw [range_fm]
            unfold overB
            rw [hout]
            show _ = _ ++ (if nxt N k = none then some (Row.ended b k f) else none).toList
            rw [if_neg (by rw [hn]; exact fun z => by cases z)]
            exact (List.append_nil _).symm
/-- those that are kindled at a lamp now -/
def newL (W : List (Nat × Nat)) (y : Nat) : List Nat := (W.filter fun p => decide (p.2 = y)).map (·.1)
theorem addW_at : ∀ (W : List (Nat × Nat)) (css : List (List Nat)) (y : Nat), (∀ p ∈ W, p.2 < css.length) → (addW css W).getD y [] = css.getD y [] ++ newL W y
  | [], css, y, _ => (List.append_nil _).symm
  | p :: r, css, y, h => by
    have hp := h p List.mem_cons_self
    show (addW (addK css p) r).getD y [] = _
    have hl : (addK css p).length = css.length := List.length_set
    rw [addW_at r (addK css p) y fun q hq => by rw [hl]; exact h q (List.mem_cons_of_mem _ hq)]
    unfold addK newL
    rw [getD_set hp]
    by_cases e : y = p.2
    · subst e
      rw [if_pos rfl, List.filter_cons_of_pos (by simp), List.map_cons, List.append_assoc]
      rfl
    · rw [if_neg e, List.filter_cons_of_neg (by simpa using fun z => e z.symm)]
/-- all that come to a lamp at a beat -/
def comeL (N : Net) (b : Nat) (L : List Lt) (W : List (Nat × Nat)) (y : Nat) : List Nat := cameL N b L N.length y ++ newL W y
def metB (N : Net) (b : Nat) (L : List Lt) (W : List (Nat × Nat)) (k : Nat) : Lt × List Row := meet b k (leftB N b L k) (srt (comeL N b L W k))
theorem metN_at {b n : Nat} {css : List (List Nat)} {s : Ms} (hs : s.L.length = n) : ∀ k, k ≤ n →
    (∀ j, (meetN b css k s).L.getD j none = if j < k then (meet b j (s.L.getD j none) (srt (css.getD j []))).1 else s.L.getD j none) ∧ (meetN b css k s).rows = s.rows ++ ((List.range k).map fun j => (meet b j (s.L.getD j none) (srt (css.getD j []))).2).flatten
  | 0, _ => ⟨fun j => by rw [if_neg (Nat.not_lt_zero j)]; rfl, (List.append_nil _).symm⟩
  | k + 1, hk => by
    obtain ⟨h1, h2⟩ := metN_at (b := b) (css := css) hs k (by omega)
    have hl := (meetN_len b css s k).1
    have hlk : (meetN b css k s).L.getD k none = s.L.getD k none := by rw [h1 k, if_neg (Nat.lt_irrefl k)]
    refine ⟨fun j => ?_, ?_⟩
    · show ((meetN b css k s).L.set k _).getD j none = _
      rw [getD_set (by rw [hl, hs]; omega), hlk]
      by_cases e : j = k
      · subst e
        rw [if_pos rfl, if_pos (by omega)]
      · rw [if_neg e, h1 j]
        by_cases h3 : j < k
        · rw [if_pos h3, if_pos (by omega)]
        · rw [if_neg h3, if_neg (by omega)]
    · show (meetN b css k s).rows ++ (meet b k ((meetN b css k s).L.getD k none) (srt (css.getD k []))).2 = _
      rw [hlk, h2, List.range_succ, List.map_append, List.flatten_append, List.append_assoc]
      show _ ++ (_ ++ _) = _ ++ (_ ++ (_ ++ []))
      rw [List.append_nil]
/-- a beat: what burns behind it, and what it tells -/
theorem beat_at {N : Net} (o : NetOk N) {b : Nat} {L : List Lt} {W : List (Nat × Nat)} (hL : L.length = N.length) (hW : ∀ p ∈ W, p.2 < N.length) :
    (beatA N b L W).L.length = N.length ∧ (∀ k, k < N.length → (beatA N b L W).L.getD k none = (metB N b L W k).1) ∧
    (beatA N b L W).rows = overL N b L N.length ++ ((List.range N.length).map fun k => (metB N b L W k).2).flatten := by
  have hd := dark_at o (b := b) hL N.length (Nat.le_refl _)
  have hdA : DkAt N b L N.length (darkA N b L) := hd
  have hcss : ∀ k, k < N.length → (addW (darkA N b L).css W).getD k [] = comeL N b L W k := fun k hk => by
    rw [addW_at W _ k (by rw [hdA.cln]; exact hW), hdA.css k hk]
    rfl
  have hleft : ∀ k, k < N.length → (darkA N b L).L.getD k none = leftB N b L k := fun k hk => by rw [hdA.lit k, if_pos hk]
  obtain ⟨h1, h2⟩   := metN_at (b := b) (css := addW (darkA N b L).css W) (s := ⟨(darkA N b L).L, (darkA N b L).rows⟩) hdA.len N.length (Nat.le_refl _)
  refine ⟨?_, fun k hk => ?_, ?_⟩
  · show (meetN b _ N.length _).L.length = _
    rw [(meetN_len b _ _ _).1]
    exact hdA.len
  · show (meetN b _ N.length _).L.getD k none = _
    rw [h1 k, if_pos hk]
    show (meet b k ((darkA N b L).L.getD k none) (srt ((addW (darkA N b L).css W).getD k []))).1 = _
    rw [hleft k hk, hcss k hk]
    rfl
  · show (meetN b _ N.length _).rows = _
    rw [h2]
    show (darkA N b L).rows ++ _ = _
    rw [hdA.rows]
    congr 2
    refine List.map_congr_left fun k hk => ?_
    have hk2 := List.mem_range.mp hk
    show (meet b k ((darkA N b L).L.getD k none) (srt ((addW (darkA N b L).css W).getD k []))).2 = _
    rw [hleft k hk2, hcss k hk2]
    rfl
end Em

namespace Em
open PySem PySem.Spec PyProof.Rows L2 Qt

def goS (N : Net) : Nat → Nat → Option Nat
  | 0, x => some x
  | n + 1, x => (goS N n x).bind (nxt N)
theorem goS_add (N : Net) (x m : Nat) : ∀ n, goS N (m + n) x = (goS N m x).bind (goS N n)
  | 0 => by
    show goS N m x = _
    cases goS N m x <;> rfl
  | n + 1 => by
    show (goS N (m + n) x).bind (nxt N) = _
    rw [goS_add N x m n]
    cases goS N m x <;> rfl
theorem goS_path {N : Net} {x : Nat} : ∀ j z, (path N x)[j]? = some z → goS N j x = some z
  | 0, z, h => by
    obtain ⟨t, e⟩ := path_head N x
    rw [e] at h
    cases h
    rfl
  | j + 1, z, h => by
    have hj := (List.getElem?_eq_some_iff.mp h).1
    have h0 : (path N x)[j]? = some ((path N x)[j]'(by omega)) := List.getElem?_eq_getElem _
    show (goS N j x).bind (nxt N) = _
    rw [goS_path j _ h0]
    exact path_chain (N := N) (x := x) N.length j _ _ h0 h
theorem goS_mem {N : Net} (o : NetOk N) {x : Nat} (hx : x < N.length) : ∀ n y, goS N n x = some y → ∃ j, (path N x)[j]? = some y ∧ (cutN N x ≤ n → cutN N x < (path N x).length → cutN N x ≤ j)
  | 0, y, h => by
    cases h
    obtain ⟨t, e⟩ := path_head N x
    exact ⟨0, by rw [e]; rfl, fun h _ => h⟩
  | n + 1, y, h => by
    have h' : (goS N n x).bind (nxt N) = some y := h
    cases hz : goS N n x with
    | none => rw [hz] at h'; cases h'
    | some z =>
      rw [hz] at h'
      have hn : nxt N z = some y := h'
      obtain ⟨j, hj, hc⟩ := goS_mem o hx n z hz
      have hjl := (List.getElem?_eq_some_iff.mp hj).1
      rcases next_at o hx hj with ⟨h1, _, _⟩ | ⟨u, h1, h2⟩ | ⟨u, h1, h2, h3⟩
      · rw [hn] at h1; cases h1
      · rw [hn] at h1
        cases h1
        refine ⟨j + 1, h2, fun hcn hcl => ?_⟩
        by_cases hq : cutN N x ≤ n
        · have := hc hq hcl
          omega
        · -- the cut is reached just now
          have e : cutN N x = n + 1 := by omega
          have hp := goS_path (N := N) (x := x) (n + 1) _ (List.getElem?_eq_getElem (show n + 1 < (path N x).length by omega))
          rw [h] at hp
          have hy := Option.some.inj hp
          have hnd := (path_been o hx).nd
          obtain ⟨hj1, e1⟩ := List.getElem?_eq_some_iff.mp h2
          have := (List.getElem_inj (h₀ := hj1) (h₁ := show n + 1 < (path N x).length by omega) hnd).mp (e1.trans hy)
          omega
      · rw [hn] at h1
        cases h1
        exact ⟨cutN N x, h3, fun _ _ => Nat.le_refl _⟩
theorem wayR_get {N : Net} {x y : Nat} : y ∈ wayR N x ↔ ∃ j, cutN N x ≤ j ∧ (path N x)[j]? = some y := by
  unfold wayR
  constructor
  · intro h
    obtain ⟨i, hi, e⟩ := List.getElem_of_mem h
    have h2 := List.getElem?_eq_getElem hi
    rw [e, List.getElem?_drop] at h2
    exact ⟨cutAt N (path N x) + i, by show cutN N x ≤ cutN N x + i; omega, h2⟩
  · rintro ⟨j, hj, h⟩
    refine List.mem_of_getElem? (i := j - cutN N x) ?_
    rw [List.getElem?_drop]
    show (path N x)[cutN N x + (j - cutN N x)]? = _
    rw [show cutN N x + (j - cutN N x) = j by omega]; exact h
/-- behind the whole path -/
theorem goS_len {N : Net} (o : NetOk N) {x : Nat} (hx : x < N.length) : goS N (path N x).length x = if cutN N x < (path N x).length then (path N x)[cutN N x]? else none := by
  have hp := (path_been o hx).pos
  have h0 : (path N x)[(path N x).length - 1]? = some ((path N x)[(path N x).length - 1]'(by omega)) := List.getElem?_eq_getElem _
  have hg := goS_path _ _ h0
  have e : (path N x).length = ((path N x).length - 1) + 1 := by omega
  have h1 : goS N (path N x).length x = nxt N ((path N x)[(path N x).length - 1]'(by omega)) := by
    conv => lhs; rw [e]
    show (goS N ((path N x).length - 1) x).bind (nxt N) = _
    rw [hg]; rfl
  rw [h1]
  rcases next_at o hx h0 with ⟨h2, h3, h4⟩ | ⟨u, h2, h3⟩ | ⟨u, h2, h3, h4⟩
  · rw [h2, if_neg (by omega)]
  · have := (List.getElem?_eq_some_iff.mp h3).1
    omega
  · have := (List.getElem?_eq_some_iff.mp h4).1
    rw [h2, if_pos this, h4]
theorem goS_none {N : Net} {x m : Nat} (h : goS N m x = none) : ∀ n, goS N (m + n) x = none := fun n => by
  rw [goS_add, h]; rfl
/-- what comes again, by steps -/
theorem wayR_iff {N : Net} (o : NetOk N) {x y : Nat} (hx : x < N.length) : y ∈ wayR N x ↔ (∃ m, goS N m x = some y) ∧ ∃ n, 1 ≤ n ∧ goS N n y = some y := by
  constructor
  · intro h
    obtain ⟨j, hj, hy⟩ := wayR_get.mp h
    have hjl := (List.getElem?_eq_some_iff.mp hy).1
    have hg := goS_path j y hy
    refine ⟨⟨j, hg⟩, (path N x).length - cutN N x, by omega, ?_⟩
    have hl := goS_len o hx
    rw [if_pos (by omega)] at hl
    have hcg : goS N (cutN N x) x = (path N x)[cutN N x]? := by
      have := List.getElem?_eq_getElem (show cutN N x < (path N x).length by omega)
      rw [this]; exact goS_path _ _ this
    rw [← hcg] at hl
    have h1 := goS_add N x j ((path N x).length - cutN N x)
    rw [hg] at h1
    have h2 := goS_add N x (path N x).length (j - cutN N x)
    rw [hl, ← goS_add, show cutN N x + (j - cutN N x) = j by omega, hg, show (path N x).length + (j - cutN N x) = j + ((path N x).length - cutN N x) by omega] at h2
    rw [h2] at h1
    exact h1.symm
  · rintro ⟨⟨m, hm⟩, n, hn, hy⟩
    have again : ∀ k, goS N (m + k * n) x = some y := by
      intro k
      induction k with
      | zero => rw [Nat.zero_mul]; exact hm
      | succ k ih => rw [Nat.add_mul, Nat.one_mul, ← Nat.add_assoc, goS_add, ih]; exact hy
    have big : ∀ s, ∃ k, s ≤ m + k * n := fun s => ⟨s, by
      have : s * 1 ≤ s * n := Nat.mul_le_mul_left s hn
      omega⟩
    have hcl : cutN N x < (path N x).length := by
      by_cases hc : cutN N x < (path N x).length
      · exact hc
      · exfalso
        have hl := goS_len o hx
        rw [if_neg hc] at hl
        obtain ⟨k, hk⟩ := big (path N x).length
        have h1 := goS_none hl (m + k * n - (path N x).length)
        rw [show (path N x).length + (m + k * n - (path N x).length) = m + k * n by omega, again k] at h1
        cases h1
    obtain ⟨k, hk⟩ := big (cutN N x)
    obtain ⟨j, hj, hc⟩ := goS_mem o hx _ y (again k)
    exact wayR_get.mpr ⟨j, hc hk hcl, hj⟩
theorem wayR_nd {N : Net} (o : NetOk N) {x : Nat} (hx : x < N.length) : (wayR N x).Nodup := by
  have := (path_been o hx).nd
  rw [← way_cat N x] at this
  exact (List.nodup_append.mp this).2.1
theorem sumB_perm (N : Net) {g h : List Nat} (p : g.Perm h) : sumB N g = sumB N h := by
  induction p with
  | nil => rfl
  | cons x _ ih => rw [sumB_cons, sumB_cons, ih]
  | swap x y l => rw [sumB_cons, sumB_cons, sumB_cons, sumB_cons]; omega
  | trans _ _ h1 h2 => rw [h1, h2]
/-- one lap all along a way -/
theorem lap_along {N : Net} (o : NetOk N) {x z k : Nat} (hx : x < N.length) (hz : z < N.length) (h : goS N k x = some z) : lapOf N z = lapOf N x := by
  refine sumB_perm N ((List.perm_ext_iff_of_nodup (wayR_nd o hz) (wayR_nd o hx)).mpr fun y => ?_)
  rw [wayR_iff o hz, wayR_iff o hx]
  constructor
  · rintro ⟨⟨m, hm⟩, r⟩
    exact ⟨⟨k + m, by rw [goS_add, h]; exact hm⟩, r⟩
  · rintro ⟨⟨m, hm⟩, n, hn, hy⟩
    have again : ∀ i, goS N (m + i * n) x = some y := by
      intro i
      induction i with
      | zero => rw [Nat.zero_mul]; exact hm
      | succ i ih => rw [Nat.add_mul, Nat.one_mul, ← Nat.add_assoc, goS_add, ih]; exact hy
    refine ⟨⟨m + k * n - k, ?_⟩, n, hn, hy⟩
    have h1 : k * 1 ≤ k * n := Nat.mul_le_mul_left k hn
    have h2 := goS_add N x k (m + k * n - k)
    rw [show k + (m + k * n - k) = m + k * n by omega, again k, h] at h2
    exact h2.symm
theorem lap_nonneg {N : Net} (o : NetOk N) {x : Nat} (hx : x < N.length) : 0 ≤ lapOf N x := sumB_nonneg o (way_sub o hx)
def frstOf (N : Net) (b : Int) (x y : Nat) : Int := frst N b x ((path N x).idxOf y)
theorem idx_get {g : List Nat} {y : Nat} (h : y ∈ g) : g[g.idxOf y]? = some y := by
  have hix := List.idxOf_lt_length_iff.mpr h
  rw [List.getElem?_eq_getElem hix, List.getElem_idxOf hix]
theorem idx_of {g : List Nat} (hn : g.Nodup) {j y : Nat} (h : g[j]? = some y) : g.idxOf y = j := by
  obtain ⟨h1, e1⟩ := List.getElem?_eq_some_iff.mp h
  have hm := List.mem_of_getElem? h
  obtain ⟨h2, e2⟩ := List.getElem?_eq_some_iff.mp (idx_get hm)
  exact (List.getElem_inj (h₀ := h2) (h₁ := h1) hn).mp (e2.trans e1.symm)
theorem look_frst {N : Net} (o : NetOk N) {x y : Nat} (hx : x < N.length) (b : Int) (h : y ∈ path N x) : ∃ lp, lookL y (lightsL N b x) = some (frstOf N b x y, lp) :=
  ⟨_, look_some (lights_nd o hx b) (lights_get o hx b (idx_get h))⟩
/-- from a lamp on both go alike -/
theorem go_alike {N : Net} (o : NetOk N) {x1 x2 m : Nat} (h1 : x1 < N.length) (h2 : x2 < N.length) (b1 b2 : Int) (hm1 : m ∈ path N x1) (hm2 : m ∈ path N x2) :
    ∀ (k z : Nat), (path N x1)[(path N x1).idxOf m + k]? = some z → OnWay N b2 x2 (frstOf N b2 x2 m + (frst N b1 x1 ((path N x1).idxOf m + k) - frstOf N b1 x1 m)) z
  | 0, z, h => by
    have : z = m := by
      have := idx_get hm1
      rw [Nat.add_zero] at h
      rw [h] at this
      exact Option.some.inj this
    subst this
    refine ⟨(path N x2).idxOf z, 0, idx_get hm2, ?_, by decide, .inl rfl⟩
    unfold frstOf
    rw [Nat.add_zero, Int.zero_mul]
    omega
  | k + 1, z, h => by
    have hj := (List.getElem?_eq_some_iff.mp h).1
    have h0 : (path N x1)[(path N x1).idxOf m + k]? = some ((path N x1)[(path N x1).idxOf m + k]'(by omega)) := List.getElem?_eq_getElem _
    have ih := go_alike o h1 h2 b1 b2 hm1 hm2 k _ h0
    have hn := path_chain (N := N) (x := x1) N.length _ _ _ h0 h
    rcases onWay_next o h2 ih with ⟨n1, _⟩ | ⟨y, n1, n2⟩
    · rw [hn] at n1; cases n1
    · rw [hn] at n1
      cases n1
      have e : frst N b1 x1 ((path N x1).idxOf m + (k + 1)) = frst N b1 x1 ((path N x1).idxOf m + k) + burnOf N ((path N x1)[(path N x1).idxOf m + k]'(by omega)) := by
        show b1 + sumB N ((path N x1).take ((path N x1).idxOf m + k + 1)) = _
        rw [take_succ_sum N h0]
        unfold frst
        omega
      rw [e, show frstOf N b2 x2 m + (frst N b1 x1 ((path N x1).idxOf m + k) + burnOf N ((path N x1)[(path N x1).idxOf m + k]'(by omega)) - frstOf N b1 x1 m) = frstOf N b2 x2 m + (frst N b1 x1 ((path N x1).idxOf m + k) - frstOf N b1 x1 m) + burnOf N ((path N x1)[(path N x1).idxOf m + k]'(by omega)) by omega]
      exact n2
/-- the gap at a lamp behind is the same, but for laps -/
theorem gap_stays {N : Net} (o : NetOk N) {x1 x2 m z : Nat} (h1 : x1 < N.length) (h2 : x2 < N.length) (b1 b2 : Int) (hm1 : m ∈ path N x1) (hm2 : m ∈ path N x2) {j : Nat} (hj : (path N x1).idxOf m ≤ j) (hz : (path N x1)[j]? = some z) :
    z ∈ path N x2 ∧ ∃ laps : Int, frstOf N b2 x2 z - frstOf N b1 x1 z = frstOf N b2 x2 m - frstOf N b1 x1 m - laps * lapOf N x1 := by
  have e : j = (path N x1).idxOf m + (j - (path N x1).idxOf m) := by omega
  rw [e] at hz
  obtain ⟨j2, laps, hj2, ht, _⟩ := go_alike o h1 h2 b1 b2 hm1 hm2 _ z hz
  have hmem := List.mem_of_getElem? hj2
  refine ⟨hmem, laps, ?_⟩
  have ml : m < N.length := (path_been o h1).lt m hm1
  have l1 := lap_along o h1 ml (goS_path _ _ (idx_get hm1))
  have l2 := lap_along o h2 ml (goS_path _ _ (idx_get hm2))
  rw [← l2, l1] at ht
  have f2 : frstOf N b2 x2 z = frst N b2 x2 j2 := by unfold frstOf; rw [idx_of (path_been o h2).nd hj2]
  have f1 : frstOf N b1 x1 z = frst N b1 x1 ((path N x1).idxOf m + (j - (path N x1).idxOf m)) := by unfold frstOf; rw [idx_of (path_been o h1).nd hz]
  rw [f1, f2]
  omega
end Em

namespace Em
open PySem PySem.Spec PyProof.Rows L2 Qt

theorem onWay_lt {N : Net} (o : NetOk N) {b t : Int} {x z : Nat} (hx : x < N.length) (h : OnWay N b x t z) : z < N.length := by
  obtain ⟨j, _, hj, _⟩ := h
  exact (path_been o hx).lt z (List.mem_of_getElem? hj)
theorem frst_ge {N : Net} (o : NetOk N) {x : Nat} (hx : x < N.length) (b : Int) (j : Nat) : b ≤ frst N b x j := by
  unfold frst
  have := sumB_nonneg o (g := (path N x).take j) fun y hy => (path_been o hx).lt y (List.mem_of_mem_take hy)
  omega
theorem onWay_ge {N : Net} (o : NetOk N) {b t : Int} {x z : Nat} (hx : x < N.length) (h : OnWay N b x t z) : b ≤ t := by
  obtain ⟨j, laps, hj, e, h0, _⟩ := h
  have h1 := frst_ge o hx b j
  have h2 : 0 ≤ laps * lapOf N x := Int.mul_nonneg h0 (lap_nonneg o hx)
  omega
theorem onWay_uniq {N : Net} (o : NetOk N) {b t t' : Int} {x z z' : Nat} (hx : x < N.length) (h : OnWay N b x t z) (h' : OnWay N b x t' z') (h1 : t ≤ t') (h2 : t' < t + burnOf N z) : t' = t ∧ z' = z := by
  have e1 := on_place o hx (r := (t, z)) h h1 h2
  have p := burn_pos o (onWay_lt o hx h')
  have e2 := on_place o (a := t') hx (r := (t', z')) h' (Int.le_refl _) (by show t' < t' + burnOf N z'; omega)
  rw [e1] at e2
  have e3 : (z, t' - t) = (z', t' - t') := Option.some.inj e2
  have e4 := congrArg Prod.fst e3
  have e5 := congrArg Prod.snd e3
  simp only at e4 e5
  exact ⟨by omega, e4.symm⟩
theorem onWay_prev {N : Net} (o : NetOk N) {b t : Int} {x y : Nat} (hx : x < N.length) (h : OnWay N b x t y) : (t = b ∧ y = x) ∨ ∃ z t0, OnWay N b x t0 z ∧ nxt N z = some y ∧ t = t0 + burnOf N z := by
  obtain ⟨j, laps, hj, e, h0, hc⟩ := h
  have hjl := (List.getElem?_eq_some_iff.mp hj).1
  have step : ∀ i l, i + 1 = j → (l = 0 ∨ cutN N x ≤ i) → l = laps → ∃ z t0, OnWay N b x t0 z ∧ nxt N z = some y ∧ t = t0 + burnOf N z := fun i l hi hl el => by
    subst el
    have hz : (path N x)[i]? = some ((path N x)[i]'(by omega)) := List.getElem?_eq_getElem _
    refine ⟨_, frst N b x i + l * lapOf N x, ⟨i, l, hz, rfl, h0, hl⟩, ?_, ?_⟩
    · exact path_chain (N := N) (x := x) N.length i _ y hz (by rw [hi]; exact hj)
    · have : frst N b x j = frst N b x i + burnOf N ((path N x)[i]'(by omega)) := by
        have q := take_succ_sum N hz
        rw [hi] at q
        unfold frst
        omega
      omega
  by_cases hl : laps = 0
  · subst hl
    by_cases hj0 : j = 0
    · subst hj0
      obtain ⟨g, eg⟩ := path_head N x
      rw [eg] at hj
      left
      refine ⟨?_, (Option.some.inj hj).symm⟩
      rw [e]
      show b + 0 + 0 * lapOf N x = b
      rw [Int.zero_mul]; omega
    · exact .inr (step (j - 1) 0 (by omega) (.inl rfl) rfl)
  · have hcj : cutN N x ≤ j := by rcases hc with z | z <;> omega
    by_cases hjc : j = cutN N x
    · right
      subst hjc
      have hz : (path N x)[(path N x).length - 1]? = some ((path N x)[(path N x).length - 1]'(by omega)) := List.getElem?_eq_getElem _
      have lp := lap_frst o hx b
      have hf : frst N b x (path N x).length = frst N b x ((path N x).length - 1) + burnOf N ((path N x)[(path N x).length - 1]'(by omega)) := by
        unfold frst
        have := take_succ_sum N hz
        rw [show (path N x).length - 1 + 1 = (path N x).length by omega] at this
        omega
      refine ⟨_, frst N b x ((path N x).length - 1) + (laps - 1) * lapOf N x, ⟨_, laps - 1, hz, rfl, by omega, .inr (by omega)⟩, ?_, ?_⟩
      · rcases next_at o hx hz with ⟨h1, h2, h3⟩ | ⟨u, h1, h2⟩ | ⟨u, h1, h2, h3⟩
        · omega
        · have := (List.getElem?_eq_some_iff.mp h2).1
          omega
        · rw [h1, ← hj, h3]
      · rw [Int.sub_mul, Int.one_mul]
        omega
    · exact .inr (step (j - 1) laps (by omega) (.inr (by omega)) rfl)

abbrev Kds := List (Nat × Nat)
def KdsOk (N : Net) (ks : Kds) : Prop := ∀ p ∈ ks, p.2 < N.length
def On (N : Net) (ks : Kds) (f : Nat) (t : Int) (z : Nat) : Prop := ∃ p, ks[f]? = some p ∧ OnWay N (p.1 : Nat) p.2 t z
section
variable {N : Net} {ks : Kds}
theorem On.lt (o : NetOk N) (hk : KdsOk N ks) {f z : Nat} {t : Int} (h : On N ks f t z) : z < N.length := by
  obtain ⟨p, hp, h⟩ := h
  exact onWay_lt o (hk p (List.mem_of_getElem? hp)) h
theorem On.nonneg (o : NetOk N) (hk : KdsOk N ks) {f z : Nat} {t : Int} (h : On N ks f t z) : 0 ≤ t := by
  obtain ⟨p, hp, h⟩ := h
  have := onWay_ge o (hk p (List.mem_of_getElem? hp)) h
  omega
theorem On.uniq (o : NetOk N) (hk : KdsOk N ks) {f z z' : Nat} {t t' : Int} (h : On N ks f t z) (h' : On N ks f t' z') (h1 : t ≤ t') (h2 : t' < t + burnOf N z) : t' = t ∧ z' = z := by
  obtain ⟨p, hp, h⟩ := h
  obtain ⟨p', hp', h'⟩ := h'
  rw [hp] at hp'
  cases hp'
  exact onWay_uniq o (hk p (List.mem_of_getElem? hp)) h h' h1 h2
theorem On.same (o : NetOk N) (hk : KdsOk N ks) {f z z' : Nat} {t : Int} (h : On N ks f t z) (h' : On N ks f t z') : z' = z :=
  (On.uniq o hk h h' (Int.le_refl _) (by have := burn_pos o (h.lt o hk); omega)).2
/-- at one beat it burns in one lamp alone -/
theorem On.burn (o : NetOk N) (hk : KdsOk N ks) {f z z' : Nat} {t t' a : Int} (h : On N ks f t z) (h' : On N ks f t' z') (h1 : t ≤ a) (h2 : a < t + burnOf N z) (h3 : t' ≤ a) (h4 : a < t' + burnOf N z') : t' = t ∧ z' = z := by
  rcases Int.le_total t t' with q | q
  · exact On.uniq o hk h h' q (by omega)
  · obtain ⟨e1, e2⟩ := On.uniq o hk h' h q (by omega)
    exact ⟨e1.symm, e2.symm⟩
def waitK (ks : Kds) (t : Nat) : List (Nat × Nat) := (List.range ks.length).filterMap fun f => (ks[f]?).bind fun p => if p.1 = t then some (f, p.2) else none
theorem wait_mem {t : Nat} {q : Nat × Nat} : q ∈ waitK ks t ↔ ks[q.1]? = some (t, q.2) := by
  unfold waitK
  rw [List.mem_filterMap]
  constructor
  · rintro ⟨f, hf, h⟩
    cases hp : ks[f]? with
    | none => rw [hp] at h; cases h
    | some p =>
      rw [hp] at h
      simp only [Option.bind_some] at h
      by_cases e : p.1 = t
      · rw [if_pos e] at h
        cases h
        rw [hp, ← e]
      · rw [if_neg e] at h; cases h
  · intro h
    refine ⟨q.1, List.mem_range.mpr (List.getElem?_eq_some_iff.mp h).1, ?_⟩
    rw [h]
    simp
theorem wait_lt (hk : KdsOk N ks) {t : Nat} : ∀ q ∈ waitK ks t, q.2 < N.length := fun q hq => hk (t, q.2) (List.mem_of_getElem? (wait_mem.mp hq))
def stW (N : Net) (ks : Kds) : Nat → List Lt
  | 0 => List.replicate N.length none
  | t + 1 => (beatA N t (stW N ks t) (waitK ks t)).L
def rowsW (N : Net) (ks : Kds) (t : Nat) : List Row := (beatA N t (stW N ks t) (waitK ks t)).rows
theorem stW_len (o : NetOk N) (hk : KdsOk N ks) : ∀ t, (stW N ks t).length = N.length
  | 0 => List.length_replicate
  | t + 1 => (beat_at o (stW_len o hk t) (wait_lt hk)).1
def LostAt (N : Net) (ks : Kds) (t x f g : Nat) : Prop := Row.lost t x f g ∈ rowsW N ks t
def Alive (N : Net) (ks : Kds) (f t : Nat) : Prop := ∀ t', t' < t → ∀ x g, ¬ LostAt N ks t' x f g
theorem Alive.mono {f t t' : Nat} (h : Alive N ks f t) (l : t' ≤ t) : Alive N ks f t' := fun u hu => h u (by omega)
theorem Alive.next {f t : Nat} (h : Alive N ks f t) (h2 : ∀ x g, ¬ LostAt N ks t x f g) : Alive N ks f (t + 1) := fun u hu => by
  by_cases e : u = t
  · subst e; exact h2
  · exact h u (by omega)
/-- what burns ahead of a beat -/
structure InvW (N : Net) (ks : Kds) (t : Nat) : Prop where
  at_ : ∀ x f t0, (stW N ks t).getD x none = some (f, t0) ↔ t0 < t ∧ (t : Int) ≤ (t0 : Int) + burnOf N x ∧ On N ks f t0 x ∧ Alive N ks f t
  lo : ∀ t' x f g, t' < t → LostAt N ks t' x f g → On N ks f t' x
/-- it burns on at this beat -/
def Stay (N : Net) (ks : Kds) (t x g t0 : Nat) : Prop := On N ks g t0 x ∧ t0 < t ∧ (t : Int) < (t0 : Int) + burnOf N x ∧ Alive N ks g t
/-- those that come to a lamp now -/
def cmW (N : Net) (ks : Kds) (t x : Nat) : List Nat := comeL N t (stW N ks t) (waitK ks t) x
variable {t : Nat}
theorem out_iff (o : NetOk N) (hk : KdsOk N ks) (I : InvW N ks t) {x f : Nat} : outB N t (stW N ks t) x = some f ↔ ∃ t0 : Nat, t0 < t ∧ (t : Int) = (t0 : Int) + burnOf N x ∧ On N ks f t0 x ∧ Alive N ks f t := by
  unfold outB
  constructor
  · intro h
    cases e : (stW N ks t).getD x none with
    | none => rw [e] at h; cases h
    | some q =>
      obtain ⟨g, t0⟩ := q
      rw [e] at h
      simp only at h
      obtain ⟨h1, h2, h3, h4⟩ := (I.at_ x g t0).mp e
      by_cases hb : (t : Int) < (t0 : Int) + burnOf N x
      · rw [if_pos hb] at h; cases h
      · rw [if_neg hb] at h
        cases h
        exact ⟨t0, h1, by omega, h3, h4⟩
  · rintro ⟨t0, h1, h2, h3, h4⟩
    rw [(I.at_ x f t0).mpr ⟨h1, by omega, h3, h4⟩]
    simp only
    rw [if_neg (by omega)]
theorem left_iff (o : NetOk N) (hk : KdsOk N ks) (I : InvW N ks t) {x g t0 : Nat} : leftB N t (stW N ks t) x = some (g, t0) ↔ Stay N ks t x g t0 := by
  unfold leftB
  constructor
  · intro h
    cases e : outB N t (stW N ks t) x with
    | some f => rw [e] at h; cases h
    | none =>
      rw [e] at h
      simp only at h
      obtain ⟨h1, h2, h3, h4⟩ := (I.at_ x g t0).mp h
      refine ⟨h3, h1, ?_, h4⟩
      unfold outB at e
      rw [h] at e
      simp only at e
      by_cases hb : (t : Int) < (t0 : Int) + burnOf N x
      · exact hb
      · rw [if_neg hb] at e; cases e
  · rintro ⟨h1, h2, h3, h4⟩
    have hs := (I.at_ x g t0).mpr ⟨h2, by omega, h1, h4⟩
    have : outB N t (stW N ks t) x = none := by
      unfold outB
      rw [hs]
      simp only
      rw [if_pos h3]
    rw [this]
    exact hs
theorem new_mem {W : List (Nat × Nat)} {x f : Nat} : f ∈ newL W x ↔ (f, x) ∈ W := by
  unfold newL
  rw [List.mem_map]
  constructor
  · rintro ⟨p, hp, rfl⟩
    obtain ⟨h1, h2⟩ := List.mem_filter.mp hp
    have h3 : p.2 = x := of_decide_eq_true h2
    rw [← h3]
    exact h1
  · intro h
    exact ⟨(f, x), List.mem_filter.mpr ⟨h, by simp⟩, rfl⟩
theorem cm_iff (o : NetOk N) (hk : KdsOk N ks) (I : InvW N ks t) {x f : Nat} : f ∈ cmW N ks t x ↔ On N ks f t x ∧ Alive N ks f t := by
  unfold cmW comeL
  rw [List.mem_append, new_mem, wait_mem]
  unfold cameL
  rw [List.mem_filterMap]
  constructor
  · rintro (⟨j, hj, h⟩ | h)
    · unfold cameB at h
      cases e : outB N t (stW N ks t) j with
      | none => rw [e] at h; cases h
      | some g =>
        rw [e] at h
        simp only [Option.bind_some] at h
        by_cases hn : nxt N j = some x
        · rw [if_pos hn] at h
          cases h
          obtain ⟨t0, h1, h2, h3, h4⟩ := (out_iff o hk I).mp e
          refine ⟨?_, h4⟩
          obtain ⟨p, hp, h3⟩ := h3
          rcases onWay_next o (hk p (List.mem_of_getElem? hp)) h3 with ⟨q, _, _⟩ | ⟨y, q1, q2⟩
          · rw [hn] at q; cases q
          · rw [hn] at q1
            cases q1
            rw [← h2] at q2
            exact ⟨p, hp, q2⟩
        · rw [if_neg hn] at h; cases h
    · refine ⟨⟨(t, x), h, onWay_start _ _⟩, fun t' ht' y g hl => ?_⟩
      -- one that is not kindled yet is not lost
      obtain ⟨p, hp, q⟩ := I.lo t' y f g ht' hl
      rw [h] at hp
      cases hp
      have := onWay_ge o (hk _ (List.mem_of_getElem? h)) q
      omega
  · rintro ⟨⟨p, hp, h⟩, ha⟩
    rcases onWay_prev o (hk p (List.mem_of_getElem? hp)) h with ⟨h1, h2⟩ | ⟨z, t0, h1, h2, h3⟩
    · right
      rw [hp]
      have : p.1 = t := by omega
      rw [h2, ← this]
    · left
      have hz := onWay_lt o (hk p (List.mem_of_getElem? hp)) h1
      have hbz := burn_pos o hz
      have hg := onWay_ge o (hk p (List.mem_of_getElem? hp)) h1
      obtain ⟨u, rfl⟩ := Int.eq_ofNat_of_zero_le (show 0 ≤ t0 by omega)
      have : outB N t (stW N ks t) z = some f := (out_iff o hk I).mpr ⟨u, by omega, h3, ⟨p, hp, h1⟩, ha⟩
      refine ⟨z, List.mem_range.mpr hz, ?_⟩
      unfold cameB
      rw [this]
      simp only [Option.bind_some]
      rw [if_pos h2]
theorem cm_nd (o : NetOk N) (hk : KdsOk N ks) (I : InvW N ks t) (x : Nat) : (cmW N ks t x).Nodup := by
  unfold cmW comeL
  rw [List.nodup_append]
  refine ⟨?_, ?_, fun f hf g hg e => ?_⟩
  · unfold cameL
    refine List.Pairwise.filterMap (R := fun i j => i ≠ j) _ (fun i j hij f hf g hg e => ?_) List.nodup_range
    subst e
    have out : ∀ k, cameB N t (stW N ks t) x k = some f → outB N t (stW N ks t) k = some f := fun k h => by
      unfold cameB at h
      cases e : outB N t (stW N ks t) k with
      | none => rw [e] at h; cases h
      | some g =>
        rw [e] at h
        simp only [Option.bind_some] at h
        by_cases hn : nxt N k = some x
        · rw [if_pos hn] at h; exact h
        · rw [if_neg hn] at h; cases h
    obtain ⟨t1, a1, a2, a3, _⟩ := (out_iff o hk I).mp (out i hf)
    obtain ⟨t2, b1, b2, b3, _⟩ := (out_iff o hk I).mp (out j hg)
    have := On.burn o hk a3 b3 (a := (t : Int) - 1) (by omega) (by omega) (by omega) (by omega)
    exact hij this.2.symm
  · unfold newL
    rw [List.nodup_iff_pairwise_ne, List.pairwise_map]
    refine List.Pairwise.filter _ ?_
    unfold waitK
    refine List.Pairwise.filterMap (R := fun i j => i ≠ j) (S := fun a b : Nat × Nat => a.1 ≠ b.1) _ (fun i j hij p hp q hq => fun e => hij ?_) List.nodup_range
    have key : ∀ (f : Nat) (p : Nat × Nat), ((ks[f]?).bind fun p => if p.1 = t then some (f, p.2) else none) = some p → p.1 = f := fun f p h => by
      cases hp : ks[f]? with
      | none => rw [hp] at h; cases h
      | some p =>
        rw [hp] at h
        simp only [Option.bind_some] at h
        by_cases e : p.1 = t
        · rw [if_pos e] at h; cases h; rfl
        · rw [if_neg e] at h; cases h
    rw [← key i p hp, ← key j q hq, e]
  · subst e
    rw [new_mem, wait_mem] at hg
    unfold cameL at hf
    rw [List.mem_filterMap] at hf
    obtain ⟨j, _, h⟩ := hf
    unfold cameB at h
    cases e : outB N t (stW N ks t) j with
    | none => rw [e] at h; cases h
    | some g =>
      rw [e] at h
      simp only [Option.bind_some] at h
      by_cases hn : nxt N j = some x
      · rw [if_pos hn] at h
        cases h
        obtain ⟨t0, h1, h2, ⟨p, hp, h3⟩, h4⟩ := (out_iff o hk I).mp e
        rw [hg] at hp
        cases hp
        have := onWay_ge o (hk _ (List.mem_of_getElem? hg)) h3
        omega
      · rw [if_neg hn] at h; cases h
theorem row_cases (o : NetOk N) (hk : KdsOk N ks) {r : Row} : r ∈ rowsW N ks t ↔ r ∈ overL N t (stW N ks t) N.length ∨ ∃ x, x < N.length ∧ r ∈ (metB N t (stW N ks t) (waitK ks t) x).2 := by
  unfold rowsW
  rw [(beat_at o (stW_len o hk t) (wait_lt hk)).2.2, List.mem_append, List.mem_flatten]
  constructor
  · rintro (h | ⟨l, h1, h2⟩)
    · exact .inl h
    · obtain ⟨x, hx, rfl⟩ := List.mem_map.mp h1
      exact .inr ⟨x, List.mem_range.mp hx, h2⟩
  · rintro (h | ⟨x, hx, h2⟩)
    · exact .inl h
    · exact .inr ⟨_, List.mem_map.mpr ⟨x, List.mem_range.mpr hx, rfl⟩, h2⟩
theorem over_is {r : Row} (h : r ∈ overL N t (stW N ks t) N.length) : ∃ x f, x < N.length ∧ r = .ended t x f ∧ nxt N x = none ∧ outB N t (stW N ks t) x = some f := by
  unfold overL at h
  obtain ⟨x, hx, e⟩ := List.mem_filterMap.mp h
  unfold overB at e
  cases q : outB N t (stW N ks t) x with
  | none => rw [q] at e; cases e
  | some f =>
    rw [q] at e
    simp only [Option.bind_some] at e
    by_cases hn : nxt N x = none
    · rw [if_pos hn] at e
      cases e
      exact ⟨x, f, List.mem_range.mp hx, rfl, hn, q⟩
    · rw [if_neg hn] at e; cases e
theorem meet_lost {b k k' f g : Nat} {l : Lt} {fs : List Nat} : Row.lost b k' f g ∈ (meet b k l fs).2 ↔ k' = k ∧ ((∃ t0, l = some (g, t0) ∧ f ∈ fs) ∨ (l = none ∧ ∃ r, fs = g :: r ∧ f ∈ r)) := by
  cases l with
  | some p =>
    obtain ⟨h, t0⟩ := p
    show Row.lost b k' f g ∈ fs.map _ ↔ _
    rw [List.mem_map]
    constructor
    · rintro ⟨u, hu, e⟩
      cases e
      exact ⟨rfl, .inl ⟨t0, rfl, hu⟩⟩
    · rintro ⟨rfl, ⟨t1, e, hf⟩ | ⟨e, _⟩⟩
      · cases e; exact ⟨f, hf, rfl⟩
      · cases e
  | none =>
    cases fs with
    | nil =>
      constructor
      · intro h; cases h
      · rintro ⟨_, ⟨t1, e, hf⟩ | ⟨_, r, e, _⟩⟩
        · cases e
        · cases e
    | cons m r =>
      show Row.lost b k' f g ∈ Row.lit b k m :: r.map _ ↔ _
      rw [List.mem_cons, List.mem_map]
      constructor
      · rintro (h | ⟨u, hu, e⟩)
        · cases h
        · cases e
          exact ⟨rfl, .inr ⟨rfl, r, rfl, hu⟩⟩
      · rintro ⟨rfl, ⟨t1, e, hf⟩ | ⟨_, r', e, hf⟩⟩
        · cases e
        · cases e
          exact .inr ⟨f, hf, rfl⟩
theorem lost_iff (o : NetOk N) (hk : KdsOk N ks) {x f g : Nat} : LostAt N ks t x f g ↔ x < N.length ∧ ((∃ t0, leftB N t (stW N ks t) x = some (g, t0) ∧ f ∈ cmW N ks t x) ∨ (leftB N t (stW N ks t) x = none ∧ ∃ r, srt (cmW N ks t x) = g :: r ∧ f ∈ r)) := by
  unfold LostAt
  rw [row_cases o hk]
  constructor
  · rintro (h | ⟨k, hk, h⟩)
    · obtain ⟨_, _, _, e, _⟩ := over_is h
      cases e
    · unfold metB at h
      rw [meet_lost] at h
      obtain ⟨rfl, h⟩ := h
      refine ⟨hk, ?_⟩
      rcases h with ⟨t0, h1, h2⟩ | h
      · exact .inl ⟨t0, h1, (srt_perm _).mem_iff.mp h2⟩
      · exact .inr h
  · rintro ⟨hx, h⟩
    refine .inr ⟨x, hx, ?_⟩
    unfold metB
    rw [meet_lost]
    refine ⟨rfl, ?_⟩
    rcases h with ⟨t0, h1, h2⟩ | h
    · exact .inl ⟨t0, h1, (srt_perm _).mem_iff.mpr h2⟩
    · exact .inr h
theorem srt_head {g : List Nat} {m : Nat} {r : List Nat} (h : srt g = m :: r) : m ∈ g ∧ (∀ f ∈ g, m ≤ f) ∧ (∀ f, f ∈ g ↔ f = m ∨ f ∈ r) := by
  have hp := srt_perm g
  rw [h] at hp
  have hu := srt_up g
  rw [h, List.pairwise_cons] at hu
  have key : ∀ f, f ∈ g ↔ f = m ∨ f ∈ r := fun f => by rw [← hp.mem_iff, List.mem_cons]
  refine ⟨(key m).mpr (.inl rfl), fun f hf => ?_, key⟩
  rcases (key f).mp hf with e | e
  · omega
  · exact hu.1 f e
theorem srt_tail_ne {g : List Nat} {m : Nat} {r : List Nat} (hn : g.Nodup) (h : srt g = m :: r) : m ∉ r := by
  have hp := (srt_perm g).nodup_iff.mpr hn
  rw [h, List.nodup_cons] at hp
  exact hp.1
/-- the flame that lights a dark lamp -/
def Best (N : Net) (ks : Kds) (t x m : Nat) : Prop := On N ks m t x ∧ Alive N ks m t ∧ ∀ f, On N ks f t x → Alive N ks f t → m ≤ f
def Held (N : Net) (ks : Kds) (t x : Nat) : Prop := ∃ g t0, Stay N ks t x g t0
/-- who is lost at a beat: one that comes where another one burns on, or lights just now -/
theorem lost_sem (o : NetOk N) (hk : KdsOk N ks) (I : InvW N ks t) {x f g : Nat} : LostAt N ks t x f g ↔ On N ks f t x ∧ Alive N ks f t ∧ ((∃ t0, Stay N ks t x g t0) ∨ (¬ Held N ks t x ∧ Best N ks t x g ∧ g ≠ f)) := by
  rw [lost_iff o hk]
  have hnone : leftB N t (stW N ks t) x = none ↔ ¬ Held N ks t x := by
    constructor
    · rintro h ⟨g, t0, hs⟩
      rw [(left_iff o hk I).mpr hs] at h
      cases h
    · intro h
      cases e : leftB N t (stW N ks t) x with
      | none => rfl
      | some p => exact absurd ⟨p.1, p.2, (left_iff o hk I).mp e⟩ h
  constructor
  · rintro ⟨hx, ⟨t0, h1, h2⟩ | ⟨h1, r, h2, h3⟩⟩
    · obtain ⟨a, b⟩ := (cm_iff o hk I).mp h2
      exact ⟨a, b, .inl ⟨t0, (left_iff o hk I).mp h1⟩⟩
    · obtain ⟨q1, q2, q3⟩ := srt_head h2
      obtain ⟨a, b⟩ := (cm_iff o hk I).mp ((q3 f).mpr (.inr h3))
      obtain ⟨a', b'⟩ := (cm_iff o hk I).mp q1
      refine ⟨a, b, .inr ⟨hnone.mp h1, ⟨a', b', fun u hu hv => q2 u ((cm_iff o hk I).mpr ⟨hu, hv⟩)⟩, fun e => ?_⟩⟩
      exact srt_tail_ne (cm_nd o hk I x) h2 (e ▸ h3)
  · rintro ⟨h1, h2, h3⟩
    have hf := (cm_iff o hk I).mpr ⟨h1, h2⟩
    refine ⟨h1.lt o hk, ?_⟩
    rcases h3 with ⟨t0, h⟩ | ⟨h4, ⟨h5, h6, h7⟩, h8⟩
    · exact .inl ⟨t0, (left_iff o hk I).mpr h, hf⟩
    · refine .inr ⟨hnone.mpr h4, ?_⟩
      cases e : srt (cmW N ks t x) with
      | nil =>
        have := srt_perm (cmW N ks t x)
        rw [e] at this
        rw [← this.mem_iff] at hf
        cases hf
      | cons m r =>
        obtain ⟨q1, q2, q3⟩ := srt_head e
        obtain ⟨a', b'⟩ := (cm_iff o hk I).mp q1
        have e1 := h7 m a' b'
        have e2 := q2 g ((cm_iff o hk I).mpr ⟨h5, h6⟩)
        have : m = g := by omega
        subst this
        rcases (q3 f).mp hf with z | z
        · exact absurd z.symm h8
        · exact ⟨r, rfl, z⟩
/-- what burns behind a beat -/
theorem next_st (o : NetOk N) (hk : KdsOk N ks) (I : InvW N ks t) {x f t0 : Nat} (hx : x < N.length) : (stW N ks (t + 1)).getD x none = some (f, t0) ↔ Stay N ks t x f t0 ∨ (¬ Held N ks t x ∧ Best N ks t x f ∧ t0 = t) := by
  have hnone : leftB N t (stW N ks t) x = none ↔ ¬ Held N ks t x := by
    constructor
    · rintro h ⟨g, t0, hs⟩
      rw [(left_iff o hk I).mpr hs] at h
      cases h
    · intro h
      cases e : leftB N t (stW N ks t) x with
      | none => rfl
      | some p => exact absurd ⟨p.1, p.2, (left_iff o hk I).mp e⟩ h
  show (beatA N t (stW N ks t) (waitK ks t)).L.getD x none = _ ↔ _
  rw [(beat_at o (stW_len o hk t) (wait_lt hk)).2.1 x hx]
  unfold metB
  cases e : leftB N t (stW N ks t) x with
  | some p =>
    obtain ⟨g, u⟩ := p
    have hs := (left_iff o hk I).mp e
    show some (g, u) = some (f, t0) ↔ _
    constructor
    · intro h
      cases h
      exact .inl hs
    · rintro (h | ⟨h, _⟩)
      · have := (left_iff o hk I).mpr h
        rw [e] at this
        exact this
      · exact absurd ⟨g, u, hs⟩ h
  | none =>
    have hn := hnone.mp e
    cases e2 : srt (comeL N t (stW N ks t) (waitK ks t) x) with
    | nil =>
      show none = some (f, t0) ↔ _
      constructor
      · intro h; cases h
      · rintro (h | ⟨_, ⟨h1, h2, _⟩, _⟩)
        · exact absurd ⟨f, t0, h⟩ hn
        · have hf := (cm_iff o hk I).mpr ⟨h1, h2⟩
          have := srt_perm (cmW N ks t x)
          rw [show srt (cmW N ks t x) = [] from e2] at this
          rw [← this.mem_iff] at hf
          cases hf
    | cons m r =>
      obtain ⟨q1, q2, q3⟩ := srt_head (g := cmW N ks t x) e2
      obtain ⟨a', b'⟩ := (cm_iff o hk I).mp q1
      show some (m, t) = some (f, t0) ↔ _
      constructor
      · intro h
        cases h
        exact .inr ⟨hn, ⟨a', b', fun u hu hv => q2 u ((cm_iff o hk I).mpr ⟨hu, hv⟩)⟩, rfl⟩
      · rintro (h | ⟨_, ⟨h1, h2, h3⟩, rfl⟩)
        · exact absurd ⟨f, t0, h⟩ hn
        · have e1 := h3 m a' b'
          have e4 := q2 f ((cm_iff o hk I).mpr ⟨h1, h2⟩)
          have : m = f := by omega
          rw [this]
theorem inv_step (o : NetOk N) (hk : KdsOk N ks) (I : InvW N ks t) : InvW N ks (t + 1) := by
  refine ⟨fun x f t0 => ?_, fun t' x f g ht hl => ?_⟩
  · by_cases hx : x < N.length
    · rw [next_st o hk I hx]
      constructor
      · rintro (⟨h1, h2, h3, h4⟩ | ⟨h1, ⟨h2, h3, h4⟩, rfl⟩)
        · refine ⟨by omega, by omega, h1, h4.next fun y g hl => ?_⟩
          obtain ⟨q1, q2, q3⟩ := (lost_sem o hk I).mp hl
          have := On.uniq o hk h1 q1 (by omega) h3
          omega
        · have hb := burn_pos o hx
          refine ⟨by omega, by omega, h2, h3.next fun y g hl => ?_⟩
          obtain ⟨q1, q2, q3⟩ := (lost_sem o hk I).mp hl
          have e := On.same o hk h2 q1
          subst e
          rcases q3 with ⟨t1, q3⟩ | ⟨_, q3, q4⟩
          · exact h1 ⟨g, t1, q3⟩
          · have e1 := h4 g q3.1 q3.2.1
            have e2 := q3.2.2 f h2 h3
            omega
      · rintro ⟨h1, h2, h3, h4⟩
        by_cases e : t0 = t
        · subst e
          right
          have ha : Alive N ks f t0 := h4.mono (Nat.le_succ _)
          have hnl := h4 t0 (Nat.lt_succ_self _)
          have hh : ¬ Held N ks t0 x := fun ⟨g, u, hs⟩ => hnl x g ((lost_sem o hk I).mpr ⟨h3, ha, .inl ⟨u, hs⟩⟩)
          refine ⟨hh, ⟨h3, ha, fun u hu hv => ?_⟩, rfl⟩
          -- the least of those that come
          rcases Nat.lt_or_ge u f with q | q
          · exfalso
            have hne : cmW N ks t0 x ≠ [] := fun z => by
              have := (cm_iff o hk I).mpr ⟨hu, hv⟩
              rw [z] at this
              cases this
            cases e2 : srt (cmW N ks t0 x) with
            | nil =>
              have := srt_perm (cmW N ks t0 x)
              rw [e2] at this
              exact hne this.symm.eq_nil
            | cons m r =>
              obtain ⟨q1, q2, q3⟩ := srt_head e2
              obtain ⟨a', b'⟩ := (cm_iff o hk I).mp q1
              have := q2 u ((cm_iff o hk I).mpr ⟨hu, hv⟩)
              exact hnl x m ((lost_sem o hk I).mpr ⟨h3, ha, .inr ⟨hh, ⟨a', b', fun v hv1 hv2 => q2 v ((cm_iff o hk I).mpr ⟨hv1, hv2⟩)⟩, by omega⟩⟩)
          · exact q
        · exact .inl ⟨h3, by omega, by omega, h4.mono (Nat.le_succ _)⟩
    · constructor
      · intro h
        rw [List.getD_eq_getElem?_getD, List.getElem?_eq_none (by rw [stW_len o hk]; omega)] at h
        cases h
      · rintro ⟨_, _, h, _⟩
        exact absurd (h.lt o hk) hx
  · by_cases e : t' = t
    · subst e
      exact ((lost_sem o hk I).mp hl).1
    · exact I.lo t' x f g (by omega) hl
theorem inv_all (o : NetOk N) (hk : KdsOk N ks) : ∀ t, InvW N ks t
  | 0 => ⟨fun x f t0 => by
      constructor
      · intro h
        rw [show stW N ks 0 = List.replicate N.length none from rfl, List.getD_eq_getElem?_getD, List.getElem?_replicate] at h
        split at h <;> cases h
      · rintro ⟨h, _⟩
        omega, fun t' x f g h => by omega⟩
  | t + 1 => inv_step o hk (inv_all o hk t)
end
end Em

namespace Em
open PySem PySem.Spec PyProof.Rows L2 Qt

def Cl (N : Net) (ks : Kds) (b : Int) (x f g : Nat) : Prop := f ≠ g ∧ On N ks f b x ∧ ((On N ks g b x ∧ g < f) ∨ ∃ t0, On N ks g t0 x ∧ t0 < b ∧ b < t0 + burnOf N x)
/-- their first clash -/
def FC (N : Net) (ks : Kds) (b : Int) (x f g : Nat) : Prop := Cl N ks b x f g ∧ ∀ b' x', b' < b → ¬ Cl N ks b' x' f g ∧ ¬ Cl N ks b' x' g f
section
variable {N : Net} {ks : Kds}
theorem Cl.nonneg (o : NetOk N) (hk : KdsOk N ks) {b : Int} {x f g : Nat} (h : Cl N ks b x f g) : 0 ≤ b := h.2.1.nonneg o hk
theorem best_has (o : NetOk N) (hk : KdsOk N ks) {t x f : Nat} (h1 : On N ks f t x) (h2 : Alive N ks f t) : ∃ m, Best N ks t x m ∧ m ≤ f := by
  have I := inv_all o hk t
  have hf := (cm_iff o hk I).mpr ⟨h1, h2⟩
  cases e : srt (cmW N ks t x) with
  | nil =>
    have := srt_perm (cmW N ks t x)
    rw [e] at this
    rw [← this.mem_iff] at hf
    cases hf
  | cons m r =>
    obtain ⟨q1, q2, q3⟩ := srt_head e
    obtain ⟨a', b'⟩ := (cm_iff o hk I).mp q1
    exact ⟨m, ⟨a', b', fun u hu hv => q2 u ((cm_iff o hk I).mpr ⟨hu, hv⟩)⟩, q2 f hf⟩
/-- where two clash that were not lost ahead, the one is lost to the other, or the other one is lost just there -/
theorem clash_sharp (o : NetOk N) (hk : KdsOk N ks) {t x u v : Nat} (h : Cl N ks t x u v) (hu : Alive N ks u t) (hv : Alive N ks v t) : LostAt N ks t x u v ∨ ∃ h, LostAt N ks t x v h ∧ v < u := by
  have I := inv_all o hk t
  obtain ⟨hne, h1, ⟨h2, h3⟩ | ⟨t0, h2, h3, h4⟩⟩ := h
  · by_cases hh : Held N ks t x
    · obtain ⟨g, t0, hs⟩ := hh
      exact .inr ⟨g, (lost_sem o hk I).mpr ⟨h2, hv, .inl ⟨t0, hs⟩⟩, h3⟩
    · obtain ⟨m, hm, hmv⟩ := best_has o hk h2 hv
      by_cases e : m = v
      · subst e
        exact .inl ((lost_sem o hk I).mpr ⟨h1, hu, .inr ⟨hh, hm, by omega⟩⟩)
      · exact .inr ⟨m, (lost_sem o hk I).mpr ⟨h2, hv, .inr ⟨hh, hm, e⟩⟩, h3⟩
  · have := h2.nonneg o hk
    obtain ⟨u0, rfl⟩ := Int.eq_ofNat_of_zero_le this
    exact .inl ((lost_sem o hk I).mpr ⟨h1, hu, .inl ⟨u0, h2, by omega, h4, hv⟩⟩)
theorem lost_cl (o : NetOk N) (hk : KdsOk N ks) {t x f g : Nat} (h : LostAt N ks t x f g) : Cl N ks t x f g ∧ Alive N ks f t ∧ Alive N ks g t := by
  have I := inv_all o hk t
  obtain ⟨h1, h2, ⟨t0, a1, a2, a3, a4⟩ | ⟨h3, h4, h5⟩⟩ := (lost_sem o hk I).mp h
  · refine ⟨⟨fun e => ?_, h1, .inr ⟨t0, a1, by omega, a3⟩⟩, h2, a4⟩
    subst e
    have := On.uniq o hk a1 h1 (by omega) a3
    omega
  · have := h4.2.2 f h1 h2
    exact ⟨⟨fun e => h5 e.symm, h1, .inl ⟨h4.1, by omega⟩⟩, h2, h4.2.1⟩
/-- the other one goes on -/
theorem lost_goes (o : NetOk N) (hk : KdsOk N ks) {t x f g : Nat} (h : LostAt N ks t x f g) : ∀ y h, ¬ LostAt N ks t y g h := by
  intro y u hl
  have I := inv_all o hk t
  obtain ⟨q1, q2, q3⟩ := (lost_sem o hk I).mp hl
  obtain ⟨h1, h2, ⟨t0, a1, a2, a3, a4⟩ | ⟨h3, h4, h5⟩⟩ := (lost_sem o hk I).mp h
  · have := On.uniq o hk a1 q1 (by omega) a3
    omega
  · have e := On.same o hk h4.1 q1
    subst e
    rcases q3 with ⟨t0, q3⟩ | ⟨_, q4, q5⟩
    · exact h3 ⟨u, t0, q3⟩
    · have e1 := h4.2.2 u q4.1 q4.2.1
      have e2 := q4.2.2 g h4.1 h4.2.1
      omega
theorem lost_fc (o : NetOk N) (hk : KdsOk N ks) {t x f g : Nat} (h : LostAt N ks t x f g) : FC N ks t x f g := by
  obtain ⟨hc, hf, hg⟩ := lost_cl o hk h
  refine ⟨hc, fun b' x' hb => ⟨fun z => ?_, fun z => ?_⟩⟩
  · obtain ⟨s, rfl⟩ := Int.eq_ofNat_of_zero_le (z.nonneg o hk)
    have hs : s < t := by omega
    rcases clash_sharp o hk z (hf.mono (Nat.le_of_lt hs)) (hg.mono (Nat.le_of_lt hs)) with q | ⟨u, q, _⟩
    · exact hf s hs _ _ q
    · exact hg s hs _ _ q
  · obtain ⟨s, rfl⟩ := Int.eq_ofNat_of_zero_le (z.nonneg o hk)
    have hs : s < t := by omega
    rcases clash_sharp o hk z (hg.mono (Nat.le_of_lt hs)) (hf.mono (Nat.le_of_lt hs)) with q | ⟨u, q, _⟩
    · exact hg s hs _ _ q
    · exact hf s hs _ _ q
theorem lost_once (o : NetOk N) (hk : KdsOk N ks) {t t' x x' f g g' : Nat} (h : LostAt N ks t x f g) (h' : LostAt N ks t' x' f g') : t' = t ∧ x' = x ∧ g' = g := by
  have ha := (lost_cl o hk h).2.1
  have ha' := (lost_cl o hk h').2.1
  have et : t' = t := by
    rcases Nat.lt_trichotomy t t' with q | q | q
    · exact absurd h (ha' t q _ _)
    · exact q.symm
    · exact absurd h' (ha t' q _ _)
  subst et
  have I := inv_all o hk t'
  obtain ⟨h1, h2, h3⟩ := (lost_sem o hk I).mp h
  obtain ⟨h1', h2', h3'⟩ := (lost_sem o hk I).mp h'
  have ex := On.same o hk h1 h1'
  subst ex
  refine ⟨rfl, rfl, ?_⟩
  rcases h3 with ⟨t0, a⟩ | ⟨n, b1, b2⟩ <;> rcases h3' with ⟨t1, a'⟩ | ⟨n', b1', b2'⟩
  · have e1 := (left_iff o hk I).mpr a
    rw [(left_iff o hk I).mpr a'] at e1
    exact congrArg Prod.fst (Option.some.inj e1)
  · exact absurd ⟨_, _, a⟩ n'
  · exact absurd ⟨_, _, a'⟩ n
  · have e1 := b1.2.2 g' b1'.1 b1'.2.1
    have e2 := b1'.2.2 g b1.1 b1.2.1
    omega
abbrev C4 := Int × Nat × Nat × Nat
def c4L (c : C4) : List Int := [c.1, c.2.1, c.2.2.1, c.2.2.2]
def LostC (N : Net) (ks : Kds) (c : C4) : Prop := ∃ t : Nat, c.1 = t ∧ LostAt N ks t c.2.1 c.2.2.1 c.2.2.2
def FCc (N : Net) (ks : Kds) (c : C4) : Prop := FC N ks c.1 c.2.1 c.2.2.1 c.2.2.2
def grd (rows : List C4) (e : C4) : List C4 := if e.2.2.1 ∈ rows.map (·.2.2.1) ∨ e.2.2.2 ∈ rows.map (·.2.2.1) then rows else rows ++ [e]
def grdA (C : List C4) : List C4 := C.foldl grd []
theorem lex_beat {a b : C4} (h : a.1 < b.1) : lexL (c4L a) (c4L b) = true := by
  unfold c4L
  rw [lexL_cons, if_neg (by omega)]
  exact decide_eq_true h
theorem lex_flame {b : Int} {x f f' g g' : Nat} (h : f < f') : lexL (c4L (b, x, f, g)) (c4L (b, x, f', g')) = true := by
  unfold c4L
  simp only
  rw [lexL_cons, if_pos rfl, lexL_cons, if_pos rfl, lexL_cons, if_neg (by omega)]
  exact decide_eq_true (by omega)
theorem lexL_irr : ∀ x : List Int, lexL x x = false
  | [] => rfl
  | a :: as => by rw [lexL_cons, if_pos rfl]; exact lexL_irr as
def SrtC (C : List C4) : Prop := C.Pairwise fun a b => lexL (c4L b) (c4L a) = false
theorem grd_ok (o : NetOk N) (hk : KdsOk N ks) {C : List C4} (hs : SrtC C) (hc : ∀ c ∈ C, FCc N ks c) (ha : ∀ c, LostC N ks c → c ∈ C) :
    ∀ (post pre rows : List C4), C = pre ++ post → (∀ c, c ∈ rows ↔ c ∈ pre ∧ LostC N ks c) → rows.Sublist pre → C.Nodup → (∀ c, c ∈ post.foldl grd rows ↔ LostC N ks c) ∧ (post.foldl grd rows).Sublist C
  | [], pre, rows, e, h1, h2, _ => by
    rw [List.append_nil] at e
    subst e
    exact ⟨fun c => ⟨fun h => ((h1 c).mp h).2, fun h => (h1 c).mpr ⟨ha c h, h⟩⟩, h2⟩
  | e :: post, pre, rows, eC, h1, h2, hn => by
    have eC2 : C = (pre ++ [e]) ++ post := by rw [eC]; simp
    have hin : e ∈ C := by rw [eC]; simp
    have hpre : ∀ c ∈ C, lexL (c4L c) (c4L e) = true → c ∈ pre := fun c hcC hl => by
      rw [eC] at hcC
      rcases List.mem_append.mp hcC with z | z
      · exact z
      · exfalso
        have hs2 : SrtC (pre ++ e :: post) := by rw [← eC]; exact hs
        have hp := (List.pairwise_append.mp hs2).2.1
        rcases List.mem_cons.mp z with rfl | z
        · rw [lexL_irr] at hl; cases hl
        · rw [(List.pairwise_cons.mp hp).1 c z] at hl; cases hl
    have hnp : e ∉ pre := fun z => by
      rw [eC] at hn
      exact (List.nodup_append.mp hn).2.2 e z e (by simp) rfl
    -- the flames that were lost by now
    have hlost : ∀ f, f ∈ rows.map (·.2.2.1) ↔ ∃ c ∈ pre, LostC N ks c ∧ c.2.2.1 = f := fun f => by
      rw [List.mem_map]
      constructor
      · rintro ⟨c, hc, rfl⟩
        exact ⟨c, ((h1 c).mp hc).1, ((h1 c).mp hc).2, rfl⟩
      · rintro ⟨c, hc, hl, rfl⟩
        exact ⟨c, (h1 c).mpr ⟨hc, hl⟩, rfl⟩
    obtain ⟨b, x, f, g⟩ := e
    have hfc : FC N ks b x f g := hc _ hin
    obtain ⟨t, rfl⟩ := Int.eq_ofNat_of_zero_le (hfc.1.nonneg o hk)
    by_cases hL : LostC N ks ((t : Int), x, f, g)
    · -- it is a loss: neither was lost ahead
      have hLA : LostAt N ks t x f g := by
        obtain ⟨t', e1, h⟩ := hL
        simp only at e1
        have : t' = t := by omega
        subst this
        exact h
      have hno : ¬ (f ∈ rows.map (·.2.2.1) ∨ g ∈ rows.map (·.2.2.1)) := by
        rintro (z | z)
        · obtain ⟨c, hcp, ⟨t', e1, hl⟩, e2⟩ := (hlost f).mp z
          obtain ⟨b', x', f', g'⟩ := c
          simp only at e1 e2 hl
          subst e2
          obtain ⟨r1, r2, r3⟩ := lost_once o hk hLA hl
          subst r1; subst r2; subst r3; subst e1
          exact hnp hcp
        · obtain ⟨c, hcp, ⟨t', e1, hl⟩, e2⟩ := (hlost g).mp z
          obtain ⟨b', x', f', g'⟩ := c
          simp only at e1 e2 hl
          subst e2; subst e1
          have hle : lexL (c4L ((t : Int), x, f, f')) (c4L ((t' : Int), x', f', g')) = false := by
            have hs2 : SrtC (pre ++ ((t : Int), x, f, f') :: post) := by rw [← eC]; exact hs
            exact (List.pairwise_append.mp hs2).2.2 _ hcp _ (by simp)
          have htt : t' ≤ t := by
            rcases Nat.lt_or_ge t t' with q | q
            · have := lex_beat (a := ((t : Int), x, f, f')) (b := ((t' : Int), x', f', g')) (by show (t : Int) < t'; omega)
              rw [this] at hle; cases hle
            · exact q
          by_cases e3 : t' = t
          · subst e3
            exact lost_goes o hk hLA x' g' hl
          · exact (lost_cl o hk hLA).2.2 t' (by omega) _ _ hl
      have estep : grd rows ((t : Int), x, f, g) = rows ++ [((t : Int), x, f, g)] := by unfold grd; rw [if_neg hno]
      rw [List.foldl_cons, estep]
      refine grd_ok o hk hs hc ha post (pre ++ [((t : Int), x, f, g)]) _ eC2 (fun c => ?_) (h2.append (List.Sublist.refl _)) hn
      rw [List.mem_append, List.mem_append, h1 c]
      constructor
      · rintro (⟨z1, z2⟩ | z)
        · exact ⟨.inl z1, z2⟩
        · rw [List.mem_singleton.mp z]; exact ⟨.inr (by simp), hL⟩
      · rintro ⟨z1 | z1, z2⟩
        · exact .inl ⟨z1, z2⟩
        · exact .inr z1
    · -- it is none: one of the two was lost ahead
      have hyes : f ∈ rows.map (·.2.2.1) ∨ g ∈ rows.map (·.2.2.1) := by
        have ahead : ∀ u, ¬ Alive N ks u t → u ∈ rows.map (·.2.2.1) := fun u hu => by
          obtain ⟨s, hst, y, h, hl⟩ : ∃ s, s < t ∧ ∃ y h, LostAt N ks s y u h := Classical.byContradiction fun z => hu fun s hs y h hl => z ⟨s, hs, y, h, hl⟩
          refine (hlost u).mpr ⟨((s : Int), y, u, h), ?_, ⟨s, rfl, hl⟩, rfl⟩
          exact hpre _ (ha _ ⟨s, rfl, hl⟩) (lex_beat (by show (s : Int) < t; omega))
        by_cases hf : Alive N ks f t
        · by_cases hg : Alive N ks g t
          · rcases clash_sharp o hk hfc.1 hf hg with q | ⟨u, q, hlt⟩
            · exact absurd ⟨t, rfl, q⟩ hL
            · right
              refine (hlost g).mpr ⟨((t : Int), x, g, u), ?_, ⟨t, rfl, q⟩, rfl⟩
              exact hpre _ (ha _ ⟨t, rfl, q⟩) (lex_flame hlt)
          · exact .inr (ahead g hg)
        · exact .inl (ahead f hf)
      have estep : grd rows ((t : Int), x, f, g) = rows := by unfold grd; rw [if_pos hyes]
      rw [List.foldl_cons, estep]
      refine grd_ok o hk hs hc ha post (pre ++ [((t : Int), x, f, g)]) _ eC2 (fun c => ?_) (h2.trans (List.sublist_append_left _ _)) hn
      rw [List.mem_append, h1 c]
      constructor
      · rintro ⟨z1, z2⟩
        exact ⟨.inl z1, z2⟩
      · rintro ⟨z1 | z1, z2⟩
        · exact ⟨z1, z2⟩
        · rw [List.mem_singleton.mp z1] at z2
          exact absurd z2 hL
/-- the told losses are those of the walk -/
theorem grd_all (o : NetOk N) (hk : KdsOk N ks) {C : List C4} (hs : SrtC C) (hn : C.Nodup) (hc : ∀ c ∈ C, FCc N ks c) (ha : ∀ c, LostC N ks c → c ∈ C) :
    (∀ c, c ∈ grdA C ↔ LostC N ks c) ∧ (grdA C).Sublist C :=
  grd_ok o hk hs hc ha C [] [] rfl (fun c => by simp) (List.Sublist.refl _) hn
end
end Em

namespace Em
open PySem PySem.Spec PyProof.Rows L2 Qt

def Hits (w : Int × Option Int) (t : Int) : Prop := match w.2 with
  | none => t = w.1
  | some L => ∃ k : Int, 0 ≤ k ∧ t = w.1 + k * L
def lapY (N : Net) (y : Nat) : Option Int := if y ∈ wayR N y then some (lapOf N y) else none
section
variable {N : Net}
theorem path_lt (o : NetOk N) {x y : Nat} (hx : x < N.length) (h : y ∈ path N x) : y < N.length := (path_been o hx).lt y h
theorem goS_idx {x y : Nat} (h : y ∈ path N x) : goS N ((path N x).idxOf y) x = some y := goS_path _ _ (idx_get h)
theorem wayR_own (o : NetOk N) {x y : Nat} (hx : x < N.length) (h : y ∈ path N x) : y ∈ wayR N x ↔ y ∈ wayR N y := by
  have hy := path_lt o hx h
  rw [wayR_iff o hx, wayR_iff o hy]
  constructor
  · rintro ⟨_, h2⟩
    exact ⟨⟨0, rfl⟩, h2⟩
  · rintro ⟨_, h2⟩
    exact ⟨⟨_, goS_idx h⟩, h2⟩
theorem look_lap (o : NetOk N) {x y : Nat} (hx : x < N.length) (b : Int) (h : y ∈ path N x) : lookL y (lightsL N b x) = some (frstOf N b x y, lapY N y) := by
  have hg := lights_get o hx b (idx_get h)
  rw [look_some (lights_nd o hx b) hg]
  congr 2
  have hcut : (path N x).idxOf y < cutN N x ↔ y ∉ wayR N x := by
    rw [wayR_get]
    constructor
    · rintro h1 ⟨j, h2, h3⟩
      have := idx_of (path_been o hx).nd h3
      omega
    · intro h1
      rcases Nat.lt_or_ge ((path N x).idxOf y) (cutN N x) with q | q
      · exact q
      · exact absurd ⟨_, q, idx_get h⟩ h1
  unfold lapY
  by_cases hr : y ∈ wayR N x
  · rw [if_neg (fun z => hcut.mp z hr), if_pos ((wayR_own o hx h).mp hr), lap_along o hx (path_lt o hx h) (goS_idx h)]
  · rw [if_pos (hcut.mpr hr), if_neg (fun z => hr ((wayR_own o hx h).mpr z))]
theorem look_mem {x y : Nat} {b : Int} {w : Int × Option Int} (h : lookL y (lightsL N b x) = some w) : y ∈ path N x := by
  rw [← lights_fst N b x]
  by_cases hy : y ∈ (lightsL N b x).map (·.1)
  · exact hy
  · rw [look_none hy] at h; cases h
theorem onWay_iff (o : NetOk N) {x y : Nat} (hx : x < N.length) {b t : Int} : OnWay N b x t y ↔ y ∈ path N x ∧ Hits (frstOf N b x y, lapY N y) t := by
  constructor
  · rintro ⟨j, laps, hj, e, h0, hc⟩
    have hm := List.mem_of_getElem? hj
    have hi := idx_of (path_been o hx).nd hj
    have ef : frstOf N b x y = frst N b x j := by unfold frstOf; rw [hi]
    refine ⟨hm, ?_⟩
    unfold Hits lapY
    by_cases hr : y ∈ wayR N y
    · simp only
      rw [if_pos hr]
      simp only
      exact ⟨laps, h0, by rw [ef, e, lap_along o hx (path_lt o hx hm) (goS_idx hm)]⟩
    · simp only
      rw [if_neg hr]
      simp only
      have : laps = 0 := by
        rcases hc with z | z
        · exact z
        · exact absurd ((wayR_own o hx hm).mp (wayR_get.mpr ⟨j, z, hj⟩)) hr
      rw [e, ef, this, Int.zero_mul, Int.add_zero]
  · rintro ⟨hm, h⟩
    have hj := idx_get hm
    unfold Hits lapY at h
    by_cases hr : y ∈ wayR N y
    · simp only at h
      rw [if_pos hr] at h
      simp only at h
      obtain ⟨k, h0, e⟩ := h
      refine ⟨_, k, hj, ?_, h0, .inr ?_⟩
      · rw [e, lap_along o hx (path_lt o hx hm) (goS_idx hm)]; rfl
      · obtain ⟨j, h2, h3⟩ := wayR_get.mp ((wayR_own o hx hm).mpr hr)
        rw [idx_of (path_been o hx).nd h3]
        exact h2
    · simp only at h
      rw [if_neg hr] at h
      simp only at h
      refine ⟨_, 0, hj, ?_, by decide, .inl rfl⟩
      rw [h, Int.zero_mul, Int.add_zero]; rfl
theorem burn_lap (o : NetOk N) {y : Nat} (hy : y < N.length) (hr : y ∈ wayR N y) : burnOf N y ≤ lapOf N y := by
  have key : ∀ g : List Nat, (∀ z ∈ g, z < N.length) → y ∈ g → burnOf N y ≤ sumB N g := fun g => by
    induction g with
    | nil => intro _ h; cases h
    | cons z r ih =>
      intro h1 h2
      rw [sumB_cons]
      have hz := burn_pos o (h1 z List.mem_cons_self)
      have hs := sumB_nonneg o (g := r) fun u hu => h1 u (List.mem_cons_of_mem _ hu)
      rcases List.mem_cons.mp h2 with rfl | h2
      · omega
      · have := ih (fun u hu => h1 u (List.mem_cons_of_mem _ hu)) h2
        omega
  exact key _ (way_sub o hy) hr
end
def gapC (lap : Option Int) (d : Int) : Int := match lap with
  | none => d
  | some L => d % L
def clashL (len : Int) (lap : Option Int) (e l : Int × Nat) : Option (Int × Nat × Nat) :=
  if gapC lap (l.1 - e.1) = 0 then some (l.1, max e.2 l.2, min e.2 l.2)
  else if gapC lap (l.1 - e.1) < len then some (l.1, l.2, e.2)
  else match lap with
    | none => none
    | some L => if L - gapC lap (l.1 - e.1) < len then some (l.1 + L - gapC lap (l.1 - e.1), e.2, l.2) else none
/-- two that clash on a lamp, by when each lights it -/
def Cw (len : Int) (A B : Int → Prop) (b : Int) (f g : Nat) : Prop := f ≠ g ∧ A b ∧ ((B b ∧ g < f) ∨ ∃ t0, B t0 ∧ t0 < b ∧ b < t0 + len)
theorem mod_is {L d e k : Int} (h0 : 0 ≤ d) (h1 : d < L) (h : d = e + k * L) : d = e % L := by
  rw [← Int.emod_eq_of_lt h0 h1, h, Int.add_mul_emod_self_right]
theorem clash_ok {len : Int} {lap : Option Int} {e l : Int × Nat} (h1 : 1 ≤ len) (hL : ∀ L, lap = some L → len ≤ L) (hel : e.1 ≤ l.1) (hne : e.2 ≠ l.2) {A B : Int → Prop} (hA : ∀ t, A t ↔ Hits (e.1, lap) t) (hB : ∀ t, B t ↔ Hits (l.1, lap) t) :
    (∀ b u v, clashL len lap e l = some (b, u, v) → ((u = e.2 ∧ v = l.2 ∧ Cw len A B b u v) ∨ (u = l.2 ∧ v = e.2 ∧ Cw len B A b u v)) ∧ ∀ b', (Cw len A B b' e.2 l.2 ∨ Cw len B A b' l.2 e.2) → b ≤ b') ∧
    (clashL len lap e l = none → ∀ b', ¬ Cw len A B b' e.2 l.2 ∧ ¬ Cw len B A b' l.2 e.2) := by
  obtain ⟨fe, ue⟩ := e
  obtain ⟨fl, ul⟩ := l
  simp only at hel hne hA hB
  cases lap with
  | none =>
    have hA' : ∀ t, A t ↔ t = fe := hA
    have hB' : ∀ t, B t ↔ t = fl := hB
    have hc : clashL len none (fe, ue) (fl, ul) = if fl - fe = 0 then some (fl, max ue ul, min ue ul) else if fl - fe < len then some (fl, ul, ue) else none := rfl
    rw [hc]
    have c1 : ∀ b', Cw len A B b' ue ul → b' = fe ∧ fl = fe := fun b' ⟨_, a, q⟩ => by
      have a := (hA' _).mp a
      rcases q with ⟨q, _⟩ | ⟨t0, q, q1, q2⟩
      · have := (hB' _).mp q; omega
      · have := (hB' _).mp q; omega
    have c2 : ∀ b', Cw len B A b' ul ue → b' = fl ∧ fl - fe < len := fun b' ⟨_, a, q⟩ => by
      have a := (hB' _).mp a
      rcases q with ⟨q, _⟩ | ⟨t0, q, q1, q2⟩
      · have := (hA' _).mp q; omega
      · have := (hA' _).mp q; omega
    by_cases g0 : fl - fe = 0
    · rw [if_pos g0]
      refine ⟨fun b u v h => ?_, fun h => by cases h⟩
      cases h
      have e1 : fl = fe := by omega
      subst e1
      refine ⟨?_, fun b' q => ?_⟩
      · rcases Nat.lt_or_ge ue ul with q | q
        · right
          rw [Nat.max_eq_right (Nat.le_of_lt q), Nat.min_eq_left (Nat.le_of_lt q)]
          exact ⟨rfl, rfl, fun z => hne z.symm, (hB' _).mpr rfl, .inl ⟨(hA' _).mpr rfl, q⟩⟩
        · left
          rw [Nat.max_eq_left q, Nat.min_eq_right q]
          exact ⟨rfl, rfl, hne, (hA' _).mpr rfl, .inl ⟨(hB' _).mpr rfl, by omega⟩⟩
      · rcases q with q | q
        · have := (c1 b' q).1; omega
        · have := (c2 b' q).1; omega
    · rw [if_neg g0]
      by_cases g1 : fl - fe < len
      · rw [if_pos g1]
        refine ⟨fun b u v h => ?_, fun h => by cases h⟩
        cases h
        refine ⟨.inr ⟨rfl, rfl, fun z => hne z.symm, (hB' _).mpr rfl, .inr ⟨fe, (hA' _).mpr rfl, by omega, by omega⟩⟩, fun b' q => ?_⟩
        rcases q with q | q
        · have := (c1 b' q).2; omega
        · have := (c2 b' q).1; omega
      · rw [if_neg g1]
        refine ⟨(fun b u v h => by cases h), fun _ b' => ⟨fun q => ?_, fun q => ?_⟩⟩
        · have := (c1 b' q).2; omega
        · have := (c2 b' q).2; omega
  | some L =>
    have hLl := hL L rfl
    have hA' : ∀ t, A t ↔ ∃ k : Int, 0 ≤ k ∧ t = fe + k * L := hA
    have hB' : ∀ t, B t ↔ ∃ k : Int, 0 ≤ k ∧ t = fl + k * L := hB
    obtain ⟨gp, eg⟩ : ∃ gp, gp = (fl - fe) % L := ⟨_, rfl⟩
    have hc : clashL len (some L) (fe, ue) (fl, ul) = if gp = 0 then some (fl, max ue ul, min ue ul) else if gp < len then some (fl, ul, ue) else if L - gp < len then some (fl + L - gp, ue, ul) else none := by
      rw [eg]; rfl
    rw [hc]
    have g0 : 0 ≤ gp := by rw [eg]; exact Int.emod_nonneg _ (by omega)
    have gL : gp < L := by rw [eg]; exact Int.emod_lt_of_pos _ (by omega)
    obtain ⟨q, eq⟩ : ∃ q : Int, q = (fl - fe) / L := ⟨_, rfl⟩
    have hq0 : 0 ≤ q := by rw [eq]; exact Int.ediv_nonneg (by omega) (by omega)
    have hfl : fl = fe + q * L + gp := by
      have := Int.emod_add_mul_ediv (fl - fe) L
      rw [← eg, ← eq] at this
      rw [Int.mul_comm] at this
      omega
    have bB : ∀ t, B t → fl ≤ t := fun t h => by
      obtain ⟨k, k0, e⟩ := (hB' t).mp h
      have : 0 ≤ k * L := Int.mul_nonneg k0 (by omega)
      omega
    -- how far they stand apart
    have dAB : ∀ s t, A s → B t → 0 ≤ t - s → t - s < L → t - s = gp := fun s t hs ht z1 z2 => by
      obtain ⟨k, k0, e1⟩ := (hA' s).mp hs
      obtain ⟨m, m0, e2⟩ := (hB' t).mp ht
      rw [eg]
      refine mod_is z1 z2 (k := m - k) ?_
      rw [Int.sub_mul]; omega
    have dBA : ∀ s t, A s → B t → 0 < s - t → s - t < L → s - t = L - gp ∧ gp ≠ 0 := fun s t hs ht z1 z2 => by
      obtain ⟨k, k0, e1⟩ := (hA' s).mp hs
      obtain ⟨m, m0, e2⟩ := (hB' t).mp ht
      have : L - (s - t) = gp := by
        rw [eg]
        refine mod_is (by omega) (by omega) (k := m - k + 1) ?_
        rw [Int.add_mul, Int.sub_mul]; omega
      omega
    have c1 : ∀ b', Cw len A B b' ue ul → fl ≤ b' ∧ (gp = 0 ∨ (L - gp < len ∧ gp ≠ 0 ∧ fl + L - gp ≤ b')) := fun b' ⟨_, a, q⟩ => by
      rcases q with ⟨q, _⟩ | ⟨t0, q, q1, q2⟩
      · have := dAB b' b' a q (by omega) (by omega)
        exact ⟨bB _ q, .inl (by omega)⟩
      · have h3 := bB _ q
        obtain ⟨h4, h5⟩ := dBA b' t0 a q (by omega) (by omega)
        exact ⟨by omega, .inr ⟨by omega, h5, by omega⟩⟩
    have c2 : ∀ b', Cw len B A b' ul ue → fl ≤ b' ∧ gp < len := fun b' ⟨_, a, q⟩ => by
      rcases q with ⟨q, _⟩ | ⟨t0, q, q1, q2⟩
      · have := dAB b' b' q a (by omega) (by omega)
        exact ⟨bB _ a, by omega⟩
      · have := dAB t0 b' q a (by omega) (by omega)
        exact ⟨bB _ a, by omega⟩
    have hBl : B fl := (hB' _).mpr ⟨0, by omega, by rw [Int.zero_mul]; omega⟩
    by_cases z0 : gp = 0
    · rw [if_pos z0]
      refine ⟨fun b u v h => ?_, fun h => by cases h⟩
      cases h
      have hAl : A fl := (hA' _).mpr ⟨q, hq0, by omega⟩
      refine ⟨?_, fun b' q => ?_⟩
      · rcases Nat.lt_or_ge ue ul with q | q
        · right
          rw [Nat.max_eq_right (Nat.le_of_lt q), Nat.min_eq_left (Nat.le_of_lt q)]
          exact ⟨rfl, rfl, fun z => hne z.symm, hBl, .inl ⟨hAl, q⟩⟩
        · left
          rw [Nat.max_eq_left q, Nat.min_eq_right q]
          exact ⟨rfl, rfl, hne, hAl, .inl ⟨hBl, by omega⟩⟩
      · rcases q with q | q
        · exact (c1 b' q).1
        · exact (c2 b' q).1
    · rw [if_neg z0]
      by_cases z1 : gp < len
      · rw [if_pos z1]
        refine ⟨fun b u v h => ?_, fun h => by cases h⟩
        cases h
        refine ⟨.inr ⟨rfl, rfl, fun z => hne z.symm, hBl, .inr ⟨fe + q * L, (hA' _).mpr ⟨q, hq0, rfl⟩, by omega, by omega⟩⟩, fun b' q => ?_⟩
        rcases q with q | q
        · exact (c1 b' q).1
        · exact (c2 b' q).1
      · rw [if_neg z1]
        by_cases z2 : L - gp < len
        · rw [if_pos z2]
          refine ⟨fun b u v h => ?_, fun h => by cases h⟩
          cases h
          refine ⟨.inl ⟨rfl, rfl, hne, (hA' _).mpr ⟨q + 1, by omega, by rw [Int.add_mul]; omega⟩, .inr ⟨fl, hBl, by omega, by omega⟩⟩, fun b' q => ?_⟩
          rcases q with q | q
          · rcases (c1 b' q).2 with z | ⟨_, _, z⟩
            · exact absurd z z0
            · exact z
          · exact absurd (c2 b' q).2 z1
        · rw [if_neg z2]
          refine ⟨(fun b u v h => by cases h), fun _ b' => ⟨fun q => ?_, fun q => ?_⟩⟩
          · rcases (c1 b' q).2 with z | ⟨z, _, _⟩
            · exact absurd z z0
            · exact absurd z z2
          · exact absurd (c2 b' q).2 z1
def srt2 (a b : Int × Nat) : (Int × Nat) × (Int × Nat) := if b.1 < a.1 ∨ (b.1 = a.1 ∧ b.2 < a.2) then (b, a) else (a, b)
theorem srt2_le (a b : Int × Nat) : (srt2 a b).1.1 ≤ (srt2 a b).2.1 := by
  unfold srt2
  split
  · show b.1 ≤ a.1; omega
  · show a.1 ≤ b.1; omega
theorem srt2_or (a b : Int × Nat) : srt2 a b = (a, b) ∨ srt2 a b = (b, a) := by
  unfold srt2
  split
  · exact .inr rfl
  · exact .inl rfl
def pairC (N : Net) (Lo : List Lgt) (one other : Nat) (z : Lgt) : Option C4 := (lookL z.1 Lo).bind fun w =>
  (clashL (burnOf N z.1) z.2.2 (srt2 (z.2.1, one) (w.1, other)).1 (srt2 (z.2.1, one) (w.1, other)).2).map fun c => (c.1, z.1, c.2.1, c.2.2)
def pairL (N : Net) (Ln Lo : List Lgt) (one other : Nat) : List C4 := Ln.filterMap (pairC N Lo one other)
section
variable {N : Net} {ks : Kds}
/-- on a lamp of both ways -/
theorem pair_lamp (o : NetOk N) (hk : KdsOk N ks) {one other y : Nat} {p p' : Nat × Nat} (hp : ks[one]? = some p) (hp' : ks[other]? = some p') (hne : one ≠ other) (hy : y ∈ path N p.2) (hy' : y ∈ path N p'.2) {z : Lgt} (hz : z = (y, frstOf N p.1 p.2 y, lapY N y)) :
    (∀ c, pairC N (lightsL N p'.1 p'.2) one other z = some c → Cl N ks c.1 c.2.1 c.2.2.1 c.2.2.2 ∧ c.2.1 = y ∧ ((c.2.2.1 = one ∧ c.2.2.2 = other) ∨ (c.2.2.1 = other ∧ c.2.2.2 = one)) ∧ ∀ b', (Cl N ks b' y one other ∨ Cl N ks b' y other one) → c.1 ≤ b') ∧
    (pairC N (lightsL N p'.1 p'.2) one other z = none → ∀ b', ¬ Cl N ks b' y one other ∧ ¬ Cl N ks b' y other one) := by
  subst hz
  have hx := hk p (List.mem_of_getElem? hp)
  have hx' := hk p' (List.mem_of_getElem? hp')
  have hyl := path_lt o hx hy
  have onA : ∀ t, On N ks one t y ↔ Hits (frstOf N p.1 p.2 y, lapY N y) t := fun t => by
    constructor
    · rintro ⟨q, hq, h⟩
      rw [hp] at hq
      cases hq
      exact ((onWay_iff o hx).mp h).2
    · intro h
      exact ⟨p, hp, (onWay_iff o hx).mpr ⟨hy, h⟩⟩
  have onB : ∀ t, On N ks other t y ↔ Hits (frstOf N p'.1 p'.2 y, lapY N y) t := fun t => by
    constructor
    · rintro ⟨q, hq, h⟩
      rw [hp'] at hq
      cases hq
      exact ((onWay_iff o hx').mp h).2
    · intro h
      exact ⟨p', hp', (onWay_iff o hx').mpr ⟨hy', h⟩⟩
  have hL : ∀ L, lapY N y = some L → burnOf N y ≤ L := fun L h => by
    unfold lapY at h
    by_cases hr : y ∈ wayR N y
    · rw [if_pos hr] at h
      cases h
      exact burn_lap o hyl hr
    · rw [if_neg hr] at h; cases h
  have hc : pairC N (lightsL N p'.1 p'.2) one other (y, frstOf N p.1 p.2 y, lapY N y) = (clashL (burnOf N y) (lapY N y) (srt2 (frstOf N p.1 p.2 y, one) (frstOf N p'.1 p'.2 y, other)).1 (srt2 (frstOf N p.1 p.2 y, one) (frstOf N p'.1 p'.2 y, other)).2).map fun c => (c.1, y, c.2.1, c.2.2) := by
    unfold pairC
    simp only
    rw [look_lap o hx' p'.1 hy']
    rfl
  rw [hc]
  have cw : ∀ {b f g}, Cw (burnOf N y) (fun t => On N ks f t y) (fun t => On N ks g t y) b f g ↔ Cl N ks b y f g := Iff.rfl
  have hle := srt2_le (frstOf N p.1 p.2 y, one) (frstOf N p'.1 p'.2 y, other)
  rcases srt2_or (frstOf N p.1 p.2 y, one) (frstOf N p'.1 p'.2 y, other) with e | e
  · rw [e] at hle ⊢
    simp only at hle ⊢
    obtain ⟨k1, k2⟩ := clash_ok (e := (frstOf N p.1 p.2 y, one)) (l := (frstOf N p'.1 p'.2 y, other)) (burn_pos o hyl) hL hle hne onA onB
    refine ⟨fun c h => ?_, fun h => k2 (by simpa using h)⟩
    cases e1 : clashL (burnOf N y) (lapY N y) (frstOf N p.1 p.2 y, one) (frstOf N p'.1 p'.2 y, other) with
    | none => rw [e1] at h; cases h
    | some d =>
      obtain ⟨b, u, v⟩ := d
      rw [e1] at h
      cases h
      obtain ⟨r1, r2⟩ := k1 b u v e1
      rcases r1 with ⟨rfl, rfl, r⟩ | ⟨rfl, rfl, r⟩
      · exact ⟨cw.mp r, rfl, .inl ⟨rfl, rfl⟩, fun b' q => r2 b' (q.imp cw.mpr cw.mpr)⟩
      · exact ⟨cw.mp r, rfl, .inr ⟨rfl, rfl⟩, fun b' q => r2 b' (q.imp cw.mpr cw.mpr)⟩
  · rw [e] at hle ⊢
    simp only at hle ⊢
    obtain ⟨k1, k2⟩ := clash_ok (e := (frstOf N p'.1 p'.2 y, other)) (l := (frstOf N p.1 p.2 y, one)) (burn_pos o hyl) hL hle (Ne.symm hne) onB onA
    refine ⟨fun c h => ?_, fun h b' => (k2 (by simpa using h) b').symm⟩
    cases e1 : clashL (burnOf N y) (lapY N y) (frstOf N p'.1 p'.2 y, other) (frstOf N p.1 p.2 y, one) with
    | none => rw [e1] at h; cases h
    | some d =>
      obtain ⟨b, u, v⟩ := d
      rw [e1] at h
      cases h
      obtain ⟨r1, r2⟩ := k1 b u v e1
      rcases r1 with ⟨rfl, rfl, r⟩ | ⟨rfl, rfl, r⟩
      · exact ⟨cw.mp r, rfl, .inr ⟨rfl, rfl⟩, fun b' q => r2 b' (q.symm.imp cw.mpr cw.mpr)⟩
      · exact ⟨cw.mp r, rfl, .inl ⟨rfl, rfl⟩, fun b' q => r2 b' (q.symm.imp cw.mpr cw.mpr)⟩
theorem lights_is (o : NetOk N) {x : Nat} (hx : x < N.length) {b : Int} {z : Lgt} (h : z ∈ lightsL N b x) : z.1 ∈ path N x ∧ z = (z.1, frstOf N b x z.1, lapY N z.1) := by
  have hm : z.1 ∈ path N x := by rw [← lights_fst N b x]; exact List.mem_map.mpr ⟨z, h, rfl⟩
  refine ⟨hm, ?_⟩
  obtain ⟨j, hj, e⟩ := List.getElem_of_mem h
  have h2 := List.getElem?_eq_getElem hj
  rw [e] at h2
  have h3 := look_some (lights_nd o hx b) (j := j) (y := z.1) (w := z.2) h2
  rw [look_lap o hx b hm] at h3
  have := Option.some.inj h3
  rw [this]
/-- each clash that is told is one, and the first on its lamp; a clash is no sooner than one that is told -/
theorem pair_mem (o : NetOk N) (hk : KdsOk N ks) {one other : Nat} {p p' : Nat × Nat} (hp : ks[one]? = some p) (hp' : ks[other]? = some p') (hne : one ≠ other) :
    (∀ c ∈ pairL N (lightsL N p.1 p.2) (lightsL N p'.1 p'.2) one other, Cl N ks c.1 c.2.1 c.2.2.1 c.2.2.2 ∧ ((c.2.2.1 = one ∧ c.2.2.2 = other) ∨ (c.2.2.1 = other ∧ c.2.2.2 = one))) ∧
    (∀ b' y, (Cl N ks b' y one other ∨ Cl N ks b' y other one) → ∃ c ∈ pairL N (lightsL N p.1 p.2) (lightsL N p'.1 p'.2) one other, c.1 ≤ b') := by
  have hx := hk p (List.mem_of_getElem? hp)
  have hx' := hk p' (List.mem_of_getElem? hp')
  refine ⟨fun c hc => ?_, fun b' y h => ?_⟩
  · unfold pairL at hc
    obtain ⟨z, hz, e⟩ := List.mem_filterMap.mp hc
    obtain ⟨m1, m2⟩ := lights_is o hx hz
    have m3 : z.1 ∈ path N p'.2 := by
      unfold pairC at e
      cases q : lookL z.1 (lightsL N p'.1 p'.2) with
      | none => rw [q] at e; cases e
      | some w => exact look_mem q
    obtain ⟨a, b, c', _⟩ := (pair_lamp o hk hp hp' hne m1 m3 m2).1 c e
    exact ⟨a, c'⟩
  · have on1 : y ∈ path N p.2 := by
      have hon : ∃ t, On N ks one t y := by
        rcases h with ⟨_, h, _⟩ | ⟨_, _, ⟨h, _⟩ | ⟨t0, h, _⟩⟩
        · exact ⟨_, h⟩
        · exact ⟨_, h⟩
        · exact ⟨_, h⟩
      obtain ⟨t, q, hq, h⟩ := hon
      rw [hp] at hq
      cases hq
      exact ((onWay_iff o hx).mp h).1
    have on2 : y ∈ path N p'.2 := by
      have hon : ∃ t, On N ks other t y := by
        rcases h with ⟨_, _, ⟨h, _⟩ | ⟨t0, h, _⟩⟩ | ⟨_, h, _⟩
        · exact ⟨_, h⟩
        · exact ⟨_, h⟩
        · exact ⟨_, h⟩
      obtain ⟨t, q, hq, h⟩ := hon
      rw [hp'] at hq
      cases hq
      exact ((onWay_iff o hx').mp h).1
    have hz : (y, frstOf N p.1 p.2 y, lapY N y) ∈ lightsL N p.1 p.2 := by
      have h1 : y ∈ (lightsL N p.1 p.2).map (·.1) := by rw [lights_fst]; exact on1
      obtain ⟨z, hz, e⟩ := List.mem_map.mp h1
      have := (lights_is o hx hz).2
      rw [e] at this
      rw [← this]
      exact hz
    obtain ⟨k1, k2⟩ := pair_lamp o hk hp hp' hne on1 on2 rfl
    cases e : pairC N (lightsL N p'.1 p'.2) one other (y, frstOf N p.1 p.2 y, lapY N y) with
    | none =>
      have := k2 e b'
      rcases h with h | h
      · exact absurd h this.1
      · exact absurd h this.2
    | some c => exact ⟨c, List.mem_filterMap.mpr ⟨_, hz, e⟩, (k1 c e).2.2.2 b' h⟩
/-- at one beat two clash in one lamp, one way -/
theorem cl_uniq (o : NetOk N) (hk : KdsOk N ks) {b : Int} {x x' f g : Nat} (h : Cl N ks b x f g) : (Cl N ks b x' f g → x' = x) ∧ ¬ Cl N ks b x' g f := by
  obtain ⟨hne, h1, h2⟩ := h
  refine ⟨fun h' => On.same o hk h1 h'.2.1, ?_⟩
  rintro ⟨_, h3, h4⟩
  rcases h2 with ⟨h2, q⟩ | ⟨t0, h2, q1, q2⟩
  · rcases h4 with ⟨h4, q'⟩ | ⟨t1, h4, q1', q2'⟩
    · omega
    · have := On.uniq o hk h4 h1 (by omega) q2'
      omega
  · have := On.uniq o hk h2 h3 (by omega) q2
    omega
theorem fc_uniq (o : NetOk N) (hk : KdsOk N ks) {c c' : C4} (h : FCc N ks c) (h' : FCc N ks c') (hp : (c'.2.2.1 = c.2.2.1 ∧ c'.2.2.2 = c.2.2.2) ∨ (c'.2.2.1 = c.2.2.2 ∧ c'.2.2.2 = c.2.2.1)) : c' = c := by
  obtain ⟨b, x, f, g⟩ := c
  obtain ⟨b', x', f', g'⟩ := c'
  obtain ⟨h1, h2⟩ : FC N ks b x f g := h
  obtain ⟨h1', h2'⟩ : FC N ks b' x' f' g' := h'
  simp only at hp
  have eb : b' = b := by
    rcases Int.lt_trichotomy b b' with q | q | q
    · exfalso
      have := h2' b x q
      rcases hp with ⟨rfl, rfl⟩ | ⟨rfl, rfl⟩
      · exact this.1 h1
      · exact this.2 h1
    · exact q.symm
    · exfalso
      have := h2 b' x' q
      rcases hp with ⟨rfl, rfl⟩ | ⟨rfl, rfl⟩
      · exact this.1 h1'
      · exact this.2 h1'
  subst eb
  rcases hp with ⟨rfl, rfl⟩ | ⟨rfl, rfl⟩
  · rw [(cl_uniq o hk h1).1 h1']
  · exact absurd h1' (cl_uniq o hk h1).2
/-- the least one told is their first clash -/
theorem pair_min (o : NetOk N) (hk : KdsOk N ks) {one other : Nat} {p p' : Nat × Nat} (hp : ks[one]? = some p) (hp' : ks[other]? = some p') (hne : one ≠ other) {c : C4} (hc : c ∈ pairL N (lightsL N p.1 p.2) (lightsL N p'.1 p'.2) one other)
    (hm : ∀ d ∈ pairL N (lightsL N p.1 p.2) (lightsL N p'.1 p'.2) one other, lexL (c4L d) (c4L c) = false) : FCc N ks c := by
  obtain ⟨k1, k2⟩ := pair_mem o hk hp hp' hne
  obtain ⟨a, b⟩ := k1 c hc
  have key : ∀ b' x', b' < c.1 → ¬ (Cl N ks b' x' one other ∨ Cl N ks b' x' other one) := fun b' x' hb h => by
    obtain ⟨d, hd, hle⟩ := k2 b' x' h
    have := lex_beat (a := d) (b := c) (by omega)
    rw [hm d hd] at this
    cases this
  refine ⟨a, fun b' x' hb => ⟨fun h => key b' x' hb ?_, fun h => key b' x' hb ?_⟩⟩
  · rcases b with ⟨e1, e2⟩ | ⟨e1, e2⟩ <;> rw [e1, e2] at h
    · exact .inl h
    · exact .inr h
  · rcases b with ⟨e1, e2⟩ | ⟨e1, e2⟩ <;> rw [e1, e2] at h
    · exact .inr h
    · exact .inl h
end
end Em

namespace Em
open PySem PySem.Spec PyProof.Rows L2 Qt

section
variable {prog : Program} {w : World} {A : Around}
/-- what stood stands, but for what the walk writes, and the list that holds the best -/
def Stoods (wr : List Addr) (S : Addr) (h h' : Heap) : Prop := ∀ a ob, a ∉ wr → a ≠ S → h.get? a = some ob → h'.get? a = some ob
theorem Stoods.tr {wr : List Addr} {S : Addr} {h h1 h2 : Heap} (p : Stoods wr S h h1) (q : Stoods wr S h1 h2) : Stoods wr S h h2 := fun a ob n m e => q a ob n m (p a ob n m e)
/-- comparisons that need something of the heap -/
def CmpGm (prog : Program) (w : World) (A : Around) (op : CmpOp) (G : Heap → Prop) (P : Nat → Value → Prop) (bt : Nat → Nat → Bool) : Prop :=
  ∀ i j x y (s : Shared) (Q E : Value → Shared → Prop), G s.heap → P i x → P j y → Q (.bool (bt i j)) s → wpAny (model prog w) A (richCompare op x y) Q E s
theorem bestS {wr fp : List Addr} {I S : Addr} (hs : S ∉ fp) {h : Heap} (f : Array Value → Array Value) : ∀ b ∈ fp, ∀ ob, h.get? b = some ob → (h.update S (Obj.mapSeq f)).get? b = some ob := fun b hb ob e =>
  (Heap.get?_update_other _ _ (fun z : S = b => hs (z ▸ hb))).trans e
theorem stoodS {wr : List Addr} {S : Addr} {h : Heap} (f : Array Value → Array Value) : Stoods wr S h (h.update S (Obj.mapSeq f)) := fun b ob _ hb e => (Heap.get?_update_other _ _ (Ne.symm hb)).trans e
theorem minG_go {R : Result → Shared → Prop} {I S : Addr} {fp wr : List Addr} {n : Nat} {P : Nat → Value → Prop} {St : Nat → Heap → Prop} (W : Walks prog w A.in1 I fp wr n P St) {G : Heap → Prop} {bt : Nat → Nat → Bool} {kw : List (Str × Value)}
    (hg : ∀ h h', G h → Stoods wr S h h' → G h') (hc : CmpGm prog w A.in1 .Lt G P bt) (hs : S ∉ fp) :
    ∀ (m i : Nat) (s : Shared) (best : Value) (ep : Nat), n = i + 1 + m → St (i + 1) s.heap → G s.heap → P (argBest bt i) best → s.heap.get? S = some { cls := .type "list", dict := none, data := .seq #[best, best] ep, slots := #[] } →
      (∀ v h' tk, P (argBest bt (n - 1)) v → Stoods wr S s.heap h' → R (.ok (.ret v)) { s with heap := h', toks := tk }) → codeAny (model prog w) A (.builtin "min.loop" ⟨[.ref I, .none, .ref S], kw⟩) R s := by
  have hw : S ∉ wr := fun z => hs (W.sub _ z)
  have nm : (toString "min" ++ toString ".loop" : String) = "min.loop" := by decide
  intro m
  induction m with
  | zero =>
    intro i s best ep en st g hp hS hR
    refine codeAny_builtin F.entry_min_loop ?_
    rw [Around.under_plainId F.plain_min_loop _]
    show wpAny _ A.in1 (seqItems? (Value.ref S) >>= _) _ _ s
    refine wpAny_bind (wpAny_seqItems hS rfl ?_)
    show wpAny _ A.in1 (tryCatch (pyNext (Value.ref I)) _ >>= _) _ _ s
    have e1 : i + 1 = n := by omega
    refine wpAny_bind (wpAny_tryCatch (W.done s _ _ (e1 ▸ st) fun h1 tk k1 => ?_))
    have hS1 := k1 S _ hw hS
    show wpAny _ A.in1 (updateSeq S (fun _ => #[]) >>= _) _ _ _
    refine wpAny_bind (wpAny_updateSeq hS1 rfl (wpAny_bind (wpAny_letGo (wpAny_pure ?_))))
    have e2 : n - 1 = i := by omega
    exact hR best _ tk (by rw [e2]; exact hp) (Stoods.tr (fun b ob hb _ e => k1 b ob hb e) (stoodS _))
  | succ m ih =>
    intro i s best ep en st g hp hS hR
    refine codeAny_builtin F.entry_min_loop ?_
    rw [Around.under_plainId F.plain_min_loop _]
    show wpAny _ A.in1 (seqItems? (Value.ref S) >>= _) _ _ s
    refine wpAny_bind (wpAny_seqItems hS rfl ?_)
    show wpAny _ A.in1 (tryCatch (pyNext (Value.ref I)) _ >>= _) _ _ s
    refine wpAny_bind (wpAny_tryCatch (W.item (i + 1) s _ _ (by omega) st fun x h1 tk px st1 k1 => ?_))
    have hS1 := k1 S _ hw hS
    have kk : Stoods wr S s.heap h1 := fun b ob hb _ e => k1 b ob hb e
    have g1 := hg _ _ g kk
    show wpAny _ A.in1 (tryCatch (holding [x, x] (richCompare .Lt x best >>= _)) _ >>= _) _ _ _
    refine wpAny_bind (wpAny_tryCatch (wpAny_holding (wpAny_bind (hc (i + 1) (argBest bt i) x best _ _ _ g1 px hp ?_))))
    refine wpAny_bind (wpAny_holding (wpAny_truthy_bool ?_))
    refine wpAny_bind (wpAny_letGo (wpAny_pure ?_))
    cases eb : bt (i + 1) (argBest bt i) with
    | true =>
      have ebest : argBest bt (i + 1) = i + 1 := by
        show (if bt (i + 1) (argBest bt i) = true then _ else _) = _
        rw [if_pos eb]
      rw [if_pos rfl]
      refine wpAny_bind (wpAny_updateSeq hS1 rfl (wpAny_bind (wpAny_letGo ?_)))
      rw [nm]
      have ks : Stoods wr S s.heap _ := Stoods.tr kk (stoodS (h := h1) (fun _ => #[x, x]))
      refine wpAny_pure ⟨plainId_quiet F.plain_min_loop _, ih (i + 1) _ x _ (by omega) (W.frame _ _ _ st1 (bestS (wr := wr) (I := I) hs _)) (hg _ _ g ks) (by rw [ebest]; exact px) (Heap.get?_update_self _ hS1 rfl) fun v h2 tk2 pv k2 => ?_⟩
      exact hR v h2 tk2 pv (ks.tr k2)
    | false =>
      have ebest : argBest bt (i + 1) = argBest bt i := by
        show (if bt (i + 1) (argBest bt i) = true then _ else _) = _
        rw [if_neg (by rw [eb]; exact Bool.false_ne_true)]
      rw [if_neg Bool.false_ne_true]
      refine wpAny_bind (wpAny_letGo ?_)
      rw [nm]
      refine wpAny_pure ⟨plainId_quiet F.plain_min_loop _, ih (i + 1) _ best ep (by omega) st1 g1 (by rw [ebest]; exact hp) hS1 fun v h2 tk2 pv k2 => ?_⟩
      exact hR v h2 tk2 pv (kk.tr k2)
theorem minG_start {R : Result → Shared → Prop} {I S : Addr} {fp wr : List Addr} {n : Nat} {P : Nat → Value → Prop} {St : Nat → Heap → Prop} (W : Walks prog w A.in1 I fp wr n P St) {G : Heap → Prop} {bt : Nat → Nat → Bool} {d : Value} {s : Shared} {ep : Nat}
    (hg : ∀ h h', G h → Stoods wr S h h' → G h') (hc : CmpGm prog w A.in1 .Lt G P bt) (hs : S ∉ fp) (st : St 0 s.heap) (g : G s.heap) (hS : s.heap.get? S = some { cls := .type "list", dict := none, data := .seq #[] ep, slots := #[] })
    (h0 : n = 0 → ∀ h' tk, Stoods wr S s.heap h' → R (.ok (.ret d)) { s with heap := h', toks := tk })
    (h1 : 0 < n → ∀ v h' tk, P (argBest bt (n - 1)) v → Stoods wr S s.heap h' → R (.ok (.ret v)) { s with heap := h', toks := tk }) : codeAny (model prog w) A (.builtin "min.loop" ⟨[.ref I, .none, .ref S], [("default", d)]⟩) R s := by
  have hw : S ∉ wr := fun z => hs (W.sub _ z)
  have nm : (toString "min" ++ toString ".loop" : String) = "min.loop" := by decide
  refine codeAny_builtin F.entry_min_loop ?_
  rw [Around.under_plainId F.plain_min_loop _]
  show wpAny _ A.in1 (seqItems? (Value.ref S) >>= _) _ _ s
  refine wpAny_bind (wpAny_seqItems hS rfl ?_)
  show wpAny _ A.in1 (tryCatch (pyNext (Value.ref I)) _ >>= _) _ _ s
  cases n with
  | zero =>
    refine wpAny_bind (wpAny_tryCatch (W.done s _ _ st fun h' tk k => ?_))
    show wpAny _ A.in1 (rule _ >>= _) _ _ _
    refine wpAny_bind (wpAny_rule (wpAny_pure ?_))
    exact h0 rfl h' tk fun b ob hb _ e => k b ob hb e
  | succ n =>
    refine wpAny_bind (wpAny_tryCatch (W.item 0 s _ _ (Nat.zero_lt_succ _) st fun x h' tk px st1 k1 => ?_))
    have hS1 := k1 S _ hw hS
    have kk : Stoods wr S s.heap h' := fun b ob hb _ e => k1 b ob hb e
    have ks : Stoods wr S s.heap _ := Stoods.tr kk (stoodS (h := h') (fun _ => #[x, x]))
    show wpAny _ A.in1 (updateSeq S (fun _ => #[x, x]) >>= _) _ _ _
    refine wpAny_bind (wpAny_updateSeq hS1 rfl ?_)
    rw [nm]
    refine wpAny_pure ⟨plainId_quiet F.plain_min_loop _, minG_go W hg hc hs n 0 _ x _ (by omega) (W.frame _ _ _ st1 (bestS (wr := wr) (I := I) hs _)) (hg _ _ g ks) px (Heap.get?_update_self _ hS1 rfl) fun v h2 tk2 pv k2 => ?_⟩
    exact h1 (Nat.zero_lt_succ _) v h2 tk2 pv (ks.tr k2)
theorem argsMinD (a d : Value) : argsOk "min" ⟨[a], [("default", d)]⟩ := by unfold argsOk; kernel_rfl
theorem minD_call {E : Value → Shared → Prop} {s : Shared} {x d : Value} {Q : Value → Shared → Prop}
    (h : wpAny (model prog w) A.in1 (pyIter x) (fun it s2 => ∃ I fp wr n P St bt G, it = .ref I ∧ Walks prog w A.in1 I fp wr n P St ∧ St 0 s2.heap ∧ (∀ b ∈ fp, b < s2.heap.objs.size) ∧ (∀ S, s2.heap.objs.size ≤ S → ∀ h h', G h → Stoods wr S h h' → G h') ∧ G (s2.heap.push { cls := .type "list", dict := none, data := .seq #[] 0, slots := #[] }) ∧ CmpGm prog w A.in1 .Lt G P bt ∧
      (n = 0 → ∀ h' tk, (∀ b o, b ∉ wr → s2.heap.get? b = some o → h'.get? b = some o) → Q d { s2 with heap := h', toks := tk }) ∧
      (0 < n → ∀ v h' tk, P (argBest bt (n - 1)) v → (∀ b o, b ∉ wr → s2.heap.get? b = some o → h'.get? b = some o) → Q v { s2 with heap := h', toks := tk })) E s) :
    wpAny (model prog w) A (call (.builtin "min") [x] [("default", d)]) Q E s := by
  have nm : (toString "min" ++ toString ".loop" : String) = "min.loop" := by decide
  have body : wpAny (model prog w) A.in1 (Builtin.«min» ⟨[x], [("default", d)]⟩) (fun fin s' => match fin with
      | .done f => (match (Except.ok f : Result) with | .ok (.ret v) => Q v s' | .ok _ => False | .error e => E e s')
      | .again c => c.quiet = true ∧ codeAny (model prog w) A c (fun r s2 => match r with | .ok (.ret v) => Q v s2 | .ok _ => False | .error e => E e s2) s') E s := by
    show wpAny _ A.in1 (Builtin.Builtins.bindParams "min" ["key", "default"] 0 ⟨[], [("default", d)]⟩ >>= _) _ _ s
    refine wpAny_bind (wpAny_of_eq (show Builtin.Builtins.bindParams "min" ["key", "default"] 0 ⟨[], [("default", d)]⟩ = pure [none, some d] from rfl) ?_)
    refine wpAny_bind (wpAny_pure (wpAny_bind (wpAny_mono h (fun it s2 hh => ?_) fun _ _ e => e)))
    obtain ⟨I, fp, wr, n, P, St, bt, G, rfl, W, st, hfp, hg, g, hc, q0, q1⟩ := hh
    refine wpAny_bind (wpAny_newObj_type ?_)
    have hs : s2.heap.objs.size ∉ fp := fun z => Nat.lt_irrefl _ (hfp _ z)
    rw [nm]
    have old : ∀ h' : Heap, Stoods wr s2.heap.objs.size (s2.heap.push { cls := .type "list", dict := none, data := .seq #[] 0, slots := #[] }) h' → ∀ b o, b ∉ wr → s2.heap.get? b = some o → h'.get? b = some o := fun h' k b o hb e =>
      k b o hb (Nat.ne_of_lt (Heap.lt_size e)) (Heap.get?_push_of_some _ e)
    exact wpAny_pure ⟨plainId_quiet F.plain_min_loop _, minG_start W (hg _ (Nat.le_refl _)) hc hs (W.frame _ _ _ st fun b _ o e => Heap.get?_push_of_some _ e) g (Heap.get?_push_size _ rfl) (fun z h' tk k => q0 z h' tk (old h' k)) fun z v h' tk pv k => q1 z v h' tk pv (old h' k)⟩
  refine wpAny_call (codeAny_call_builtin F.plain_min F.entry_min ?_)
  simp only [checkBuiltinCall, F.kind_min]
  cases hsig : Manifest.signature? "min" with
  | none => exact wpAny_pure body
  | some sig =>
    have ha : Bind.checkArgs "min" sig ⟨[x], [("default", d)]⟩ = pure () := by
      have := argsMinD x d
      simpa only [argsOk, hsig] using this
    simp only [ha]
    exact wpAny_pure body
end
theorem lexL_lt : ∀ x y : List Int, lexL x y = HT.lexLt x y
  | [], [] => rfl
  | [], _ :: _ => rfl
  | _ :: _, [] => rfl
  | a :: as, b :: bs => by
    rw [lexL_cons, HT.lexLt_cons, lexL_lt as bs]
/-- the best so far is the least -/
theorem best_least {bt : Nat → Nat → Bool} {key : Nat → List Int} (h : ∀ i j, bt i j = lexL (key i) (key j)) : ∀ n, argBest bt n ≤ n ∧ ∀ j, j ≤ n → lexL (key j) (key (argBest bt n)) = false
  | 0 => ⟨Nat.le_refl _, fun j hj => by
      obtain rfl : j = 0 := by omega
      show lexL (key 0) (key 0) = false
      cases e : lexL (key 0) (key 0) with
      | false => rfl
      | true => exact (lexL_asym _ _ e).symm.trans e ▸ rfl⟩
  | n + 1 => by
    obtain ⟨h1, h2⟩ := best_least h n
    show (if bt (n + 1) (argBest bt n) = true then n + 1 else argBest bt n) ≤ n + 1 ∧ ∀ j, j ≤ n + 1 → lexL (key j) (key (if bt (n + 1) (argBest bt n) = true then n + 1 else argBest bt n)) = false
    have irr : ∀ x : List Int, lexL x x = false := fun x => by
      cases e : lexL x x with
      | false => rfl
      | true => rw [lexL_asym _ _ e] at e; cases e
    cases eb : bt (n + 1) (argBest bt n) with
    | true =>
      rw [if_pos rfl]
      rw [h] at eb
      refine ⟨Nat.le_refl _, fun j hj => ?_⟩
      by_cases e : j = n + 1
      · rw [e]; exact irr _
      · exact lexL_tr _ _ _ (lexL_asym _ _ eb) (h2 j (by omega))
    | false =>
      rw [if_neg Bool.false_ne_true]
      rw [h] at eb
      refine ⟨by omega, fun j hj => ?_⟩
      by_cases e : j = n + 1
      · rw [e]; exact eb
      · exact h2 j (by omega)
def rMinD (K : PySem.W.Frag) : List V → List V → Hp → VK → Prop := fun vs zs H Q => ∃ (a : Addr) (xs : List V) (k : V → List Int) (d : V), vs = [V.ref a] ∧ zs = [d] ∧ SqL K H a xs ∧ (∀ x ∈ xs, ∃ t, x = V.ref t ∧ H t = some (.tup ((k x).map V.int))) ∧
  (xs = [] → Q d H) ∧ ∀ x ∈ xs, (∀ y ∈ xs, lexL (k y) (k x) = false) → Q x H
theorem cr_minD {X : Cx} (hcalm : X.calm = true) (hu : X.A.in1.units < cLine) : CallRK X (.builtin "min") [Str.ofString "default"] (rMinD X.K) := by
  intro pins s σ H vs zs us ws Q I r rz h
  obtain ⟨a, xs, k, d, rfl, rfl, hs, hx, q0, q1⟩ := h
  obtain rfl := Vals.ref1 r
  obtain ⟨w1, rfl, e1⟩ := vals1 rz
  obtain ⟨its, rv, hl, hz⟩ := I.list hs
  obtain ⟨ex, e2⟩ := refs_back rv fun x m => by
    obtain ⟨t, e, _⟩ := hx x m
    exact ⟨t, e⟩
  have tn : ∀ v ∈ its, TupN s.heap v (k (backV v)) := fun v hv => by
    obtain ⟨t, rfl⟩ := e2 v hv
    have hm : V.ref t ∈ xs := by rw [ex]; exact List.mem_map.mpr ⟨_, hv, rfl⟩
    obtain ⟨t', e, ht⟩ := hx _ hm
    cases e
    obtain ⟨_, its2, r2, o, ho, hc, n, hd⟩ := I.hok _ _ ht
    exact ⟨t, o, _, n, rfl, ho, hc, hd, by rw [List.toList_toArray]; exact r2.ints⟩
  have hlt : a < s.heap.objs.size := by
    obtain ⟨_, e, _⟩ := hl.isList
    exact Heap.lt_size e
  show wpAny _ _ (call (.builtin "min") [Value.ref a] [("default", w1)]) _ _ _
  refine minD_call ?_
  refine wpAny_pyIter_list hl.isList ?_
  let key : Nat → List Int := fun i => (its[i]?.map fun v => k (backV v)).getD []
  have irr : ∀ x : List Int, lexL x x = false := fun x => by
    cases e : lexL x x with
    | false => rfl
    | true => rw [lexL_asym _ _ e] at e; cases e
  have hW := Walks.list (prog := X.prog) (w := X.w) (A := X.A.in1) (I.ok.hd hcalm) s.heap.objs.size a (Nat.ne_of_lt hlt) its.toArray
  refine ⟨_, [_, a], [_], _, _, _, fun i j => lexL (key i) (key j), fun g => ∀ b o, s.heap.get? b = some o → g.get? b = some o, rfl, hW, ⟨⟨_, Heap.get?_push_size _ rfl, rfl, rfl⟩, hl.isList.push _⟩, fun c hc => ?_, fun S hS h h' g kk b o e => ?_, fun b o e => Heap.get?_push_of_some _ (Heap.get?_push_of_some _ e), fun i j x y t Q' E' g hi hj q => ?_, fun z h' tk kk => ?_, fun z v h' tk hv kk => ?_⟩
  · show c < (s.heap.push _).objs.size
    rw [Heap.size_push]
    rcases List.mem_cons.mp hc with rfl | hc
    · exact Nat.lt_succ_self _
    · rw [List.mem_singleton.mp hc]
      exact Nat.lt_succ_of_lt hlt
  · have hb := Heap.lt_size e
    refine kk b o (fun z => ?_) (fun z => ?_) (g b o e)
    · rw [List.mem_singleton.mp z] at hb
      exact Nat.lt_irrefl _ hb
    · have e9 : (s.heap.push { cls := .type "list_iterator", data := .fields #[.ref a, .int 0 0] }).objs.size = s.heap.objs.size + 1 := Heap.size_push ..
      have hS2 : s.heap.objs.size + 1 ≤ S := by
        rw [← e9]
        exact hS
      rw [z] at hb
      exact absurd (Nat.lt_of_lt_of_le hb (Nat.le_trans (Nat.le_succ _) hS2)) (Nat.lt_irrefl _)
  · have hi' : its[i]? = some x := by simpa using hi
    have hj' : its[j]? = some y := by simpa using hj
    obtain ⟨tx, ox, ix, nx, rfl, ho, hc, hd, hn⟩ := tn x (List.mem_of_getElem? hi')
    obtain ⟨ty, oy, iy, ny, rfl, ho', hc', hd', hn'⟩ := tn y (List.mem_of_getElem? hj')
    have e3 : key i = k (backV (.ref tx)) := by
      show (its[i]?.map _).getD [] = _
      rw [hi']; rfl
    have e4 : key j = k (backV (.ref ty)) := by
      show (its[j]?.map _).getD [] = _
      rw [hj']; rfl
    rw [← e3] at hn
    rw [← e4] at hn'
    refine (HT.lt_tupInts (items := ix) (items2 := iy) ⟨ox, g _ _ ho, hc, nx, hd⟩ ⟨oy, g _ _ ho', hc', ny, hd'⟩ hn hn' hu ?_ : wpAny _ _ (compareOp .Lt (Value.ref tx) (Value.ref ty)) _ _ _)
    rw [← lexL_lt]
    exact q
  · have kk' : ∀ b o, s.heap.get? b = some o → h'.get? b = some o := fun b o e => kk b o (fun z => absurd (List.mem_singleton.mp z ▸ Heap.lt_size e) (Nat.lt_irrefl _)) (Heap.get?_push_of_some _ e)
    have hx0 : xs = [] := by
      have := rv.length
      have z2 : its.length = 0 := by simpa using z
      rw [z2] at this
      exact List.length_eq_zero_iff.mp this
    exact ⟨d, H, I.kept kk', e1, q0 hx0⟩
  · have kk' : ∀ b o, s.heap.get? b = some o → h'.get? b = some o := fun b o e => kk b o (fun z => absurd (List.mem_singleton.mp z ▸ Heap.lt_size e) (Nat.lt_irrefl _)) (Heap.get?_push_of_some _ e)
    have z2 : 0 < its.length := by simpa using z
    obtain ⟨b1, b2⟩ := best_least (bt := fun i j => lexL (key i) (key j)) (key := key) (fun _ _ => rfl) (its.toArray.size - 1)
    have hv' : its[argBest (fun i j => lexL (key i) (key j)) (its.toArray.size - 1)]? = some v := by simpa using hv
    have hm := List.mem_of_getElem? hv'
    obtain ⟨t, rfl⟩ := e2 v hm
    refine ⟨backV (.ref t), H, I.kept kk', rfl, q1 _ (by rw [ex]; exact List.mem_map.mpr ⟨_, hm, rfl⟩) fun y hy => ?_⟩
    rw [ex] at hy
    obtain ⟨u, hu', rfl⟩ := List.mem_map.mp hy
    obtain ⟨j, hj, e⟩ := List.getElem_of_mem hu'
    have := b2 j (by simp; omega)
    have e5 : key j = k (backV u) := by
      show (its[j]?.map _).getD [] = _
      rw [List.getElem?_eq_getElem hj, e]; rfl
    have e6 : key (argBest (fun i j => lexL (key i) (key j)) (its.toArray.size - 1)) = k (backV (.ref t)) := by
      show (its[_]?.map _).getD [] = _
      rw [hv']; rfl
    rw [e5, e6] at this
    exact this
end Em

namespace Em
open PySem PySem.Spec PyProof.Rows L2 Qt

def emF (v : V) (b n : Int) (w l r : Addr) : List (Str × V) := [("_net", v), ("_beat", .int b), ("_flames", .int n), ("_waiting", .ref w), ("_lights", .ref l), ("_rows", .ref r)]
section
variable {v : V} {b n : Int} {w l r : Addr}
theorem pl {x : Str} {v : V} : ∀ {r : List (Str × V)} {k : Nat}, r.length ≤ k → (putF x v r).length ≤ k + 1
  | [], k, _ => Nat.succ_le_succ (Nat.zero_le _)
  | (y, u) :: r, 0, h => absurd h (Nat.not_succ_le_zero _)
  | (y, u) :: r, k + 1, h => by
    rw [putF]
    split
    · exact Nat.le_succ_of_le h
    · exact Nat.succ_le_succ (pl (Nat.le_of_succ_le_succ h))
end
/-- what an Embers has come to -/
structure EmS where
  N : Net
  b : Nat
  n : Nat
  W : List (Nat × Nat)
  L : List Lt
  R : List Row
structure Emb (C : Addr) (H : Hp) (e w l r : Addr) (s : EmS) : Prop where
  ex : ∃ (dx : Addr) (v : V), H e = some (.ins C dx (emF v s.b s.n w l r)) ∧ Tu H v (netD s.N)
  wt : ∃ ws, H w = some (.lst ws) ∧ TuA H ws (s.W.map waitD)
  lt : ∃ ls, H l = some (.lst ls) ∧ TuA H ls (s.L.map lightD)
  rw : ∃ rs, H r = some (.lst rs) ∧ TuA H rs (s.R.map rowD)
  nd : w ≠ l ∧ w ≠ r ∧ l ≠ r
  ok : NetOk s.N
  ln : s.L.length = s.N.length
  wk : ∀ p ∈ s.W, p.2 < s.N.length
theorem Emb.kp {C : Addr} {H H1 : Hp} {e w l r : Addr} {s : EmS} {S : List Addr} (h : Emb C H e w l r s) (k : Kp S H H1) (t : Kt H H1) (hS : ∀ x ∈ [e, w, l, r], x ∉ S) : Emb C H1 e w l r s := by
  obtain ⟨⟨dx, v, h1, h2⟩, ⟨ws, h3, h4⟩, ⟨ls, h5, h6⟩, ⟨rs, h7, h8⟩, nd, ok, ln, wk⟩ := h
  simp only [List.mem_cons, List.not_mem_nil, or_false, forall_eq_or_imp, forall_eq] at hS
  obtain ⟨n1, n2, n3, n4⟩ := hS
  exact ⟨⟨dx, v, k.ins n1 h1, h2.kt t⟩, ⟨ws, k.lst n2 h3, h4.kt t⟩, ⟨ls, k.lst n3 h5, h6.kt t⟩, ⟨rs, k.lst n4 h7, h8.kt t⟩, nd, ok, ln, wk⟩
theorem Emb.tr {C : Addr} {H : Hp} {e w l r : Addr} {s : EmS} (h : Emb C H e w l r s) : ∀ x ∈ [e, w, l, r], H x ≠ none := by
  obtain ⟨⟨dx, v, h1, h2⟩, ⟨ws, h3, h4⟩, ⟨ls, h5, h6⟩, ⟨rs, h7, h8⟩, _⟩ := h
  simp only [List.mem_cons, List.not_mem_nil, or_false, forall_eq_or_imp, forall_eq]
  refine ⟨?_, ?_, ?_, ?_⟩
  · rw [h1]; exact fun z => by cases z
  · rw [h3]; exact fun z => by cases z
  · rw [h5]; exact fun z => by cases z
  · rw [h7]; exact fun z => by cases z
theorem Emb.nt {C : Addr} {H : Hp} {e w l r : Addr} {s : EmS} (h : Emb C H e w l r s) : ∀ x ∈ [e, w, l, r], ∀ xs, H x ≠ some (.tup xs) := by
  obtain ⟨⟨dx, v, h1, h2⟩, ⟨ws, h3, h4⟩, ⟨ls, h5, h6⟩, ⟨rs, h7, h8⟩, _⟩ := h
  simp only [List.mem_cons, List.not_mem_nil, or_false, forall_eq_or_imp, forall_eq]
  refine ⟨fun xs => ?_, fun xs => ?_, fun xs => ?_, fun xs => ?_⟩
  · rw [h1]; exact fun z => by cases z
  · rw [h3]; exact fun z => by cases z
  · rw [h5]; exact fun z => by cases z
  · rw [h7]; exact fun z => by cases z
/-- one beat gone -/
def EmS.go (s : EmS) : EmS := { s with b := s.b + 1, W := [], L := (beatA s.N s.b s.L s.W).L }
def EmS.rows (s : EmS) : List Row := (beatA s.N s.b s.L s.W).rows
end Em

namespace Em
open PySem PySem.Spec PyProof.Rows L2 Qt

structure BagNew (H : Hp) (c : Addr) (ps : List Addr) (j : Nat) (H' : Hp) : Prop where
  bag : Bag H' c ps (List.replicate j [])
  new : ∀ x ∈ c :: ps, H x = none
  kp : Kp [] H H'
theorem BagNew.start {H : Hp} {c : Addr} (nc : H c = none) : BagNew H c [] 0 (upd H c (.lst [])) :=
  ⟨⟨upd_same, by simp, rfl, fun i p g hp => by simp at hp⟩, fun x hx => by rw [List.mem_singleton.mp hx]; exact nc, Kp.new nc⟩
theorem BagNew.step {H H' : Hp} {c q : Addr} {ps : List Addr} {j : Nat} (h : BagNew H c ps j H') (nq : H' q = none) :
    (upd H' q (.lst [])) c = some (.lst (ps.map V.ref)) ∧ BagNew H c (ps ++ [q]) (j + 1) (upd (upd H' q (.lst [])) c (.lst (ps.map V.ref ++ [.ref q]))) := by
  have kq : Kp [] H' (upd H' q (.lst [])) := Kp.new nq
  have hc := kq.lst (by simp) h.bag.top
  have nc := h.new c List.mem_cons_self
  refine ⟨hc, ?_, fun x hx => ?_, ?_⟩
  · rw [List.replicate_succ']
    exact h.bag.more nq
  · rcases List.mem_cons.mp hx with z | z
    · rw [z]; exact nc
    · rcases List.mem_append.mp z with z | z
      · exact h.new x (List.mem_cons_of_mem _ z)
      · rw [List.mem_singleton.mp z]
        cases y : H q with
        | none => rfl
        | some o => exact absurd nq (h.kp.tr_ q (by rw [y]; exact fun y => by cases y))
  · exact Kp.drop nc ((h.kp.tr kq).of0.tr (Kp.put (S := [c]) (by simp) hc fun ps z => by cases z))

def burnD (c : Int) : Lt → PyData
  | none => .none
  | some (f, t) => .tuple [.int f, .int (c - t)]
def numW : Nat → List Nat → List (Nat × Nat)
  | _, [] => []
  | m, k :: g => (m, k) :: numW (m + 1) g
structure Wk where
  L : List Lt
  rows : List Em.Row
  many : Nat
  stands : List (List Lt)
def wk (N : Net) (css : List (List Nat)) : Nat → Wk
  | 0 => ⟨List.replicate N.length none, [], 0, []⟩
  | b + 1 =>
    let s := wk N css b
    let B := beatA N b s.L (numW s.many (css.getD b []))
    ⟨B.L, s.rows ++ B.rows, s.many + (css.getD b []).length, s.stands ++ [B.L]⟩
/-- what burnt behind each beat -/
def Stood (H : Hp) (S : List Addr) (N : Net) (css : List (List Nat)) (n : Nat) (ys : List V) : Prop := ys.length = n ∧ ∀ j, j < n → ∃ (q : Addr) (bs : List V), ys[j]? = some (.ref q) ∧ q ∉ S ∧ H q = some (.lst bs) ∧ TuA H bs ((wk N css (j + 1)).L.map (burnD (j : Nat)))
theorem Stood.kp {H H' : Hp} {S S' : List Addr} {N : Net} {css : List (List Nat)} {n : Nat} {ys : List V} (h : Stood H S N css n ys) (k : Kp S' H H') (t : Kt H H') (hs : ∀ x ∈ S', x ∈ S ∨ H x = none) : Stood H' S N css n ys := by
  refine ⟨h.1, fun j hj => ?_⟩
  obtain ⟨q, bs, a1, a2, a3, a4⟩ := h.2 j hj
  refine ⟨q, bs, a1, a2, k.lst (fun z => ?_) a3, a4.kt t⟩
  rcases hs q z with y | y
  · exact a2 y
  · rw [y] at a3; cases a3
end Em

namespace Em
open PySem PySem.Spec PyProof.Rows L2 Qt

theorem hu1_of {A : Around} {k : Nat} (hr : Room k A) : A.in1.units < cLine := hu_of hr
theorem Kp.same {S : List Addr} {H H' : Hp} {d : Addr} {o : HO} (k : Kp (d :: S) H H') (h : H d = some o) (h' : H' d = some o) : Kp S H H' :=
  ⟨fun b u nb hb ht => by
    by_cases e : b = d
    · rw [e] at hb ⊢
      rw [h] at hb
      rw [h', hb]
    · exact k.at_ b u (fun z => by
        rcases List.mem_cons.mp z with z | z
        · exact e z
        · exact nb z) hb ht, k.tab, k.tr_⟩
def tupI (ns : List Int) : PyData := .tuple (ns.map PyData.int)
theorem ints_of {H : Hp} : ∀ {vs : List V} {ns : List Int}, TuA H vs (ns.map PyData.int) → vs = ns.map V.int
  | [], [], _ => rfl
  | _ :: _, [], h => by cases h
  | [], _ :: _, h => by cases h
  | v :: vs, n :: ns, h => by
    cases h with
    | cons a t =>
      cases a
      rw [ints_of t]
      rfl
theorem ints_tu {H : Hp} : ∀ ns : List Int, TuA H (ns.map V.int) (ns.map PyData.int)
  | [] => .nil
  | n :: ns => .cons (.int n) (ints_tu ns)
theorem tupI_at {H : Hp} {v : V} {ns : List Int} (h : Tu H v (tupI ns)) : ∃ t : Addr, v = .ref t ∧ H t = some (.tup (ns.map V.int)) := by
  cases h with
  | @tup t xs ds h r =>
    rw [ints_of r] at h
    exact ⟨t, rfl, h⟩
theorem tupI_of {H : Hp} {t : Addr} {ns : List Int} (h : H t = some (.tup (ns.map V.int))) : Tu H (.ref t) (tupI ns) := .tup h (ints_tu ns)
def intB : V → Int
  | .int i => i
  | _ => 0
def keyH (H : Hp) : V → List Int
  | .ref t => match H t with
    | some (.tup vs) => vs.map intB
    | _ => []
  | _ => []
theorem keyH_at {H : Hp} {t : Addr} {ns : List Int} (h : H t = some (.tup (ns.map V.int))) : keyH H (.ref t) = ns := by
  unfold keyH
  simp only [h]
  rw [List.map_map]
  have : (intB ∘ V.int) = id := funext fun i => rfl
  rw [this, List.map_id]
theorem keyH_tu {H : Hp} {v : V} {ns : List Int} (h : Tu H v (tupI ns)) : keyH H v = ns ∧ ∃ t, v = .ref t ∧ H t = some (.tup ((keyH H v).map V.int)) := by
  obtain ⟨t, rfl, ht⟩ := tupI_at h
  have e := keyH_at ht
  exact ⟨e, t, rfl, by rw [e]; exact ht⟩
theorem tups_keys {H : Hp} : ∀ {xs : List V} {L : List (List Int)}, TuA H xs (L.map tupI) → xs.map (keyH H) = L ∧ ∀ x ∈ xs, ∃ t, x = .ref t ∧ H t = some (.tup ((keyH H x).map V.int))
  | [], [], _ => ⟨rfl, fun x h => by cases h⟩
  | _ :: _, [], h => by cases h
  | [], _ :: _, h => by cases h
  | v :: vs, n :: ns, h => by
    cases h with
    | cons a t =>
      obtain ⟨e1, e2⟩ := keyH_tu a
      obtain ⟨e3, e4⟩ := tups_keys t
      refine ⟨by rw [List.map_cons, e1, e3], fun x hx => ?_⟩
      rcases List.mem_cons.mp hx with rfl | hx
      · exact e2
      · exact e4 x hx
theorem tups_of {H : Hp} : ∀ {ys : List V}, (∀ x ∈ ys, ∃ t, x = .ref t ∧ H t = some (.tup ((keyH H x).map V.int))) → TuA H ys ((ys.map (keyH H)).map tupI)
  | [], _ => .nil
  | y :: ys, h => by
    obtain ⟨t, rfl, ht⟩ := h y List.mem_cons_self
    exact .cons (tupI_of ht) (tups_of fun x hx => h x (List.mem_cons_of_mem _ hx))
theorem tups_perm {H : Hp} {xs ys : List V} {L : List (List Int)} (h : TuA H xs (L.map tupI)) (p : ys.Perm xs) : TuA H ys ((ys.map (keyH H)).map tupI) ∧ (ys.map (keyH H)).Perm L := by
  obtain ⟨e1, e2⟩ := tups_keys h
  refine ⟨tups_of fun x hx => e2 x (p.mem_iff.mp hx), ?_⟩
  rw [← e1]
  exact p.map _
theorem perm_back {α β : Type} {f : α → β} {g : β → α} {C : List α} {L : List β} (h : ∀ a ∈ C, g (f a) = a) (p : L.Perm (C.map f)) : (L.map g).Perm C ∧ (L.map g).map f = L := by
  constructor
  · have := p.map g
    rw [List.map_map] at this
    have e : C.map (g ∘ f) = C := by
      conv => rhs; rw [← List.map_id C]
      exact List.map_congr_left fun a ha => h a ha
    rw [e] at this
    exact this
  · rw [List.map_map]
    conv => rhs; rw [← List.map_id L]
    refine List.map_congr_left fun b hb => ?_
    obtain ⟨a, ha, rfl⟩ := List.mem_map.mp (p.mem_iff.mp hb)
    show f (g (f a)) = f a
    rw [h a ha]
/-- a sorted list of tuples of ints -/
theorem sorted_tups {α : Type} {f : α → List Int} {g : List Int → α} {H : Hp} {xs ys : List V} {C : List α} (hg : ∀ a ∈ C, g (f a) = a) (h : TuA H xs (C.map fun a => tupI (f a))) (hs : SrtO.Srtd (fun v u => lexL (keyH H v) (keyH H u)) ys) (p : ys.Perm xs) :
    ∃ C' : List α, C'.Perm C ∧ TuA H ys (C'.map fun a => tupI (f a)) ∧ C'.Pairwise fun a b => lexL (f b) (f a) = false := by
  have h2 : TuA H xs ((C.map f).map tupI) := by rw [List.map_map]; exact h
  obtain ⟨a1, a2⟩ := tups_perm h2 p
  obtain ⟨b1, b2⟩ := perm_back (g := g) hg a2
  refine ⟨_, b1, ?_, ?_⟩
  · have : (((ys.map (keyH H)).map g).map fun a => tupI (f a)) = (ys.map (keyH H)).map tupI := by
      conv => rhs; rw [← b2]
      rw [List.map_map (f := f)]
      rfl
    rw [this]
    exact a1
  · have hs2 : (ys.map (keyH H)).Pairwise fun a b => lexL b a = false := List.pairwise_map.mpr hs
    rw [← b2] at hs2
    exact List.pairwise_map.mp hs2
theorem lexL_anti : ∀ x y : List Int, lexL x y = false → lexL y x = false → x = y
  | [], [], _, _ => rfl
  | [], _ :: _, h, _ => by cases h
  | _ :: _, [], _, h => by cases h
  | a :: as, b :: bs, h1, h2 => by
    rw [lexL_cons] at h1 h2
    by_cases e : a = b
    · subst e
      rw [if_pos rfl] at h1 h2
      rw [lexL_anti as bs h1 h2]
    · rw [if_neg e] at h1
      rw [if_neg (fun z => e z.symm)] at h2
      have q1 := of_decide_eq_false h1
      have q2 := of_decide_eq_false h2
      omega
/-- sorted lists with the same members, none twice, are one -/
theorem sorted_one {α : Type} {f : α → List Int} (hf : ∀ a b, f a = f b → a = b) : ∀ {A B : List α}, A.Pairwise (fun a b => lexL (f b) (f a) = false) → B.Pairwise (fun a b => lexL (f b) (f a) = false) → A.Perm B → A = B
  | [], B, _, _, p => p.symm.eq_nil.symm
  | a :: A, [], _, _, p => absurd p.eq_nil (by simp)
  | a :: A, b :: B, h1, h2, p => by
    have e : a = b := by
      have m1 : a ∈ b :: B := p.mem_iff.mp List.mem_cons_self
      have m2 : b ∈ a :: A := p.mem_iff.mpr List.mem_cons_self
      rcases List.mem_cons.mp m1 with e | m1
      · exact e
      · rcases List.mem_cons.mp m2 with e | m2
        · exact e.symm
        · exact hf _ _ (lexL_anti _ _ ((List.pairwise_cons.mp h2).1 a m1) ((List.pairwise_cons.mp h1).1 b m2))
    subst e
    rw [sorted_one hf (List.pairwise_cons.mp h1).2 (List.pairwise_cons.mp h2).2 (List.Perm.cons_inv p)]
def kdD (p : Nat × Nat) : PyData := .tuple [.int p.1, .int p.2]
def lightsK (N : Net) (ks : Kds) : List (List Lgt) := ks.map fun p => lightsL N p.1 p.2
structure Lts (H : Hp) (c : Addr) (ds : List Addr) (LL : List (List Lgt)) : Prop where
  top : H c = some (.lst (ds.map V.ref))
  len : ds.length = LL.length
  nd : ds.Nodup
  at_ : ∀ (i : Nat) (d : Addr) (L : List Lgt), ds[i]? = some d → LL[i]? = some L → ∃ r, H d = some (.dK r) ∧ LtA H r L
theorem Lts.kp {S : List Addr} {H H' : Hp} {c : Addr} {ds : List Addr} {LL : List (List Lgt)} (h : Lts H c ds LL) (k : Kp S H H') (t : Kt H H') (hc : c ∉ S) (hd : ∀ d ∈ ds, d ∉ S) : Lts H' c ds LL :=
  ⟨k.lst hc h.top, h.len, h.nd, fun i d L h1 h2 => let ⟨r, a, b⟩ := h.at_ i d L h1 h2; ⟨r, k.at_ d _ (hd d (List.mem_of_getElem? h1)) a (fun ps z => by cases z), b.kt t⟩⟩
theorem Lts.kp0 {H H' : Hp} {c : Addr} {ds : List Addr} {LL : List (List Lgt)} (h : Lts H c ds LL) (k : Kp [] H H') : Lts H' c ds LL := h.kp k k.kt0 (by simp) fun _ _ => by simp
theorem lights_at {N : Net} {ks : Kds} {i : Nat} {p : Nat × Nat} (h : ks[i]? = some p) : (lightsK N ks)[i]? = some (lightsL N p.1 p.2) := by
  unfold lightsK
  rw [List.getElem?_map, h]
  rfl
theorem Lts.get {N : Net} {ks : Kds} {H : Hp} {c : Addr} {ds : List Addr} (h : Lts H c ds (lightsK N ks)) {i : Nat} {p : Nat × Nat} (hp : ks[i]? = some p) : ∃ d r, ds[i]? = some d ∧ (ds.map V.ref)[i]? = some (.ref d) ∧ H d = some (.dK r) ∧ LtA H r (lightsL N p.1 p.2) := by
  have hl : i < ds.length := by
    rw [h.len]
    unfold lightsK
    rw [List.length_map]
    exact (List.getElem?_eq_some_iff.mp hp).1
  have hd : ds[i]? = some ds[i] := List.getElem?_eq_getElem hl
  obtain ⟨r, a, b⟩ := h.at_ i _ _ hd (lights_at hp)
  exact ⟨_, r, hd, by rw [List.getElem?_map, hd]; rfl, a, b⟩
def c4D (c : C4) : PyData := tupI (c4L c)
def c4B (l : List Int) : C4 := (l.getD 0 0, (l.getD 1 0).toNat, (l.getD 2 0).toNat, (l.getD 3 0).toNat)
theorem c4B_L (c : C4) : c4B (c4L c) = c := by
  obtain ⟨b, x, f, g⟩ := c
  show (b, ((x : Nat) : Int).toNat, ((f : Nat) : Int).toNat, ((g : Nat) : Int).toNat) = _
  simp
theorem c4L_inj (a b : C4) (h : c4L a = c4L b) : a = b := by rw [← c4B_L a, ← c4B_L b, h]
/-- what is told of two flames -/
def FstC (N : Net) (ks : Kds) (one other : Nat) : Option C4 → Prop
  | none => ∀ b x, ¬ Cl N ks b x one other ∧ ¬ Cl N ks b x other one
  | some c => FCc N ks c ∧ ((c.2.2.1 = one ∧ c.2.2.2 = other) ∨ (c.2.2.1 = other ∧ c.2.2.2 = one))
def ocD : Option C4 → PyData
  | none => .none
  | some c => c4D c
/-- all first clashes, sorted -/
structure AllC (N : Net) (ks : Kds) (C : List C4) : Prop where
  srt : SrtC C
  nd : C.Nodup
  fc : ∀ c ∈ C, FCc N ks c
  all : ∀ c, LostC N ks c → c ∈ C
/-- the losses -/
structure Losses (N : Net) (ks : Kds) (R : List C4) : Prop where
  srt : SrtC R
  nd : R.Nodup
  iff : ∀ c, c ∈ R ↔ LostC N ks c
theorem losses_of {N : Net} {ks : Kds} (o : NetOk N) (hk : KdsOk N ks) {C : List C4} (h : AllC N ks C) : Losses N ks (grdA C) := by
  obtain ⟨a, b⟩ := grd_all o hk h.srt h.nd h.fc h.all
  exact ⟨List.Pairwise.sublist b h.srt, List.Pairwise.sublist b h.nd, a⟩
theorem losses_one {N : Net} {ks : Kds} {R R' : List C4} (h : Losses N ks R) (h' : Losses N ks R') : R = R' := by
  refine sorted_one c4L_inj h.srt h'.srt ?_
  rw [List.perm_ext_iff_of_nodup h.nd h'.nd]
  intro c
  rw [h.iff, h'.iff]
/-- what is found, pair by pair -/
structure Found (N : Net) (ks : Kds) (P : Nat → Nat → Prop) (L : List C4) : Prop where
  nd : L.Nodup
  fc : ∀ c ∈ L, FCc N ks c ∧ ∃ u v, P u v ∧ u < v ∧ ((c.2.2.1 = u ∧ c.2.2.2 = v) ∨ (c.2.2.1 = v ∧ c.2.2.2 = u))
  all : ∀ c, FCc N ks c → (∃ u v, P u v ∧ u < v ∧ ((c.2.2.1 = u ∧ c.2.2.2 = v) ∨ (c.2.2.1 = v ∧ c.2.2.2 = u))) → c ∈ L
theorem Found.more {N : Net} {ks : Kds} (o : NetOk N) (hk : KdsOk N ks) {P P' : Nat → Nat → Prop} {L : List C4} (h : Found N ks P L) {u v : Nat} (huv : u < v) (hn : ¬ P u v) (hP : ∀ a b, P' a b ↔ P a b ∨ (a = u ∧ b = v)) {r : Option C4} (hr : FstC N ks u v r) : Found N ks P' (L ++ r.toList) := by
  cases r with
  | none =>
    rw [Option.toList_none, List.append_nil]
    refine ⟨h.nd, fun c hc => ?_, fun c hc ⟨a, b, hab, hlt, hf⟩ => ?_⟩
    · obtain ⟨q, a, b, hab, z⟩ := h.fc c hc
      exact ⟨q, a, b, (hP a b).mpr (.inl hab), z⟩
    · rcases (hP a b).mp hab with z | ⟨rfl, rfl⟩
      · exact h.all c hc ⟨a, b, z, hlt, hf⟩
      · exfalso
        have hr2 : ∀ b' x, ¬ Cl N ks b' x a b ∧ ¬ Cl N ks b' x b a := hr
        have hcl : Cl N ks c.1 c.2.1 c.2.2.1 c.2.2.2 := hc.1
        rcases hf with ⟨e1, e2⟩ | ⟨e1, e2⟩ <;> rw [e1, e2] at hcl
        · exact (hr2 _ _).1 hcl
        · exact (hr2 _ _).2 hcl
  | some d =>
    rw [Option.toList_some]
    obtain ⟨hd1, hd2⟩ : FCc N ks d ∧ ((d.2.2.1 = u ∧ d.2.2.2 = v) ∨ (d.2.2.1 = v ∧ d.2.2.2 = u)) := hr
    refine ⟨?_, fun c hc => ?_, fun c hc ⟨a, b, hab, hlt, hf⟩ => ?_⟩
    · rw [List.nodup_append]
      refine ⟨h.nd, by simp, fun c hc e he => ?_⟩
      rw [List.mem_singleton.mp he]
      intro ecd
      rw [ecd] at hc
      obtain ⟨_, a, b, hab, hlt, hf⟩ := h.fc d hc
      have : a = u ∧ b = v := by
        rcases hf with ⟨e1, e2⟩ | ⟨e1, e2⟩ <;> rcases hd2 with ⟨e3, e4⟩ | ⟨e3, e4⟩ <;> omega
      rw [this.1, this.2] at hab
      exact hn hab
    · rcases List.mem_append.mp hc with z | z
      · obtain ⟨q, a, b, hab, w⟩ := h.fc c z
        exact ⟨q, a, b, (hP a b).mpr (.inl hab), w⟩
      · rw [List.mem_singleton.mp z]
        exact ⟨hd1, u, v, (hP u v).mpr (.inr ⟨rfl, rfl⟩), huv, hd2⟩
    · rcases (hP a b).mp hab with z | ⟨rfl, rfl⟩
      · exact List.mem_append_left _ (h.all c hc ⟨a, b, z, hlt, hf⟩)
      · refine List.mem_append_right _ (List.mem_singleton.mpr (fc_uniq o hk hd1 hc ?_))
        rcases hf with ⟨e1, e2⟩ | ⟨e1, e2⟩ <;> rcases hd2 with ⟨e3, e4⟩ | ⟨e3, e4⟩ <;> rw [e1, e2, e3, e4] <;> simp
theorem lost_lt {N : Net} {ks : Kds} (o : NetOk N) (hk : KdsOk N ks) {t x f g : Nat} (h : LostAt N ks t x f g) : f < ks.length ∧ g < ks.length ∧ f ≠ g ∧ x < N.length := by
  obtain ⟨⟨hne, h1, h2⟩, _, _⟩ := lost_cl o hk h
  have lt : ∀ {u : Nat} {b : Int} {z : Nat}, On N ks u b z → u < ks.length := fun ⟨p, hp, _⟩ => (List.getElem?_eq_some_iff.mp hp).1
  refine ⟨lt h1, ?_, hne, h1.lt o hk⟩
  rcases h2 with ⟨h2, _⟩ | ⟨t0, h2, _⟩
  · exact lt h2
  · exact lt h2
theorem Found.start {N : Net} {ks : Kds} {P : Nat → Nat → Prop} (h : ∀ u v, u < v → ¬ P u v) : Found N ks P [] :=
  ⟨List.nodup_nil, (fun c hc => by cases hc), fun c _ ⟨u, v, h1, h2, _⟩ => absurd h1 (h u v h2)⟩
theorem Found.all_ {N : Net} {ks : Kds} (o : NetOk N) (hk : KdsOk N ks) {P : Nat → Nat → Prop} {L C : List C4} (h : Found N ks P L) (hP : ∀ u v, u < v → v < ks.length → P u v) (hp : C.Perm L) (hs : SrtC C) : AllC N ks C := by
  refine ⟨hs, hp.symm.nodup h.nd, fun c hc => (h.fc c (hp.mem_iff.mp hc)).1, fun c hc => hp.mem_iff.mpr ?_⟩
  obtain ⟨b, x, f, g⟩ := c
  obtain ⟨t, e, hl⟩ := hc
  simp only at e hl
  subst e
  obtain ⟨l1, l2, l3, _⟩ := lost_lt o hk hl
  refine h.all _ (lost_fc o hk hl) ?_
  rcases Nat.lt_or_ge f g with q | q
  · exact ⟨f, g, hP f g q l2, q, .inl ⟨rfl, rfl⟩⟩
  · have q2 : g < f := by omega
    exact ⟨g, f, hP g f q2 l1, q2, .inr ⟨rfl, rfl⟩⟩
structure LtsNew (H0 : Hp) (c : Addr) (ds : List Addr) (LL : List (List Lgt)) (H : Hp) : Prop where
  lts : Lts H c ds LL
  new : ∀ x ∈ c :: ds, H0 x = none
  kp : Kp [] H0 H
theorem LtsNew.start {H : Hp} {c : Addr} (nc : H c = none) : LtsNew H c [] [] (upd H c (.lst [])) :=
  ⟨⟨upd_same, rfl, List.nodup_nil, fun i d L h1 _ => by simp at h1⟩, fun x hx => by rw [List.mem_singleton.mp hx]; exact nc, Kp.new nc⟩
theorem LtsNew.step {H0 H H2 : Hp} {c d : Addr} {ds : List Addr} {LL : List (List Lgt)} {r : List (Key × V)} {L : List Lgt} (h : LtsNew H0 c ds LL H) (nd : H d = none) (k : Kp [] H H2) (hd : H2 d = some (.dK r)) (hl : LtA H2 r L) :
    H2 c = some (.lst (ds.map V.ref)) ∧ LtsNew H0 c (ds ++ [d]) (LL ++ [L]) (upd H2 c (.lst (ds.map V.ref ++ [.ref d]))) := by
  have hc := k.lst (by simp) h.lts.top
  have hdc : d ≠ c := fun e => by rw [e, hc] at hd; cases hd
  have tput : Kt H2 (upd H2 c (.lst (ds.map V.ref ++ [.ref d]))) := Kt.put hc fun _ z => by cases z
  have hnd : d ∉ ds := fun z => by
    obtain ⟨i, hi, e⟩ := List.getElem_of_mem z
    have h1 : ds[i]? = some d := by rw [List.getElem?_eq_getElem hi, e]
    have h2 : i < LL.length := by rw [← h.lts.len]; exact hi
    obtain ⟨r', q, _⟩ := h.lts.at_ i d _ h1 (List.getElem?_eq_getElem h2)
    rw [nd] at q
    cases q
  refine ⟨hc, ⟨⟨?_, ?_, ?_, fun i x M h1 h2 => ?_⟩, fun x hx => ?_, ?_⟩⟩
  · rw [upd_same, List.map_append]; rfl
  · rw [List.length_append, List.length_append, h.lts.len]; rfl
  · rw [List.nodup_append]
    exact ⟨h.lts.nd, by simp, fun x hx y hy => by rw [List.mem_singleton.mp hy]; exact fun e => hnd (e ▸ hx)⟩
  · by_cases hi : i < ds.length
    · rw [List.getElem?_append_left hi] at h1
      rw [List.getElem?_append_left (by rw [← h.lts.len]; exact hi)] at h2
      obtain ⟨r', q1, q2⟩ := h.lts.at_ i x M h1 h2
      have q3 := k.at_ x _ (by simp) q1 fun ps z => by cases z
      refine ⟨r', ?_, (q2.kt k.kt0).kt tput⟩
      rw [upd_ne (fun e => by rw [e, hc] at q3; cases q3)]
      exact q3
    · have h3 := (List.getElem?_eq_some_iff.mp h1).1
      rw [List.length_append] at h3
      have hi2 : i = ds.length := by simp at h3; omega
      subst hi2
      rw [List.getElem?_append_right (Nat.le_refl _), Nat.sub_self] at h1
      rw [h.lts.len, List.getElem?_append_right (Nat.le_refl _), Nat.sub_self] at h2
      cases h1
      cases h2
      exact ⟨r, by rw [upd_ne hdc]; exact hd, hl.kt tput⟩
  · rcases List.mem_cons.mp hx with z | z
    · rw [z]; exact h.new c List.mem_cons_self
    · rcases List.mem_append.mp z with z | z
      · exact h.new x (List.mem_cons_of_mem _ z)
      · rw [List.mem_singleton.mp z]
        cases y : H0 d with
        | none => rfl
        | some o => exact absurd nd (h.kp.tr_ d (by rw [y]; exact fun y => by cases y))
  · exact Kp.drop (h.new c List.mem_cons_self) ((h.kp.tr k).of0.tr (Kp.put (S := [c]) (by simp) hc fun ps z => by cases z))
theorem perm_two {α : Type} {a b : α} {ys : List α} (h : ys.Perm [a, b]) : ys = [a, b] ∨ ys = [b, a] := by
  have hl := h.length_eq
  match ys, hl with
  | [u, v], _ =>
    have hu : u ∈ [a, b] := h.mem_iff.mp (by simp)
    rcases List.mem_cons.mp hu with e | e
    · subst e
      have := (List.perm_cons u).mp h
      rw [List.perm_singleton.mp this]
      exact .inl rfl
    · rw [List.mem_singleton.mp e] at h ⊢
      have h2 : [b, v].Perm [b, a] := h.trans (List.Perm.swap b a [])
      have := (List.perm_cons b).mp h2
      rw [List.perm_singleton.mp this]
      exact .inr rfl
theorem srt2_ys {a b : Int × Nat} (hne : a.2 ≠ b.2) {H : Hp} {t1 t2 : Addr} (h1 : H t1 = some (.tup [.int a.1, .int (a.2 : Nat)])) (h2 : H t2 = some (.tup [.int b.1, .int (b.2 : Nat)])) {ys : List V} (hs : SrtO.Srtd (fun v u => lexL (keyH H v) (keyH H u)) ys) (hp : ys.Perm [.ref t1, .ref t2]) :
    ∃ te tl, ys = [V.ref te, V.ref tl] ∧ Tu H (.ref te) (tupI [(srt2 a b).1.1, ((srt2 a b).1.2 : Nat)]) ∧ Tu H (.ref tl) (tupI [(srt2 a b).2.1, ((srt2 a b).2.2 : Nat)]) := by
  have e1 : keyH H (.ref t1) = [a.1, (a.2 : Int)] := keyH_at (ns := [a.1, (a.2 : Int)]) h1
  have e2 : keyH H (.ref t2) = [b.1, (b.2 : Int)] := keyH_at (ns := [b.1, (b.2 : Int)]) h2
  rcases perm_two hp with rfl | rfl
  · have hl : lexL (keyH H (.ref t2)) (keyH H (.ref t1)) = false := (List.pairwise_cons.mp hs).1 _ (by simp)
    rw [e1, e2, lexL_cons] at hl
    have hc : ¬ (b.1 < a.1 ∨ (b.1 = a.1 ∧ b.2 < a.2)) := by
      rintro (z | ⟨z, z2⟩)
      · rw [if_neg (by omega)] at hl
        have := of_decide_eq_false hl
        omega
      · rw [if_pos z, lexL_cons, if_neg (by omega)] at hl
        have := of_decide_eq_false hl
        omega
    have es : srt2 a b = (a, b) := by unfold srt2; rw [if_neg hc]
    rw [es]
    exact ⟨t1, t2, rfl, tupI_of (ns := [a.1, (a.2 : Int)]) h1, tupI_of (ns := [b.1, (b.2 : Int)]) h2⟩
  · have hl : lexL (keyH H (.ref t1)) (keyH H (.ref t2)) = false := (List.pairwise_cons.mp hs).1 _ (by simp)
    rw [e1, e2, lexL_cons] at hl
    have hc : b.1 < a.1 ∨ (b.1 = a.1 ∧ b.2 < a.2) := by
      by_cases z : a.1 = b.1
      · rw [if_pos z, lexL_cons, if_neg (by omega)] at hl
        have := of_decide_eq_false hl
        exact .inr ⟨z.symm, by omega⟩
      · rw [if_neg z] at hl
        have := of_decide_eq_false hl
        exact .inl (by omega)
    have es : srt2 a b = (b, a) := by unfold srt2; rw [if_pos hc]
    rw [es]
    exact ⟨t2, t1, rfl, tupI_of (ns := [b.1, (b.2 : Int)]) h2, tupI_of (ns := [a.1, (a.2 : Int)]) h1⟩
def lostK (R : List C4) : List (Key × V) := R.map fun c => ((Sum.inl (c.2.2.1 : Int) : Key), V.bl true)
theorem lostK_val (f : Nat) : ∀ R : List C4, (f ∈ R.map (·.2.2.1) ∧ valV (lostK R) (Sum.inl (f : Int) : Key) = some (.bl true)) ∨ (f ∉ R.map (·.2.2.1) ∧ valV (lostK R) (Sum.inl (f : Int) : Key) = none)
  | [] => .inr ⟨by simp, rfl⟩
  | c :: R => by
    by_cases e : c.2.2.1 = f
    · exact .inl ⟨by rw [List.map_cons, e]; exact List.mem_cons_self, valV_pos (show (Sum.inl (c.2.2.1 : Int) : Key) = Sum.inl (f : Int) by rw [e])⟩
    · have e2 : valV (lostK (c :: R)) (Sum.inl (f : Int) : Key) = valV (lostK R) (Sum.inl (f : Int) : Key) := valV_neg (fun q => e (by
        have := Sum.inl.inj q
        omega))
      rw [e2]
      rcases lostK_val f R with ⟨a, b⟩ | ⟨a, b⟩
      · exact .inl ⟨List.mem_cons_of_mem _ a, b⟩
      · refine .inr ⟨fun z => ?_, b⟩
        rcases List.mem_cons.mp z with z | z
        · exact e z.symm
        · exact a z
theorem grd_len (C : List C4) : ∀ R : List C4, (C.foldl grd R).length ≤ R.length + C.length := by
  induction C with
  | nil => intro R; exact Nat.le_refl _
  | cons c C ih =>
    intro R
    rw [List.foldl_cons]
    have h1 := ih (grd R c)
    have h2 : (grd R c).length ≤ R.length + 1 := by
      unfold grd
      split
      · omega
      · rw [List.length_append]; simp
    rw [List.length_cons]
    omega
inductive Fate where
  | lost (b : Int) (x g : Nat)
  | ended (b : Int) (x : Nat)
  | goes (x : Nat) (b : Int)
def fateD : Fate → PyData
  | .lost b x g => .tuple [.str "lost", .int b, .int x, .int g]
  | .ended b x => .tuple [.str "ended", .int b, .int x]
  | .goes x b => .tuple [.str "goes", .int x, .int b]
def minN (g : List Nat) : Nat := (srt g).headD 0
theorem minN_mem {g : List Nat} (h : g ≠ []) : minN g ∈ g ∧ ∀ y ∈ g, minN g ≤ y := by
  cases e : srt g with
  | nil =>
    have := srt_perm g
    rw [e] at this
    exact absurd this.symm.eq_nil h
  | cons m r =>
    obtain ⟨a, b, _⟩ := srt_head e
    have : minN g = m := by unfold minN; rw [e]; rfl
    rw [this]
    exact ⟨a, b⟩
theorem minN_of {g : List Nat} {m : Int} (h1 : m ∈ g.map fun n : Nat => (n : Int)) (h2 : ∀ y ∈ g.map fun n : Nat => (n : Int), m ≤ y) : m = (minN g : Nat) := by
  obtain ⟨n, hn, rfl⟩ := List.mem_map.mp h1
  have hne : g ≠ [] := fun e => by rw [e] at hn; cases hn
  obtain ⟨a, b⟩ := minN_mem hne
  have := b n hn
  have := h2 _ (List.mem_map.mpr ⟨_, a, rfl⟩)
  omega
def fateA (N : Net) (p : Nat × Nat) : Fate := if wayR N p.2 = [] then .ended (frst N p.1 p.2 (path N p.2).length) (lastOf (path N p.2)) else .goes (minN (wayR N p.2)) (frstOf N p.1 p.2 (minN (wayR N p.2)))
def fatesR (N : Net) (ks : Kds) (R : List C4) : List Fate := R.foldl (fun t c => t.set c.2.2.1 (.lost c.1 c.2.1 c.2.2.2)) (ks.map (fateA N))
theorem fold_app {α β : Type} (f : β → α → β) (b : β) (l : List α) (a : α) : (l ++ [a]).foldl f b = f (l.foldl f b) a := by rw [List.foldl_append]; rfl
theorem fatesR_len {N : Net} {ks : Kds} : ∀ (R : List C4), (fatesR N ks R).length = ks.length := by
  intro R
  unfold fatesR
  have : ∀ (R : List C4) (t : List Fate), (R.foldl (fun t c => t.set c.2.2.1 (.lost c.1 c.2.1 c.2.2.2)) t).length = t.length := fun R => by
    induction R with
    | nil => intro t; rfl
    | cons c R ih => intro t; rw [List.foldl_cons, ih, List.length_set]
  rw [this, List.length_map]
theorem rings_lap {N : Net} (o : NetOk N) {x : Nat} (hx : x < N.length) (b : Int) : ((lightsL N b x).filter fun z => z.2.2.isSome).map (·.1) = wayR N x := by
  unfold lightsL
  rw [List.filter_append, List.map_append]
  have h1 : ∀ (g : List Nat) (b : Int), (lts N none b g).filter (fun z => z.2.2.isSome) = [] := fun g => by
    induction g with
    | nil => intro b; rfl
    | cons y r ih => intro b; unfold lts; rw [List.filter_cons_of_neg (by simp)]; exact ih _
  have h2 : ∀ (g : List Nat) (b l : Int), ((lts N (some l) b g).filter fun z => z.2.2.isSome).map (·.1) = g := fun g => by
    induction g with
    | nil => intro b l; rfl
    | cons y r ih => intro b l; unfold lts; rw [List.filter_cons_of_pos (by simp), List.map_cons, ih]
  rw [h1, h2]
  rfl
theorem last_at {N : Net} (o : NetOk N) {x : Nat} (hx : x < N.length) : (path N x)[(path N x).length - 1]? = some (lastOf (path N x)) ∧ lastOf (path N x) ∈ path N x := by
  obtain ⟨g, eg⟩ := path_head N x
  have hne : path N x ≠ [] := by rw [eg]; simp
  have hl : lastOf (path N x) = (path N x).getLast hne := by
    unfold lastOf
    rw [List.getLastD_eq_getLast?, List.getLast?_eq_some_getLast hne]
    rfl
  have e : (path N x)[(path N x).length - 1]? = some (lastOf (path N x)) := by
    rw [hl, ← List.getLast?_eq_getElem?, List.getLast?_eq_some_getLast hne]
  exact ⟨e, List.mem_of_getElem? e⟩
theorem frst_last {N : Net} (o : NetOk N) {x : Nat} (hx : x < N.length) (b : Int) : frstOf N b x (lastOf (path N x)) + burnOf N (lastOf (path N x)) = frst N b x (path N x).length := by
  obtain ⟨h1, h2⟩ := last_at o hx
  have hi := idx_of (path_been o hx).nd h1
  have hl := (path_been o hx).pos
  unfold frstOf frst
  rw [hi]
  have := take_succ_sum N h1
  rw [show (path N x).length - 1 + 1 = (path N x).length by omega] at this
  omega
theorem natV_ints (g : List Nat) : natV g = (g.map fun n : Nat => (n : Int)).map V.int := by unfold natV; rw [List.map_map]; rfl
end Em

namespace Em
open PySem PySem.Spec PyProof.Rows L2 Qt

theorem srt_nil : srt [] = [] := List.Perm.eq_nil (srt_perm [])
section
variable {N : Net} {b z t : Nat}
theorem meet_nil_row (k : Nat) (l : Lt) : (meet b k l (srt [])).2 = [] := by rw [srt_nil]; cases l <;> rfl
theorem meet_nil_lt (k : Nat) (l : Lt) : (meet b k l (srt [])).1 = l := by rw [srt_nil]; cases l <;> rfl
end
end Em

namespace Em
open PySem PySem.Spec PyProof.Rows L2 Qt

section
variable {X : Cx} {o e : Expr} {es : List Expr} {to : TE} {t : TA} {name : Str} {apos cpos : Pos} {T id : String} {r : V → List V → Hp → VK → Prop}
theorem call_len_seqK {K : PySem.W.Frag} (hK : X.K = K) : CallR X (.builtin "len") (fun xs H Q => ∃ p ys, xs = [V.ref p] ∧ (SqL K H p ys ∨ SqT K H p ys) ∧ Q (.int (ys.length : Nat)) H) := hK ▸ call_len_seq
end
structure Line (o : List Nat) (s : List Int) (bg : Option Nat) : Prop where
  nd : o.Nodup
  lt : ∀ y ∈ o, y < o.length
  len : s.length = o.length
  lo : 2 ≤ o.length
  hi : o.length ≤ 12
  sz : ∀ z ∈ s, 1 ≤ z ∧ z ≤ 10 ^ 58
  bg : ∀ b, bg = some b → b < o.length
section
variable {o : List Nat} {s : List Int} {bg : Option Nat}
variable {f : Int} {x : Nat}
end
end Em

namespace Em
open PySem PySem.Spec PyProof.Rows L2 Qt

abbrev Pr := Nat × Nat
/-- all rows of the walk so far -/
def allW (N : Net) (ks : Kds) (t : Nat) : List Row := ((List.range t).map (rowsW N ks)).flatten
theorem allW_succ (N : Net) (ks : Kds) (t : Nat) : allW N ks (t + 1) = allW N ks t ++ rowsW N ks t := by
  unfold allW
  rw [List.range_succ, List.map_append, List.flatten_append]
  show _ ++ (_ ++ []) = _
  rw [List.append_nil]
theorem allW_mem {N : Net} {ks : Kds} {t : Nat} {r : Row} : r ∈ allW N ks t ↔ ∃ b, b < t ∧ r ∈ rowsW N ks b := by
  unfold allW
  rw [List.mem_flatten]
  constructor
  · rintro ⟨l, hl, hr⟩
    obtain ⟨b, hb, rfl⟩ := List.mem_map.mp hl
    exact ⟨b, List.mem_range.mp hb, hr⟩
  · rintro ⟨b, hb, hr⟩
    exact ⟨_, List.mem_map.mpr ⟨b, List.mem_range.mpr hb, rfl⟩, hr⟩
theorem eqv_nil (ds : List PyData) : PyData.eqv (.list ds) (.list []) = decide (ds = []) := by
  cases ds with
  | nil => exact SeqAt.eqv_refl _ rfl
  | cons x r => rfl
theorem map_shaped {α : Type} {f : α → PyData} (h1 : ∀ a, (f a).canLay0 = true) (h2 : ∀ a, (f a).depth ≤ 7) (l : List α) : SeqAt.shaped (.list (l.map f)) = true ∧ (PyData.list (l.map f)).canLay0 = true ∧ PyData.depth (.list (l.map f)) ≤ 8 := by
  have e1 : (PyData.list (l.map f)).canLay0 = true := by
    show PyData.canLayAll0 (l.map f) = true
    exact all_lay h1 l
  have e2 : PyData.depth (.list (l.map f)) ≤ 8 := by
    show PyData.depthAll (l.map f) + 1 ≤ 8
    have := all_depth (f := f) (n := 7) h2 l
    omega
  refine ⟨?_, e1, e2⟩
  unfold SeqAt.shaped
  rw [e1, decide_eq_true (Nat.le_trans e2 (by decide))]
  rfl
theorem kd_lay (p : Nat × Nat) : (kdD p).canLay0 = true := rfl
theorem kd_depth (p : Nat × Nat) : (kdD p).depth ≤ 7 := by show 1 ≤ 7; decide
theorem TuA.dpl {K : PySem.W.Frag} {H : Hp} {vs : List V} {ds : List PyData} (h : TuA H vs ds) (e : PyData.hasDictAll ds = false) : DpAll K H vs ds := h.dx0.dp e
theorem nodict {α : Type} {f : α → PyData} (h : ∀ a, (f a).canLay0 = true) (l : List α) : PyData.hasDictAll (l.map f) = false := by
  have := PyData.hasDict_of_canLay (.list (l.map f)) (all_lay h l)
  exact this
theorem ix_seqK {X : Cx} {K : PySem.W.Frag} (h : X.K = K) : IxR X (rIx K) := h ▸ ix_seq
theorem op_neDK {X : Cx} {K : PySem.W.Frag} (h : X.K = K) (hu : X.A.units + 64 < cLine) : OpR X (compareOp .NotEq) (rNeD K) := h ▸ op_neD hu
end Em

namespace Em
open PySem PySem.Spec PyProof.Rows L2 Qt

theorem ring_along {N : Net} (o : NetOk N) {x z k : Nat} (hx : x < N.length) (hz : z < N.length) (h : goS N k x = some z) (y : Nat) : y ∈ wayR N z ↔ y ∈ wayR N x := by
  rw [wayR_iff o hz, wayR_iff o hx]
  constructor
  · rintro ⟨⟨m, hm⟩, r⟩
    exact ⟨⟨k + m, by rw [goS_add, h]; exact hm⟩, r⟩
  · rintro ⟨⟨m, hm⟩, n, hn, hy⟩
    have again : ∀ i, goS N (m + i * n) x = some y := by
      intro i
      induction i with
      | zero => rw [Nat.zero_mul]; exact hm
      | succ i ih => rw [Nat.add_mul, Nat.one_mul, ← Nat.add_assoc, goS_add, ih]; exact hy
    refine ⟨⟨m + k * n - k, ?_⟩, n, hn, hy⟩
    have h1 : k * 1 ≤ k * n := Nat.mul_le_mul_left k hn
    have h2 := goS_add N x k (m + k * n - k)
    rw [show k + (m + k * n - k) = m + k * n by omega, again k, h] at h2
    exact h2.symm
def totN (N : Net) : Int := sumB N (List.range N.length)
theorem sumB_le {N : Net} (o : NetOk N) : ∀ (n : Nat) (g : List Nat), n ≤ N.length → g.Nodup → (∀ y ∈ g, y < n) → sumB N g ≤ sumB N (List.range n)
  | 0, g, _, _, h2 => by
    cases g with
    | nil => exact Int.le_refl _
    | cons y r => exact absurd (h2 y List.mem_cons_self) (Nat.not_lt_zero _)
  | n + 1, g, hn, h1, h2 => by
    rw [List.range_succ, sumB_app, sumB_one]
    have hb := burn_pos o (show n < N.length by omega)
    by_cases hm : n ∈ g
    · have hp := List.perm_cons_erase hm
      rw [sumB_perm N hp, sumB_cons]
      have := sumB_le o n (g.erase n) (by omega) (h1.erase n) fun y hy => by
        have q := (h1.mem_erase_iff).mp hy
        have := h2 y q.2
        have := q.1
        omega
      omega
    · have := sumB_le o n g (by omega) h1 fun y hy => by
        have := h2 y hy
        have : y ≠ n := fun e => hm (e ▸ hy)
        omega
      omega
theorem tot_path {N : Net} (o : NetOk N) {x : Nat} (hx : x < N.length) : sumB N (path N x) ≤ totN N := sumB_le o _ _ (Nat.le_refl _) (path_been o hx).nd (path_been o hx).lt
theorem tot_nonneg {N : Net} (o : NetOk N) : 0 ≤ totN N := sumB_nonneg o fun y hy => List.mem_range.mp hy
theorem tot_lap {N : Net} (o : NetOk N) {x : Nat} (hx : x < N.length) : lapOf N x ≤ totN N := sumB_le o _ _ (Nat.le_refl _) (wayR_nd o hx) (way_sub o hx)
theorem frst_tot {N : Net} (o : NetOk N) {x j : Nat} (hx : x < N.length) (b : Int) (hj : j ≤ (path N x).length) : frst N b x j ≤ b + totN N := by
  have h1 := sum_mono o (path_been o hx).lt hj
  rw [List.take_length] at h1
  have h2 := tot_path o hx
  unfold frst
  omega
theorem frstOf_tot {N : Net} (o : NetOk N) {x y : Nat} (hx : x < N.length) (b : Int) (hy : y ∈ path N x) : frstOf N b x y ≤ b + totN N :=
  frst_tot o hx b (Nat.le_of_lt (List.idxOf_lt_length_iff.mpr hy))
section
variable {N : Net} {ks : Kds}
theorem lapY_tot (o : NetOk N) {y : Nat} (hy : y < N.length) {L : Int} (h : lapY N y = some L) : L ≤ totN N := by
  unfold lapY at h
  by_cases hr : y ∈ wayR N y
  · rw [if_pos hr] at h
    cases h
    exact tot_lap o hy
  · rw [if_neg hr] at h; cases h
theorem clashL_le {len : Int} {lap : Option Int} {e l : Int × Nat} {M D : Int} (he : e.1 ≤ M) (hl : l.1 ≤ M) (hD : 0 ≤ D) (hL : ∀ L, lap = some L → 1 ≤ L ∧ L ≤ D) {c : Int × Nat × Nat} (h : clashL len lap e l = some c) : c.1 ≤ M + D := by
  unfold clashL at h
  split at h
  · cases h
    show l.1 ≤ _
    omega
  · split at h
    · cases h
      show l.1 ≤ _
      omega
    · cases lap with
      | none => cases h
      | some L =>
        obtain ⟨h1, h2⟩ := hL L rfl
        simp only at h
        split at h
        · cases h
          have : 0 ≤ (l.1 - e.1) % L := Int.emod_nonneg _ (by omega)
          show l.1 + L - gapC (some L) (l.1 - e.1) ≤ _
          show l.1 + L - (l.1 - e.1) % L ≤ _
          omega
        · cases h
theorem pair_le (o : NetOk N) (hk : KdsOk N ks) {one other : Nat} {p p' : Nat × Nat} (hp : ks[one]? = some p) (hp' : ks[other]? = some p') {M : Int} (h1 : (p.1 : Int) ≤ M) (h2 : (p'.1 : Int) ≤ M) : ∀ c ∈ pairL N (lightsL N p.1 p.2) (lightsL N p'.1 p'.2) one other, c.1 ≤ M + 2 * totN N := by
  have hx := hk p (List.mem_of_getElem? hp)
  have hx' := hk p' (List.mem_of_getElem? hp')
  intro c hc
  obtain ⟨z, hz, e⟩ := List.mem_filterMap.mp hc
  obtain ⟨m1, m2⟩ := lights_is o hx hz
  unfold pairC at e
  cases q : lookL z.1 (lightsL N p'.1 p'.2) with
  | none => rw [q] at e; cases e
  | some w =>
    have m3 := look_mem q
    rw [look_lap o hx' p'.1 m3] at q
    cases q
    rw [look_lap o hx' p'.1 m3] at e
    simp only [Option.bind_some] at e
    have f1 : z.2.1 ≤ M + totN N := by
      rw [m2]
      have := frstOf_tot o hx (p.1 : Int) m1
      show frstOf N p.1 p.2 z.1 ≤ _
      omega
    have f2 : frstOf N p'.1 p'.2 z.1 ≤ M + totN N := by
      have := frstOf_tot o hx' (p'.1 : Int) m3
      omega
    have hz2 : z.2.2 = lapY N z.1 := by rw [m2]
    cases ec : clashL (burnOf N z.1) z.2.2 (srt2 (z.2.1, one) (frstOf N p'.1 p'.2 z.1, other)).1 (srt2 (z.2.1, one) (frstOf N p'.1 p'.2 z.1, other)).2 with
    | none => rw [ec] at e; cases e
    | some d =>
      rw [ec] at e
      cases e
      have hyl := path_lt o hx m1
      have key : ∀ (a b : Int × Nat), a.1 ≤ M + totN N → b.1 ≤ M + totN N → clashL (burnOf N z.1) z.2.2 a b = some d → d.1 ≤ M + 2 * totN N := fun a b ha hb h => by
        have := clashL_le (D := totN N) ha hb (tot_nonneg o) (fun L hL => ?_) h
        · omega
        · rw [hz2] at hL
          refine ⟨?_, lapY_tot o hyl hL⟩
          unfold lapY at hL
          by_cases hr : z.1 ∈ wayR N z.1
          · rw [if_pos hr] at hL
            cases hL
            have := burn_lap o hyl hr
            have := burn_pos o hyl
            omega
          · rw [if_neg hr] at hL; cases hL
      rcases srt2_or (z.2.1, one) (frstOf N p'.1 p'.2 z.1, other) with es | es
      · rw [es] at ec
        exact key _ _ f1 f2 ec
      · rw [es] at ec
        exact key _ _ f2 f1 ec
/-- a loss is not long behind the last kindling -/
theorem lost_le (o : NetOk N) (hk : KdsOk N ks) {t x f g : Nat} (h : LostAt N ks t x f g) {M : Int} (hM : ∀ p ∈ ks, (p.1 : Int) ≤ M) : (t : Int) ≤ M + 2 * totN N := by
  obtain ⟨l1, l2, l3, _⟩ := lost_lt o hk h
  have hfc := lost_fc o hk h
  have hp := List.getElem?_eq_getElem l1
  have hp' := List.getElem?_eq_getElem l2
  obtain ⟨k1, k2⟩ := pair_mem o hk hp hp' l3
  obtain ⟨d, hd, hle⟩ := k2 t x (.inl hfc.1)
  have hb := pair_le o hk hp hp' (hM _ (List.getElem_mem l1)) (hM _ (List.getElem_mem l2)) d hd
  have : (t : Int) ≤ d.1 := by
    rcases Int.lt_or_le d.1 t with q | q
    · exfalso
      obtain ⟨a, b⟩ := k1 d hd
      have := hfc.2 d.1 d.2.1 q
      rcases b with ⟨e1, e2⟩ | ⟨e1, e2⟩ <;> rw [e1, e2] at a
      · exact this.1 a
      · exact this.2 a
    · exact q
  omega
/-- where a way ends: its last lamp alone has no next -/
theorem end_last (o : NetOk N) {x z : Nat} (hx : x < N.length) (hz : z ∈ path N x) : nxt N z = none ↔ wayR N x = [] ∧ z = lastOf (path N x) := by
  have hj := idx_get hz
  have hnd := (path_been o hx).nd
  obtain ⟨l1, l2⟩ := last_at o hx
  constructor
  · intro h
    rcases next_at o hx hj with ⟨_, h2, h3⟩ | ⟨y, h1, _⟩ | ⟨y, h1, _⟩
    · refine ⟨?_, ?_⟩
      · unfold wayR
        rw [show cutAt N (path N x) = (path N x).length from h3]
        exact List.drop_length
      · rw [show (path N x).length - 1 = (path N x).idxOf z by omega] at l1
        rw [hj] at l1
        exact Option.some.inj l1
    · rw [h] at h1; cases h1
    · rw [h] at h1; cases h1
  · rintro ⟨h1, rfl⟩
    rcases next_at o hx l1 with ⟨h2, _⟩ | ⟨y, _, h3⟩ | ⟨y, h2, h3, h4⟩
    · exact h2
    · have := (List.getElem?_eq_some_iff.mp h3).1
      omega
    · exfalso
      have := wayR_get.mpr ⟨cutN N x, Nat.le_refl _, h4⟩
      rw [h1] at this
      cases this
end
def dueS (t : List (Option Fate)) : Em.Row → List (Option Fate)
  | .lost b k f g => t.set f (some (.lost b k g))
  | .ended b k f => t.set f (some (.ended b k))
  | .lit _ _ _ => t
theorem fatesR_get {N : Net} {ks : Kds} (o : NetOk N) (hk : KdsOk N ks) {R : List C4} (hR : Losses N ks R) {f : Nat} {p : Nat × Nat} (hp : ks[f]? = some p) :
    (∀ t x g, LostAt N ks t x f g → (fatesR N ks R)[f]? = some (.lost t x g)) ∧ ((∀ t x g, ¬ LostAt N ks t x f g) → (fatesR N ks R)[f]? = some (fateA N p)) := by
  have key : ∀ (R : List C4) (T : List Fate), f < T.length → (∀ F, (∀ c ∈ R, c.2.2.1 = f → Fate.lost c.1 c.2.1 c.2.2.2 = F) → (∃ c ∈ R, c.2.2.1 = f) → (R.foldl (fun t c => t.set c.2.2.1 (.lost c.1 c.2.1 c.2.2.2)) T)[f]? = some F) ∧ ((∀ c ∈ R, c.2.2.1 ≠ f) → (R.foldl (fun t c => t.set c.2.2.1 (.lost c.1 c.2.1 c.2.2.2)) T)[f]? = T[f]?) := fun R => by
    induction R with
    | nil => exact fun T hT => ⟨(fun F _ ⟨c, hc, _⟩ => by cases hc), fun _ => rfl⟩
    | cons c R ih =>
      intro T hT
      obtain ⟨h1, h2⟩ := ih (T.set c.2.2.1 (.lost c.1 c.2.1 c.2.2.2)) (by rw [List.length_set]; exact hT)
      rw [List.foldl_cons]
      refine ⟨fun F hF ⟨c', hc', e⟩ => ?_, fun hn => ?_⟩
      · by_cases hex : ∃ c ∈ R, c.2.2.1 = f
        · exact h1 F (fun d hd => hF d (List.mem_cons_of_mem _ hd)) hex
        · have : c' = c := by
            rcases List.mem_cons.mp hc' with z | z
            · exact z
            · exact absurd ⟨c', z, e⟩ hex
          subst this
          rw [h2 fun d hd e => hex ⟨d, hd, e⟩, e, List.getElem?_set_self hT, hF c' List.mem_cons_self e]
      · rw [h2 fun d hd => hn d (List.mem_cons_of_mem _ hd), List.getElem?_set_ne (hn c List.mem_cons_self)]
  have hf : f < (ks.map (fateA N)).length := by rw [List.length_map]; exact (List.getElem?_eq_some_iff.mp hp).1
  obtain ⟨k1, k2⟩ := key R (ks.map (fateA N)) hf
  refine ⟨fun t x g h => k1 _ (fun c hc e => ?_) ⟨((t : Int), x, f, g), (hR.iff _).mpr ⟨t, rfl, h⟩, rfl⟩, fun h => ?_⟩
  · obtain ⟨b', x', f', g'⟩ := c
    obtain ⟨t', e1, hl⟩ := (hR.iff _).mp hc
    simp only at e e1 hl ⊢
    subst e
    obtain ⟨r1, r2, r3⟩ := lost_once o hk h hl
    rw [e1, r1, r2, r3]
  · unfold fatesR
    rw [k2 fun c hc e => ?_, List.getElem?_map, hp]
    · rfl
    · obtain ⟨t', e1, hl⟩ := (hR.iff _).mp hc
      rw [e] at hl
      exact h _ _ _ hl
end Em

namespace Em
open PySem PySem.Spec PyProof.Rows L2 Qt

section
variable {N : Net} {ks : Kds}
theorem goS_on (o : NetOk N) {x : Nat} (hx : x < N.length) (hr : wayR N x ≠ []) : ∀ m, ∃ y, goS N m x = some y ∧ y < N.length
  | 0 => ⟨x, rfl, hx⟩
  | m + 1 => by
    obtain ⟨z, hz, _⟩ := goS_on o hx hr m
    obtain ⟨j, hj, _⟩ := goS_mem o hx m z hz
    cases hn : nxt N z with
    | none => exact absurd ((end_last o hx (List.mem_of_getElem? hj)).mp hn).1 hr
    | some y =>
      refine ⟨y, ?_, nxt_lt o hn⟩
      show (goS N m x).bind (nxt N) = _
      rw [hz]
      exact hn
theorem minN_congr {g h : List Nat} (e : ∀ y, y ∈ g ↔ y ∈ h) (hne : g ≠ []) : minN g = minN h := by
  obtain ⟨a, b⟩ := minN_mem hne
  have hne2 : h ≠ [] := fun z => by
    have := (e _).mp a
    rw [z] at this
    cases this
  obtain ⟨c, d⟩ := minN_mem hne2
  have h1 := b _ ((e _).mpr c)
  have h2 := d _ ((e _).mp a)
  omega
def dueL (N : Net) (ks : Kds) (T : Nat) : List (Option Fate) := (allW N ks (T + 1)).foldl dueS (List.replicate ks.length none)
end
section
variable {N : Net} {ks : Kds}
end
end Em

namespace Em
open PySem PySem.Spec PyProof.Rows L2 Qt

theorem dc_list {K : PySem.W.Frag} {a : Addr} {xs : List V} {g : TG} {tt : TT} {tk tv : TE} {vs : List Nat} {σ : L2.St} {H1 : Hp} {D : Addr} {Qd : Hp → Prop} (Pv : Nat → Hp → Prop) (h0 : Pv 0 (upd H1 D (.dK []))) (hl : ∀ i H, i ≤ xs.length → Pv i H → SqL K H a xs)
    (hs : ∀ i x H, xs[i]? = some x → Pv i H → g x (wipe σ vs) H fun σ2 H2 => wipe σ2 vs = wipe σ vs ∧ tt σ2 H2 fun b H3 =>
      if b = true then tk σ2 H3 fun y H4 => tv σ2 H4 fun z H5 => ∃ kvs k, y = kV k ∧ H5 D = some (.dK kvs) ∧ kvs.length < sizeLine ∧ Pv (i + 1) (upd H5 D (.dK (putK kvs k z))) else Pv (i + 1) H3) (hd : ∀ H, Pv xs.length H → Qd H) :
    ∃ W : Nat → Nat → Hp → Prop, (∃ m, W 0 m (upd H1 D (.dK []))) ∧ ∀ i m H, W i m H →
      ((Itl K a).stop i H ∧ Qd H) ∨ ((Itl K a).go i H ∧ ∃ Nx : Hp → Prop, (∀ H', Nx H' → ∃ m', m' < m ∧ W (i + 1) m' H') ∧ ∀ x H', (Itl K a).yld i H x H' → g x (wipe σ vs) H' fun σ2 H2 => wipe σ2 vs = wipe σ vs ∧ tt σ2 H2 fun b H3 =>
        if b = true then tk σ2 H3 fun y H4 => tv σ2 H4 fun z H5 => ∃ kvs k, y = kV k ∧ H5 D = some (.dK kvs) ∧ kvs.length < sizeLine ∧ Nx (upd H5 D (.dK (putK kvs k z))) else Nx H3) := by
  refine ⟨fun i m H => m = xs.length - i ∧ i ≤ xs.length ∧ Pv i H, ⟨xs.length, by simp, Nat.zero_le _, h0⟩, ?_⟩
  rintro i m H ⟨rfl, hi, p⟩
  have q := hl i H hi p
  by_cases hlt : i < xs.length
  · refine .inr ⟨⟨xs, xs[i], q, by simp [hlt]⟩, Pv (i + 1), fun H' p' => ⟨xs.length - (i + 1), by omega, rfl, hlt, p'⟩, fun x H' y => ?_⟩
    obtain ⟨e, y⟩ := y
    subst e
    exact hs i x _ (y xs q) p
  · have e : i = xs.length := by omega
    subst e
    exact .inl ⟨⟨xs, q, Nat.le_refl _⟩, hd H p⟩
def numK (h : C4 → Int) (R : List C4) : List (Key × V) := R.map fun c => ((Sum.inl (c.2.2.1 : Int) : Key), V.int (h c))
theorem numK_none {h : C4 → Int} {f : Nat} : ∀ {R : List C4}, (∀ c ∈ R, c.2.2.1 ≠ f) → valV (numK h R) (Sum.inl (f : Int) : Key) = none
  | [], _ => rfl
  | c :: R, hn => by
    have e : c.2.2.1 ≠ f := hn c List.mem_cons_self
    have : valV (numK h (c :: R)) (Sum.inl (f : Int) : Key) = valV (numK h R) (Sum.inl (f : Int) : Key) := valV_neg (fun q => e (by
      have := Sum.inl.inj q
      omega))
    rw [this]
    exact numK_none fun d hd => hn d (List.mem_cons_of_mem _ hd)
theorem numK_some {h : C4 → Int} {c : C4} : ∀ {R : List C4}, c ∈ R → (∀ d ∈ R, d.2.2.1 = c.2.2.1 → d = c) → valV (numK h R) (Sum.inl (c.2.2.1 : Int) : Key) = some (.int (h c))
  | [], hm, _ => by cases hm
  | d :: R, hm, hu => by
    by_cases e : d.2.2.1 = c.2.2.1
    · have := hu d List.mem_cons_self e
      subst this
      exact valV_pos rfl
    · have e2 : valV (numK h (d :: R)) (Sum.inl (c.2.2.1 : Int) : Key) = valV (numK h R) (Sum.inl (c.2.2.1 : Int) : Key) := valV_neg (fun q => e (by
        have := Sum.inl.inj q
        omega))
      rw [e2]
      refine numK_some ?_ fun d hd => hu d (List.mem_cons_of_mem _ hd)
      rcases List.mem_cons.mp hm with z | z
      · exact absurd (by rw [z]) e
      · exact z
section
variable {N : Net} {ks : Kds}
theorem losses_uniq (o : NetOk N) (hk : KdsOk N ks) {R : List C4} (hR : Losses N ks R) {c d : C4} (hc : c ∈ R) (hd : d ∈ R) (e : d.2.2.1 = c.2.2.1) : d = c := by
  obtain ⟨t, e1, h1⟩ := (hR.iff c).mp hc
  obtain ⟨t', e2, h2⟩ := (hR.iff d).mp hd
  rw [e] at h2
  obtain ⟨r1, r2, r3⟩ := lost_once o hk h1 h2
  obtain ⟨b, x, f, g⟩ := c
  obtain ⟨b', x', f', g'⟩ := d
  simp only at e e1 e2 r2 r3
  subst e r2 r3
  rw [e1, e2, r1]
theorem losses_nd (o : NetOk N) (hk : KdsOk N ks) {R : List C4} (hR : Losses N ks R) {i : Nat} {c : C4} (hc : R[i]? = some c) : ∀ d ∈ R.take i, d.2.2.1 ≠ c.2.2.1 := fun d hd e => by
  have hm := List.mem_of_getElem? hc
  have := losses_uniq o hk hR hm (List.mem_of_mem_take hd) e
  subst this
  obtain ⟨j, hj, e2⟩ := List.getElem_of_mem hd
  rw [List.getElem_take] at e2
  rw [List.length_take] at hj
  have h1 : R[j]? = some d := by rw [List.getElem?_eq_getElem (by omega), e2]
  have := (List.getElem?_inj (by omega) hR.nd).mp (h1.trans hc.symm)
  omega
/-- the dict of the beats of the losses -/
theorem beat_in (o : NetOk N) (hk : KdsOk N ks) {R : List C4} (hR : Losses N ks R) (f : Nat) : (∃ t x g, LostAt N ks t x f g ∧ valV (numK (·.1) R) (Sum.inl (f : Int) : Key) = some (.int (t : Nat))) ∨ ((∀ t x g, ¬ LostAt N ks t x f g) ∧ valV (numK (·.1) R) (Sum.inl (f : Int) : Key) = none) := by
  by_cases h : ∃ t x g, LostAt N ks t x f g
  · obtain ⟨t, x, g, h⟩ := h
    refine .inl ⟨t, x, g, h, ?_⟩
    have hm : ((t : Int), x, f, g) ∈ R := (hR.iff _).mpr ⟨t, rfl, h⟩
    exact numK_some (h := (·.1)) hm fun d hd e => losses_uniq o hk hR hm hd e
  · refine .inr ⟨fun t x g q => h ⟨t, x, g, q⟩, numK_none fun c hc e => ?_⟩
    obtain ⟨t, _, hl⟩ := (hR.iff c).mp hc
    rw [e] at hl
    exact h ⟨t, _, _, hl⟩
theorem brn_iff (o : NetOk N) (hk : KdsOk N ks) {t x f t0 : Nat} : (stW N ks (t + 1)).getD x none = some (f, t0) ↔ t0 ≤ t ∧ (t : Int) < (t0 : Int) + burnOf N x ∧ On N ks f t0 x ∧ Alive N ks f (t + 1) := by
  rw [(inv_all o hk (t + 1)).at_]
  constructor
  · rintro ⟨h1, h2, h3⟩
    exact ⟨by omega, by omega, h3⟩
  · rintro ⟨h1, h2, h3⟩
    exact ⟨by omega, by omega, h3⟩
theorem stW_at (o : NetOk N) (hk : KdsOk N ks) (t : Nat) {z : Nat} (hz : z < N.length) : (stW N ks t)[z]? = some ((stW N ks t).getD z none) := by
  rw [List.getD_eq_getElem?_getD, List.getElem?_eq_getElem (by rw [stW_len o hk]; exact hz)]
  rfl
end
end Em

namespace Em
open PySem PySem.Spec PyProof.Rows L2 Qt

section
variable {N : Net} {ks : Kds}
theorem onWay_late (o : NetOk N) {x z : Nat} (hx : x < N.length) {b t0 t : Int} (h : OnWay N b x t0 z) (h1 : b + totN N ≤ t) (h2 : t < t0 + burnOf N z) : ∃ (j : Nat) (laps : Int), (path N x)[j]? = some z ∧ cutN N x ≤ j ∧ t0 = frst N b x j + laps * lapOf N x ∧ 0 ≤ laps ∧ wayR N x ≠ [] ∧ 0 < lapOf N x ∧ frst N b x j ≤ b + totN N := by
  obtain ⟨j, laps, hj, e, h0, hc⟩ := h
  have hjl := (List.getElem?_eq_some_iff.mp hj).1
  by_cases q : cutN N x ≤ j
  · have hr : z ∈ wayR N x := wayR_get.mpr ⟨j, q, hj⟩
    have hne : wayR N x ≠ [] := fun e => by rw [e] at hr; cases hr
    refine ⟨j, laps, hj, q, e, h0, hne, ?_, frst_tot o hx b (Nat.le_of_lt hjl)⟩
    have hzl := (path_been o hx).lt z (List.mem_of_getElem? hj)
    have h3 := burn_pos o hzl
    have h4 : burnOf N z ≤ lapOf N x := by
      have hp : sumB N [z] ≤ lapOf N x := by
        unfold lapOf
        obtain ⟨u, w, euw⟩ := List.append_of_mem hr
        have e3 : sumB N (z :: w) = burnOf N z + sumB N w := sumB_cons N z w
        rw [euw, sumB_app, e3]
        have a1 := sumB_nonneg o (g := u) fun y hy => way_sub o hx y (by rw [euw]; exact List.mem_append_left _ hy)
        have a2 := sumB_nonneg o (g := w) fun y hy => way_sub o hx y (by rw [euw]; exact List.mem_append_right _ (List.mem_cons_of_mem _ hy))
        rw [sumB_one]
        omega
      rwa [sumB_one] at hp
    omega
  · exfalso
    have hl : laps = 0 := hc.resolve_right q
    rw [hl, Int.zero_mul, Int.add_zero] at e
    have h3 : frst N b x j + burnOf N z ≤ frst N b x (j + 1) := frst_gap o hx b hj (by omega)
    have h4 := frst_tot o hx b (show j + 1 ≤ (path N x).length by omega)
    omega
theorem lcm_pos {a b : Nat} (ha : 0 < a) (hb : 0 < b) : 0 < a / Nat.gcd a b * b := Nat.mul_pos (Nat.div_pos (Nat.gcd_le_left b ha) (Nat.gcd_pos_of_pos_left b ha)) hb
end
end Em

namespace Em
open PySem PySem.Spec PyProof.Rows L2 Qt

section
variable {N : Net} {ks : Kds} {a b x0 f0 : Nat}
end
end Em

namespace Em
open PySem PySem.Spec PyProof.Rows L2 Qt

def lexP (p q : Nat × Nat) : Prop := p.1 < q.1 ∨ (p.1 = q.1 ∧ p.2 < q.2)
def LitAt (N : Net) (ks : Kds) (x t f : Nat) : Prop := On N ks f t x ∧ Alive N ks f (t + 1)
/-- the first so many of them from a beat on -/
structure Lits (N : Net) (ks : Kds) (x first count : Nat) (W : List (Nat × Nat)) : Prop where
  srt : W.Pairwise lexP
  len : W.length ≤ count
  is_ : ∀ w ∈ W, first ≤ w.1 ∧ LitAt N ks x w.1 w.2
  all : ∀ t f, first ≤ t → LitAt N ks x t f → (t, f) ∈ W ∨ (W.length = count ∧ ∀ w ∈ W, lexP w (t, f))
end Em
namespace Em
open PySem PySem.Spec PyProof.Rows L2 Qt
/-- a def of the program with things told by keyword alone -/
structure DfD (K : PySem.W.Frag) (mg : Str → Option Value) (x : Str) (st : Stmt) (kws : List (Str × V)) (a : Addr) (fd : FuncData) : Prop where
  F : FunD K x x (defArgs st) (defBody st) (defScope st) [] kws a fd
  g : mg x = some (.ref a)
section
variable {N : Net} {ks : Kds}
open Classical in
open Classical in
end
end Em

namespace Em
open PySem PySem.Spec PyProof.Rows L2 Qt

def tmN (N : Net) (c : Nat) : Net := N.map fun z => (z.1 * (c : Int), z.2)
def tmK (ks : Kds) (c : Nat) : Kds := ks.map fun p => (p.1 * c, p.2)
section
variable {N : Net} {ks : Kds} {c : Nat}
theorem tmN_len : (tmN N c).length = N.length := by unfold tmN; rw [List.length_map]
theorem tmN_ok (o : NetOk N) (hc : 1 ≤ c) : NetOk (tmN N c) := by
  refine ⟨by rw [tmN_len]; exact o.lo, by rw [tmN_len]; exact o.hi, fun p hp => ?_, fun p hp y e => ?_⟩
  · obtain ⟨z, hz, rfl⟩ := List.mem_map.mp hp
    have h1 := o.len z hz
    have : 1 * 1 ≤ z.1 * (c : Int) := Int.mul_le_mul h1 (by omega) (by decide) (by omega)
    show 1 ≤ z.1 * (c : Int)
    omega
  · obtain ⟨z, hz, rfl⟩ := List.mem_map.mp hp
    rw [tmN_len]
    exact o.nx z hz y e
theorem tmK_ok (hk : KdsOk N ks) : KdsOk (tmN N c) (tmK ks c) := fun p hp => by
  obtain ⟨z, hz, rfl⟩ := List.mem_map.mp hp
  rw [tmN_len]
  exact hk z hz
theorem tm_nxt (x : Nat) : nxt (tmN N c) x = nxt N x := by
  unfold nxt tmN
  rw [List.getD_eq_getElem?_getD, List.getD_eq_getElem?_getD, List.getElem?_map]
  cases N[x]? <;> rfl
theorem tm_burn {x : Nat} (hx : x < N.length) : burnOf (tmN N c) x = burnOf N x * c := by
  unfold burnOf tmN
  rw [List.getD_eq_getElem?_getD, List.getD_eq_getElem?_getD, List.getElem?_map, List.getElem?_eq_getElem hx]
  rfl
theorem tm_step (g : List Nat) : step (tmN N c) g = step N g := by unfold step; rw [tm_nxt]
theorem tm_path (x : Nat) : path (tmN N c) x = path N x := by
  unfold path
  rw [tmN_len]
  have : ∀ n g, itr (step (tmN N c)) n g = itr (step N) n g := fun n => by
    induction n with
    | zero => intro g; rfl
    | succ n ih =>
      intro g
      show step (tmN N c) (itr (step (tmN N c)) n g) = step N (itr (step N) n g)
      rw [ih, tm_step]
  exact this _ _
theorem tm_cut (x : Nat) : cutN (tmN N c) x = cutN N x := by unfold cutN cutAt; rw [tm_path, tm_nxt]
theorem tm_wayR (x : Nat) : wayR (tmN N c) x = wayR N x := by
  have h := tm_cut (N := N) (c := c) x
  unfold cutN at h
  unfold wayR
  rw [h, tm_path]
theorem tm_sum : ∀ {g : List Nat}, (∀ y ∈ g, y < N.length) → sumB (tmN N c) g = sumB N g * c
  | [], _ => by show (0 : Int) = 0 * _; rw [Int.zero_mul]
  | y :: g, h => by
    rw [sumB_cons, sumB_cons, tm_burn (h y List.mem_cons_self), tm_sum fun z hz => h z (List.mem_cons_of_mem _ hz), Int.add_mul]
theorem tm_frst (o : NetOk N) {x : Nat} (hx : x < N.length) (b : Int) (j : Nat) : frst (tmN N c) (b * c) x j = frst N b x j * c := by
  unfold frst
  rw [tm_path, tm_sum fun y hy => (path_been o hx).lt y (List.mem_of_mem_take hy), Int.add_mul]
theorem tm_lap (o : NetOk N) {x : Nat} (hx : x < N.length) : lapOf (tmN N c) x = lapOf N x * c := by
  unfold lapOf
  rw [tm_wayR, tm_sum (way_sub o hx)]
theorem tm_onWay (o : NetOk N) {x z : Nat} (hx : x < N.length) {b t' : Int} : OnWay (tmN N c) (b * c) x t' z ↔ ∃ t, t' = t * c ∧ OnWay N b x t z := by
  unfold OnWay
  constructor
  · rintro ⟨j, laps, hj, e, h0, hc⟩
    rw [tm_path] at hj
    rw [tm_cut] at hc
    rw [tm_frst o hx, tm_lap o hx] at e
    refine ⟨frst N b x j + laps * lapOf N x, ?_, j, laps, hj, rfl, h0, hc⟩
    rw [e, Int.add_mul, Int.mul_assoc]
  · rintro ⟨t, rfl, j, laps, hj, e, h0, hc⟩
    refine ⟨j, laps, by rw [tm_path]; exact hj, ?_, h0, by rw [tm_cut]; exact hc⟩
    rw [tm_frst o hx, tm_lap o hx, e, Int.add_mul, Int.mul_assoc]
theorem tm_on (o : NetOk N) (hk : KdsOk N ks) {f z : Nat} {t' : Int} : On (tmN N c) (tmK ks c) f t' z ↔ ∃ t, t' = t * c ∧ On N ks f t z := by
  unfold On tmK
  constructor
  · rintro ⟨p', hp', h⟩
    rw [List.getElem?_map] at hp'
    cases e : ks[f]? with
    | none => rw [e] at hp'; cases hp'
    | some p =>
      rw [e] at hp'
      cases hp'
      have hx := hk p (List.mem_of_getElem? e)
      rw [show ((p.1 * c : Nat) : Int) = (p.1 : Int) * c from Int.natCast_mul _ _] at h
      obtain ⟨t, e1, h2⟩ := (tm_onWay o hx).mp h
      exact ⟨t, e1, p, rfl, h2⟩
  · rintro ⟨t, e1, p, hp, h⟩
    have hx := hk p (List.mem_of_getElem? hp)
    refine ⟨(p.1 * c, p.2), by rw [List.getElem?_map, hp]; rfl, ?_⟩
    rw [show ((p.1 * c : Nat) : Int) = (p.1 : Int) * c from Int.natCast_mul _ _]
    exact (tm_onWay o hx).mpr ⟨t, e1, h⟩
theorem on_nat (o : NetOk N) (hk : KdsOk N ks) {f z : Nat} {t : Int} (h : On N ks f t z) : ∃ n : Nat, t = n := by
  obtain ⟨p, hp, h⟩ := h
  have := onWay_ge o (hk p (List.mem_of_getElem? hp)) h
  exact Int.eq_ofNat_of_zero_le (by omega)
theorem tm_lt {a b : Nat} (hc : 1 ≤ c) : a * c < b * c ↔ a < b := Nat.mul_lt_mul_right (by omega)
theorem tm_inj {a b : Nat} (hc : 1 ≤ c) (h : a * c = b * c) : a = b := Nat.eq_of_mul_eq_mul_right (by omega) h
/-- what is lost -/
theorem tm_lost (o : NetOk N) (hk : KdsOk N ks) (hc : 1 ≤ c) : ∀ t' x f g, LostAt (tmN N c) (tmK ks c) t' x f g ↔ ∃ t, t' = t * c ∧ LostAt N ks t x f g := by
  have o' := tmN_ok (N := N) o hc
  have hk' : KdsOk (tmN N c) (tmK ks c) := tmK_ok hk
  have onN : ∀ {t' x f : Nat}, On (tmN N c) (tmK ks c) f (t' : Int) x ↔ ∃ t : Nat, t' = t * c ∧ On N ks f (t : Int) x := fun {t' x f} => by
    rw [tm_on o hk]
    constructor
    · rintro ⟨t, e, h⟩
      obtain ⟨n, rfl⟩ := on_nat o hk h
      exact ⟨n, by rw [← Int.natCast_mul] at e; omega, h⟩
    · rintro ⟨t, rfl, h⟩
      exact ⟨t, Int.natCast_mul _ _, h⟩
  intro t'
  induction t' using Nat.strongRecOn with
  | ind t' ih =>
    intro x f g
    have I' := inv_all o' hk' t'
    -- at a beat that is so many times another
    have main : ∀ t, t' = t * c → (LostAt (tmN N c) (tmK ks c) t' x f g ↔ LostAt N ks t x f g) := fun t et => by
      have I := inv_all o hk t
      have alive : ∀ f1, Alive (tmN N c) (tmK ks c) f1 t' ↔ Alive N ks f1 t := fun f1 => by
        constructor
        · intro h u hu y g1 q
          have hu' : u * c < t' := by rw [et]; exact (tm_lt hc).mpr hu
          exact h (u * c) hu' y g1 ((ih _ hu' y f1 g1).mpr ⟨u, rfl, q⟩)
        · intro h u hu y g1 q
          obtain ⟨u0, e, q2⟩ := (ih u hu y f1 g1).mp q
          exact h u0 (by rw [e, et] at hu; exact (tm_lt hc).mp hu) y g1 q2
      have on : ∀ {y f1 : Nat}, On (tmN N c) (tmK ks c) f1 (t' : Int) y ↔ On N ks f1 (t : Int) y := fun {y f1} => by
        rw [onN]
        constructor
        · rintro ⟨u, e, h⟩
          rw [et] at e
          rw [tm_inj hc e]
          exact h
        · intro h
          exact ⟨t, et, h⟩
      have stay : ∀ y g1, (∃ u', Stay (tmN N c) (tmK ks c) t' y g1 u') ↔ ∃ u, Stay N ks t y g1 u := fun y g1 => by
        constructor
        · rintro ⟨u', s1, s2, s3, s4⟩
          have hy := s1.lt o' hk'
          rw [tmN_len] at hy
          obtain ⟨u, e, h⟩ := onN.mp s1
          refine ⟨u, h, ?_, ?_, (alive g1).mp s4⟩
          · rw [e, et] at s2
            exact (tm_lt hc).mp s2
          · rw [e, et, tm_burn hy, Int.natCast_mul, Int.natCast_mul, ← Int.add_mul] at s3
            exact Int.lt_of_mul_lt_mul_right s3 (by omega)
        · rintro ⟨u, s1, s2, s3, s4⟩
          have hy := s1.lt o hk
          refine ⟨u * c, onN.mpr ⟨u, rfl, s1⟩, ?_, ?_, (alive g1).mpr s4⟩
          · rw [et]
            exact (tm_lt hc).mpr s2
          · rw [et, tm_burn hy, Int.natCast_mul, Int.natCast_mul, ← Int.add_mul]
            exact Int.mul_lt_mul_of_pos_right s3 (by omega)
      have held : ∀ y, Held (tmN N c) (tmK ks c) t' y ↔ Held N ks t y := fun y => by
        constructor
        · rintro ⟨g1, h⟩
          exact ⟨g1, (stay y g1).mp h⟩
        · rintro ⟨g1, h⟩
          exact ⟨g1, (stay y g1).mpr h⟩
      have best : ∀ y m, Best (tmN N c) (tmK ks c) t' y m ↔ Best N ks t y m := fun y m => by
        constructor
        · rintro ⟨b1, b2, b3⟩
          exact ⟨on.mp b1, (alive m).mp b2, fun f1 h1 h2 => b3 f1 (on.mpr h1) ((alive f1).mpr h2)⟩
        · rintro ⟨b1, b2, b3⟩
          exact ⟨on.mpr b1, (alive m).mpr b2, fun f1 h1 h2 => b3 f1 (on.mp h1) ((alive f1).mp h2)⟩
      rw [lost_sem o' hk' I', lost_sem o hk I, on, alive, stay, held, best]
    constructor
    · intro h
      obtain ⟨h1, _⟩ := (lost_sem o' hk' I').mp h
      obtain ⟨t, e, _⟩ := onN.mp h1
      exact ⟨t, e, (main t e).mp h⟩
    · rintro ⟨t, e, h⟩
      exact (main t e).mpr h
end
end Em
namespace Em
open PySem PySem.Spec PyProof.Rows L2 Qt
section
variable {N : Net} {ks : Kds} {c : Nat}
end
end Em
namespace Em
open PySem PySem.Spec PyProof.Rows L2 Qt
section
variable {N : Net} {ks : Kds} {c : Nat}
theorem tm_alive (o : NetOk N) (hk : KdsOk N ks) (hc : 1 ≤ c) {f t r : Nat} (hr : r < c) : Alive (tmN N c) (tmK ks c) f (t * c + r + 1) ↔ Alive N ks f (t + 1) := by
  have hl := tm_lost (c := c) o hk hc
  constructor
  · intro h u hu x g q
    refine h (u * c) ?_ x g ((hl _ _ _ _).mpr ⟨u, rfl, q⟩)
    have := Nat.mul_le_mul_right c (show u ≤ t by omega)
    omega
  · intro h u' hu x g q
    obtain ⟨u, rfl, q2⟩ := (hl u' x f g).mp q
    refine h u ?_ x g q2
    rcases Nat.lt_or_ge u (t + 1) with z | z
    · exact z
    · have := Nat.mul_le_mul_right c z
      rw [Nat.add_mul, Nat.one_mul] at this
      omega
def tmLt (c : Nat) : Lt → Lt
  | none => none
  | some (f, t) => some (f, t * c)
theorem tm_st (o : NetOk N) (hk : KdsOk N ks) (hc : 1 ≤ c) {t r : Nat} (hr : r < c) : stW (tmN N c) (tmK ks c) (t * c + r + 1) = (stW N ks (t + 1)).map (tmLt c) := by
  have o' := tmN_ok (N := N) o hc
  have hk' : KdsOk (tmN N c) (tmK ks c) := tmK_ok hk
  have key : ∀ z, z < N.length → ∀ f u', (stW (tmN N c) (tmK ks c) (t * c + r + 1)).getD z none = some (f, u') ↔ ∃ u, u' = u * c ∧ (stW N ks (t + 1)).getD z none = some (f, u) := fun z hz f u' => by
    rw [brn_iff o' hk', tm_burn hz, tm_on o hk, tm_alive o hk hc hr]
    constructor
    · rintro ⟨h1, h2, ⟨u, e, h3⟩, h4⟩
      obtain ⟨n, rfl⟩ := on_nat o hk h3
      have e2 : u' = n * c := by rw [← Int.natCast_mul] at e; omega
      subst e2
      refine ⟨n, rfl, (brn_iff o hk).mpr ⟨?_, ?_, h3, h4⟩⟩
      · rcases Nat.lt_or_ge t n with q | q
        · have := Nat.mul_le_mul_right c (show t + 1 ≤ n from q)
          rw [Nat.add_mul, Nat.one_mul] at this
          omega
        · exact q
      · rcases Int.lt_or_le (t : Int) ((n : Int) + burnOf N z) with q | q
        · exact q
        · exfalso
          have h5 := Int.mul_le_mul_of_nonneg_right q (show (0 : Int) ≤ c by omega)
          rw [Int.add_mul] at h5
          rw [Int.natCast_add, Int.natCast_mul, Int.natCast_mul] at h2
          omega
    · rintro ⟨u, rfl, h⟩
      obtain ⟨h1, h2, h3, h4⟩ := (brn_iff o hk).mp h
      refine ⟨?_, ?_, ⟨u, Int.natCast_mul _ _, h3⟩, h4⟩
      · have := Nat.mul_le_mul_right c h1
        omega
      · have h5 := Int.mul_le_mul_of_nonneg_right (show (t : Int) + 1 ≤ (u : Int) + burnOf N z by omega) (show (0 : Int) ≤ c by omega)
        rw [Int.add_mul, Int.add_mul, Int.one_mul] at h5
        rw [Int.natCast_add, Int.natCast_mul, Int.natCast_mul]
        omega
  refine List.ext_getElem? fun z => ?_
  rw [List.getElem?_map]
  by_cases hz : z < N.length
  · rw [stW_at o' hk' _ (by rw [tmN_len]; exact hz), stW_at o hk _ hz]
    show some _ = some _
    cases e : (stW N ks (t + 1)).getD z none with
    | some q =>
      obtain ⟨f, u⟩ := q
      rw [(key z hz f (u * c)).mpr ⟨u, rfl, e⟩]
      rfl
    | none =>
      cases e2 : (stW (tmN N c) (tmK ks c) (t * c + r + 1)).getD z none with
      | none => rfl
      | some q =>
        obtain ⟨f, u'⟩ := q
        obtain ⟨u, _, e3⟩ := (key z hz f u').mp e2
        rw [e] at e3
        cases e3
  · rw [List.getElem?_eq_none (by rw [stW_len o' hk', tmN_len]; omega), List.getElem?_eq_none (by rw [stW_len o hk]; omega)]
    rfl
end
end Em
namespace Em
open PySem PySem.Spec PyProof.Rows L2 Qt
section
variable {N : Net} {ks : Kds}
end
end Em
namespace Em
open PySem PySem.Spec PyProof.Rows L2 Qt
end Em

namespace Em
open PySem PySem.Spec PyProof.Rows L2 Qt

section
variable {α β : Type} {K : PySem.W.Frag} {g : TG} {tt : TT} {te : TE} {vs : List Nat} {σ : L2.St} {H1 : Hp} {D : Addr} {Qd : Hp → Prop}
theorem take_map_succ {A : List α} {h : α → β} {i : Nat} {z : α} (hz : A[i]? = some z) : (A.map h).take (i + 1) = (A.map h).take i ++ [h z] := by
  rw [List.take_add_one, List.getElem?_map, hz]; rfl
theorem mapd_get {A : List α} {dA : α → PyData} {i : Nat} {d : PyData} (h : (A.map dA)[i]? = some d) : ∃ z, A[i]? = some z ∧ d = dA z := by
  rw [List.getElem?_map] at h
  cases e : A[i]? with
  | none => rw [e] at h; cases h
  | some z => rw [e] at h; exact ⟨z, rfl, (Option.some.inj h).symm⟩
/-- of a list of tuples (or numbers) -/
theorem lcm_list {l : Addr} {xs : List V} (A : List α) (dA : α → PyData) (dB : β → PyData) (h : α → β) (hl : H1 l = some (.lst xs)) (hxs : TuA H1 xs (A.map dA)) (nD : H1 D = none) (hA : A.length ≤ 100000)
    (hs : ∀ (i : Nat) (z : α) (x : V) (H : Hp) (Q : V → Hp → Prop) (R : Hp → Prop), A[i]? = some z → xs[i]? = some x → Tu H x (dA z) → Kp [] H1 H → (∀ y H4, Kp [] H H4 → Tu H4 y (dB (h z)) → Q y H4) →
      g x (wipe σ vs) H fun σ2 H2 => wipe σ2 vs = wipe σ vs ∧ tt σ2 H2 fun b H3 => if b = true then te σ2 H3 Q else R H3)
    (hd : ∀ ws H, H D = some (.lst ws) → TuA H ws ((A.map h).map dB) → Kp [] H1 H → Qd H) :
    ∃ W : Nat → Nat → Hp → Prop, (∃ m, W 0 m (upd H1 D (.lst []))) ∧ ∀ i m H, W i m H →
      ((Itl K l).stop i H ∧ Qd H) ∨ ((Itl K l).go i H ∧ ∃ Nx : Hp → Prop, (∀ H', Nx H' → ∃ m', m' < m ∧ W (i + 1) m' H') ∧ ∀ x H', (Itl K l).yld i H x H' → g x (wipe σ vs) H' fun σ2 H2 => wipe σ2 vs = wipe σ vs ∧ tt σ2 H2 fun b H3 =>
        if b = true then te σ2 H3 fun y H4 => ∃ acc, H4 D = some (.lst acc) ∧ acc.length < sizeLine ∧ Nx (upd H4 D (.lst (acc ++ [y]))) else Nx H3) := by
  have lx : xs.length = A.length := by rw [hxs.len, List.length_map]
  have sz : 100000 < sizeLine := by decide
  refine lc_list (xs := xs) (fun i H' => ∃ ws, H' D = some (.lst ws) ∧ TuA H' ws (((A.map h).take i).map dB) ∧ Kp [] H1 H') ⟨[], upd_same, .nil, Kp.new nD⟩ (fun i H' _ hP => ?_) (fun i x H' hx1 hP => ?_) (fun H2 hP => ?_)
  · obtain ⟨_, _, _, k⟩ := hP
    exact SqL.of (k.lst (by simp) hl)
  · obtain ⟨ws, hD, hws, k⟩ := hP
    obtain ⟨d, g1, g2⟩ := (hxs.kt k.kt0).get hx1
    obtain ⟨z, hz, rfl⟩ := mapd_get g1
    refine hs i z x H' _ _ hz hx1 g2 k fun y H4 k4 hy => ?_
    have hD4 := k4.lst (by simp) hD
    have tput : Kt H4 (upd H4 D (.lst (ws ++ [y]))) := Kt.put hD4 fun _ z => by cases z
    have hwl : ws.length ≤ 100000 := by
      rw [hws.len, List.length_map, List.length_take, List.length_map]
      omega
    refine ⟨ws, hD4, by omega, ws ++ [y], upd_same, ?_, Kp.drop nD ((k.tr k4).of0.tr (Kp.put (by simp) hD4 fun ps z => by cases z))⟩
    rw [take_map_succ hz, List.map_append]
    exact ((hws.kt k4.kt0).kt tput).app (.cons (hy.kt tput) .nil)
  · obtain ⟨ws, hD, hws, k⟩ := hP
    rw [show xs.length = (A.map h).length by rw [lx, List.length_map], List.take_length] at hws
    exact hd ws H2 hD hws k
/-- of the numbers from 0 on -/
theorem lcm_range {n : Nat} (dB : β → PyData) (h : Nat → β) (nD : H1 D = none) (hA : n ≤ 100000)
    (hs : ∀ (i : Nat) (H : Hp) (Q : V → Hp → Prop) (R : Hp → Prop), i < n → Kp [] H1 H → (∀ y H4, Kp [] H H4 → Tu H4 y (dB (h i)) → Q y H4) →
      g (.int (i : Nat)) (wipe σ vs) H fun σ2 H2 => wipe σ2 vs = wipe σ vs ∧ tt σ2 H2 fun b H3 => if b = true then te σ2 H3 Q else R H3)
    (hd : ∀ ws H, H D = some (.lst ws) → TuA H ws (((List.range n).map h).map dB) → Kp [] H1 H → Qd H) :
    ∃ W : Nat → Nat → Hp → Prop, (∃ m, W 0 m (upd H1 D (.lst []))) ∧ ∀ i m H, W i m H →
      ((Itr 0 n).stop i H ∧ Qd H) ∨ ((Itr 0 n).go i H ∧ ∃ Nx : Hp → Prop, (∀ H', Nx H' → ∃ m', m' < m ∧ W (i + 1) m' H') ∧ ∀ x H', (Itr 0 n).yld i H x H' → g x (wipe σ vs) H' fun σ2 H2 => wipe σ2 vs = wipe σ vs ∧ tt σ2 H2 fun b H3 =>
        if b = true then te σ2 H3 fun y H4 => ∃ acc, H4 D = some (.lst acc) ∧ acc.length < sizeLine ∧ Nx (upd H4 D (.lst (acc ++ [y]))) else Nx H3) := by
  have sz : 100000 < sizeLine := by decide
  refine lc_range (n := n) (fun i H' => ∃ ws, H' D = some (.lst ws) ∧ TuA H' ws (((List.range i).map h).map dB) ∧ Kp [] H1 H') ⟨[], upd_same, .nil, Kp.new nD⟩ (fun i H' hi hP => ?_) (fun H2 hP => ?_)
  · obtain ⟨ws, hD, hws, k⟩ := hP
    rw [show (0 + (i : Int)) = (i : Int) by omega]
    refine hs i H' _ _ hi k fun y H4 k4 hy => ?_
    have hD4 := k4.lst (by simp) hD
    have tput : Kt H4 (upd H4 D (.lst (ws ++ [y]))) := Kt.put hD4 fun _ z => by cases z
    have hwl : ws.length ≤ 100000 := by
      rw [hws.len, List.length_map, List.length_map, List.length_range]
      omega
    refine ⟨ws, hD4, by omega, ws ++ [y], upd_same, ?_, Kp.drop nD ((k.tr k4).of0.tr (Kp.put (by simp) hD4 fun ps z => by cases z))⟩
    rw [List.range_succ, List.map_append, List.map_append]
    exact ((hws.kt k4.kt0).kt tput).app (.cons (hy.kt tput) .nil)
  · obtain ⟨ws, hD, hws, k⟩ := hP
    exact hd ws H2 hD hws k
end
def LstOf (H : Hp) (l : Addr) (ds : List PyData) : Prop := ∃ ws, H l = some (.lst ws) ∧ TuA H ws ds
section
variable {S : List Addr} {H H' : Hp} {l p : Addr} {ds : List PyData} {o : HO}
theorem LstOf.kp (h : LstOf H l ds) (k : Kp S H H') (t : Kt H H') (hl : l ∉ S) : LstOf H' l ds := by
  obtain ⟨ws, a, b⟩ := h
  exact ⟨ws, k.lst hl a, b.kt t⟩
theorem LstOf.kp0 (h : LstOf H l ds) (k : Kp [] H H') : LstOf H' l ds := h.kp k k.kt0 (by simp)
theorem LstOf.ne (h : LstOf H l ds) (n : H p = none) : l ≠ p := by
  obtain ⟨ws, a, _⟩ := h
  intro e
  rw [e, n] at a
  cases a
theorem LstOf.dx (h : LstOf H l ds) : Dx [] H (.ref l) (.list ds) := by
  obtain ⟨ws, a, b⟩ := h
  exact .lst (by simp) a b.dx0
end
structure Say (TB TB2 TB3 : Addr) (H : Hp) (v : V) (N : Net) (kl : Addr) (ks : Kds) : Prop where
  n : Tu H v (netD N)
  ok : NetOk N
  k : LstOf H kl (ks.map kdD)
  hk : KdsOk N ks
  h40 : ks.length ≤ 40
  t1 : GxR.TabG H TB
  t2 : GxR.TabG H TB2
  t3 : GxR.TabG H TB3
theorem Say.kp {S : List Addr} {TB TB2 TB3 : Addr} {H H' : Hp} {v : V} {N : Net} {kl : Addr} {ks : Kds} (h : Say TB TB2 TB3 H v N kl ks) (k : Kp S H H') (t : Kt H H') (hl : kl ∉ S) : Say TB TB2 TB3 H' v N kl ks := ⟨h.n.kt t, h.ok, h.k.kp k t hl, h.hk, h.h40, k.tab _ h.t1, k.tab _ h.t2, k.tab _ h.t3⟩
theorem Say.kp0 {TB TB2 TB3 : Addr} {H H' : Hp} {v : V} {N : Net} {kl : Addr} {ks : Kds} (h : Say TB TB2 TB3 H v N kl ks) (k : Kp [] H H') : Say TB TB2 TB3 H' v N kl ks := h.kp k k.kt0 (by simp)
theorem Say.other {TB TB2 TB3 : Addr} {H : Hp} {v : V} {N : Net} {kl kl' : Addr} {ks ks' : Kds} (h : Say TB TB2 TB3 H v N kl ks) (k : LstOf H kl' (ks'.map kdD)) (hk : KdsOk N ks') (h40 : ks'.length ≤ 40) : Say TB TB2 TB3 H v N kl' ks' := ⟨h.n, h.ok, k, hk, h40, h.t1, h.t2, h.t3⟩
theorem net_tup {H : Hp} {v : V} {N : Net} (h : Tu H v (netD N)) : ∃ (l : Addr) (xs : List V), v = .ref l ∧ H l = some (.tup xs) ∧ TuA H xs (N.map lampD) ∧ xs.length = N.length := by
  unfold netD at h
  cases h with
  | tup hx hs => exact ⟨_, _, rfl, hx, hs, by rw [hs.len, List.length_map]⟩
theorem nx_tu {H : Hp} (o : Option Nat) : Tu H (nxV o) (nxD o) := by
  cases o with
  | none => exact .non
  | some u => exact .int _
theorem lamp_tup {H : Hp} {v : V} {z : Int × Option Nat} (h : Tu H v (lampD z)) : ∃ l : Addr, v = .ref l ∧ H l = some (.tup [.int z.1, nxV z.2]) := by
  unfold lampD at h
  cases h with
  | tup hx hs =>
    cases hs with
    | cons h1 hs =>
      cases hs with
      | cons h2 hs =>
        cases hs
        cases h1
        cases e : z.2 with
        | none => rw [e] at h2; cases h2; exact ⟨_, rfl, hx⟩
        | some u => rw [e] at h2; cases h2; exact ⟨_, rfl, hx⟩
theorem kd_tup {H : Hp} {v : V} {z : Nat × Nat} (h : Tu H v (kdD z)) : ∃ l : Addr, v = .ref l ∧ H l = some (.tup [.int (z.1 : Nat), .int (z.2 : Nat)]) := tupI_at (ns := [(z.1 : Int), (z.2 : Int)]) h
theorem kd_of {H : Hp} {l : Addr} {b x : Nat} (h : H l = some (.tup [.int (b : Nat), .int (x : Nat)])) : Tu H (.ref l) (kdD (b, x)) := tupI_of (ns := [(b : Int), (x : Int)]) h
end Em

namespace Em
open PySem PySem.Spec PyProof.Rows L2 Qt

structure Turn (ks ks' : Kds) (g : Nat → Nat) : Prop where
  len : ks'.length = ks.length
  lt : ∀ f, f < ks.length → g f < ks.length
  at_ : ∀ f, f < ks.length → ks'[g f]? = ks[f]?
  inj : ∀ f h, f < ks.length → h < ks.length → g f = g h → f = h
  onto : ∀ f', f' < ks.length → ∃ f, f < ks.length ∧ f' = g f
def Unlike (N : Net) (ks : Kds) : Prop := ∀ f h (t : Int) x, On N ks f t x → On N ks h t x → f = h
section
variable {N : Net} {ks ks' : Kds} {g : Nat → Nat}
theorem On.num {f x : Nat} {t : Int} (h : On N ks f t x) : f < ks.length := by
  obtain ⟨p, hp, _⟩ := h
  exact (List.getElem?_eq_some_iff.mp hp).1
theorem lost_num (o : NetOk N) (hk : KdsOk N ks) {t x f h : Nat} (l : LostAt N ks t x f h) : f < ks.length ∧ h < ks.length := by
  obtain ⟨l1, _, l3⟩ := (lost_sem o hk (inv_all o hk t)).mp l
  refine ⟨l1.num, ?_⟩
  rcases l3 with ⟨u, s⟩ | ⟨_, b, _⟩
  · exact s.1.num
  · exact b.1.num
variable (o : NetOk N) (hk : KdsOk N ks) (T : Turn ks ks' g) (U : Unlike N ks)
include o hk T U
omit U o in
def g4 (g : Nat → Nat) (c : C4) : C4 := (c.1, c.2.1, g c.2.2.1, g c.2.2.2)
end
end Em

namespace Em
open PySem PySem.Spec PyProof.Rows L2 Qt

structure Out (N N' : Net) (ks ks' : Kds) (e : Nat → Nat) (U : Nat) : Prop where
  mono : ∀ f h, f < h → h < ks'.length → e f < e h
  on : ∀ f (t : Int) x, f < ks'.length → (On N' ks' f t x ↔ On N ks (e f) t x)
  burn : ∀ f (t : Int) x, On N' ks' f t x → burnOf N' x = burnOf N x
  no : ∀ t, t < U → ∀ x f g, f < ks'.length → LostAt N ks t x (e f) g → ∃ g1, g1 < ks'.length ∧ g = e g1
section
variable {N N' : Net} {ks ks' : Kds} {e : Nat → Nat} {U : Nat}
theorem Out.inj (P : Out N N' ks ks' e U) {f h : Nat} (hf : f < ks'.length) (hh : h < ks'.length) (q : e f = e h) : f = h := by
  rcases Nat.lt_trichotomy f h with a | a | a
  · have := P.mono _ _ a hh; omega
  · exact a
  · have := P.mono _ _ a hf; omega
theorem Out.le (P : Out N N' ks ks' e U) {f h : Nat} (hf : f < ks'.length) (hh : h < ks'.length) : e f ≤ e h ↔ f ≤ h := by
  rcases Nat.lt_trichotomy f h with a | a | a
  · have := P.mono _ _ a hh; omega
  · subst a; simp
  · have := P.mono _ _ a hf; omega
end
section
variable {N : Net} {ks : Kds} {r : Nat}
end
end Em

namespace Em
open PySem PySem.Spec PyProof.Rows L2 Qt

def shK (c : Nat) (L : Kds) : Kds := L.map fun p => (p.1 + c, p.2)
structure Late (N : Net) (E L : Kds) (s c mx : Nat) : Prop where
  late : ∀ p ∈ L, s ≤ p.1
  early : ∀ p ∈ E, p.1 ≤ mx
  rest : E ≠ [] → (mx : Int) + 2 * totN N < s
  laps : E ≠ [] → ∀ x, x < N.length → wayR N x ≠ [] → lapOf N x ∣ (c : Int)
theorem onWay_sh {N : Net} {b t d : Int} {x z : Nat} : OnWay N (b + d) x (t + d) z ↔ OnWay N b x t z := by
  unfold OnWay frst
  constructor
  · rintro ⟨j, laps, h1, h2, h3⟩
    exact ⟨j, laps, h1, by omega, h3⟩
  · rintro ⟨j, laps, h1, h2, h3⟩
    exact ⟨j, laps, h1, by omega, h3⟩
theorem onWay_far {N : Net} (o : NetOk N) {x z : Nat} (hx : x < N.length) {b u : Int} {c : Nat} (hu : b + totN N < u) (hl : wayR N x ≠ [] → lapOf N x ∣ (c : Int)) : OnWay N b x (u + c) z ↔ OnWay N b x u z := by
  have far : ∀ v, u ≤ v → ∀ j laps, (path N x)[j]? = some z → v = frst N b x j + laps * lapOf N x → (laps = 0 ∨ cutN N x ≤ j) → cutN N x ≤ j ∧ 0 < lapOf N x ∧ lapOf N x ∣ (c : Int) ∧ frst N b x j < u := fun v hv j laps hj e hc => by
    have hjl := (List.getElem?_eq_some_iff.mp hj).1
    have h1 := frst_tot o hx b (Nat.le_of_lt hjl)
    have hcj : cutN N x ≤ j := by
      rcases hc with q | q
      · rw [q, Int.zero_mul] at e
        omega
      · exact q
    have hr : z ∈ wayR N x := wayR_get.mpr ⟨j, hcj, hj⟩
    have hne : wayR N x ≠ [] := fun e => by rw [e] at hr; cases hr
    have h0 := lap_nonneg o hx
    refine ⟨hcj, ?_, hl hne, by omega⟩
    rcases Int.lt_or_le 0 (lapOf N x) with q | q
    · exact q
    · have : lapOf N x = 0 := by omega
      rw [this, Int.mul_zero] at e
      omega
  constructor
  · rintro ⟨j, laps, hj, e, h0, hc⟩
    obtain ⟨q1, q2, ⟨k, q3⟩, q4⟩ := far (u + c) (by omega) j laps hj e hc
    refine ⟨j, laps - k, hj, ?_, ?_, .inr q1⟩
    · rw [Int.sub_mul, Int.mul_comm k]
      omega
    · have h1 : 0 < (laps - k) * lapOf N x := by
        rw [Int.sub_mul, Int.mul_comm k]
        omega
      have := Int.pos_of_mul_pos_left h1 q2
      omega
  · rintro ⟨j, laps, hj, e, h0, hc⟩
    obtain ⟨q1, q2, ⟨k, q3⟩, q4⟩ := far u (Int.le_refl _) j laps hj e hc
    refine ⟨j, laps + k, hj, ?_, ?_, .inr q1⟩
    · rw [Int.add_mul, Int.mul_comm k]
      omega
    · have : 0 ≤ k := by
        rcases Int.lt_or_le k 0 with q | q
        · have := Int.mul_neg_of_pos_of_neg q2 q
          omega
        · exact q
      omega
section
variable {N : Net} {E L : Kds} {s c mx : Nat}
/-- till the late ones come all is as it is without them -/
theorem pre_on {L : Kds} {f x : Nat} {t : Int} (hf : f < E.length) : On N (E ++ L) f t x ↔ On N E f t x := by
  unfold On
  rw [List.getElem?_append_left hf]
theorem pre_old (o : NetOk N) {L : Kds} {s : Nat} (hk : KdsOk N (E ++ L)) (hL : ∀ p ∈ L, s ≤ p.1) {f x : Nat} {t : Int} (h : On N (E ++ L) f t x) (ht : t < s) : f < E.length := by
  rcases Nat.lt_or_ge f E.length with q | q
  · exact q
  · exfalso
    obtain ⟨p, hp, hw⟩ := h
    rw [List.getElem?_append_right q] at hp
    have hm := List.mem_of_getElem? hp
    have h1 := hL p hm
    have h2 := onWay_ge o (hk p (List.mem_append_right _ hm)) hw
    omega
theorem pre_lost (o : NetOk N) {L : Kds} {s : Nat} (hk : KdsOk N (E ++ L)) (hL : ∀ p ∈ L, s ≤ p.1) : ∀ t x f g, t < s → (LostAt N (E ++ L) t x f g ↔ LostAt N E t x f g) := by
  have hkE : KdsOk N E := fun p hp => hk p (List.mem_append_left _ hp)
  intro t
  induction t using Nat.strongRecOn with
  | ind t ih =>
    intro x f g hts
    have alive : ∀ f, Alive N (E ++ L) f t ↔ Alive N E f t := fun f => by
      constructor
      · intro h u hu y g1 hl
        exact h u hu y g1 ((ih u hu y _ _ (by omega)).mpr hl)
      · intro h u hu y g1 hl
        exact h u hu y g1 ((ih u hu y _ _ (by omega)).mp hl)
    have on : ∀ {f x : Nat} {u : Int}, u < s → (On N (E ++ L) f u x ↔ On N E f u x) := fun {f x u} hu => by
      constructor
      · intro h
        exact (pre_on (pre_old o hk hL h hu)).mp h
      · intro h
        exact (pre_on h.num).mpr h
    have stay : ∀ g u, Stay N (E ++ L) t x g u ↔ Stay N E t x g u := fun g u => by
      unfold Stay
      rw [alive]
      constructor
      · rintro ⟨s1, s2, s3⟩
        exact ⟨(on (by omega)).mp s1, s2, s3⟩
      · rintro ⟨s1, s2, s3⟩
        exact ⟨(on (by omega)).mpr s1, s2, s3⟩
    have held : Held N (E ++ L) t x ↔ Held N E t x := by
      unfold Held
      simp only [stay]
    have best : ∀ m, Best N (E ++ L) t x m ↔ Best N E t x m := fun m => by
      unfold Best
      rw [on (by omega), alive]
      constructor
      · rintro ⟨b1, b2, b3⟩
        exact ⟨b1, b2, fun f hf ha => b3 f ((on (by omega)).mpr hf) ((alive f).mpr ha)⟩
      · rintro ⟨b1, b2, b3⟩
        exact ⟨b1, b2, fun f hf ha => b3 f ((on (by omega)).mp hf) ((alive f).mp ha)⟩
    rw [lost_sem o hk (inv_all o hk t), lost_sem o hkE (inv_all o hkE t), on (by omega), alive, held, best]
    simp only [stay]
variable (o : NetOk N) (hk : KdsOk N (E ++ L)) (A : Late N E L s c mx)
include o hk A
omit o A in
theorem la_kok : KdsOk N (E ++ shK c L) := fun p hp => by
  rcases List.mem_append.mp hp with h | h
  · exact hk p (List.mem_append_left _ h)
  · obtain ⟨q, hq, rfl⟩ := List.mem_map.mp h
    exact hk q (List.mem_append_right _ hq)
omit hk o in
theorem la_late' : ∀ p ∈ shK c L, s + c ≤ p.1 := fun p hp => by
  obtain ⟨q, hq, rfl⟩ := List.mem_map.mp hp
  have := A.late q hq
  show s + c ≤ q.1 + c
  omega
theorem la_mid {t x f g : Nat} (ht : t < s + c) : LostAt N (E ++ shK c L) t x f g ↔ LostAt N E t x f g := pre_lost o (la_kok (c := c) hk) (la_late' A) t x f g ht
theorem la_lostE {t x f g : Nat} (h : LostAt N E t x f g) : t < s := by
  have hkE : KdsOk N E := fun p hp => hk p (List.mem_append_left _ hp)
  have hne : E ≠ [] := fun e => by
    have := (lost_num o hkE h).1
    rw [e] at this
    exact absurd this (Nat.not_lt_zero _)
  have h1 := A.rest hne
  have h2 := lost_le o hkE h (M := (mx : Int)) fun p hp => by have := A.early p hp; omega
  omega
theorem la_on {f x : Nat} {u : Int} (hu : E ≠ [] → (mx : Int) + totN N < u) : On N (E ++ shK c L) f (u + c) x ↔ On N (E ++ L) f u x := by
  by_cases q : f < E.length
  · rw [pre_on q, pre_on q]
    have hne : E ≠ [] := fun e => by rw [e] at q; exact absurd q (Nat.not_lt_zero _)
    have hu := hu hne
    unfold On
    constructor
    · rintro ⟨p, hp, h⟩
      have hm := List.mem_of_getElem? hp
      have hx := hk p (List.mem_append_left _ hm)
      have h1 := A.early p hm
      exact ⟨p, hp, (onWay_far o hx (by omega) (A.laps hne _ hx)).mp h⟩
    · rintro ⟨p, hp, h⟩
      have hm := List.mem_of_getElem? hp
      have hx := hk p (List.mem_append_left _ hm)
      have h1 := A.early p hm
      exact ⟨p, hp, (onWay_far o hx (by omega) (A.laps hne _ hx)).mpr h⟩
  · unfold On shK
    rw [List.getElem?_append_right (by omega), List.getElem?_append_right (by omega), List.getElem?_map]
    constructor
    · rintro ⟨p', hp', h⟩
      cases e : L[f - E.length]? with
      | none => rw [e] at hp'; cases hp'
      | some p =>
        rw [e] at hp'
        cases hp'
        rw [show ((p.1 + c : Nat) : Int) = (p.1 : Int) + (c : Int) from Int.natCast_add _ _] at h
        exact ⟨p, rfl, onWay_sh.mp h⟩
    · rintro ⟨p, hp, h⟩
      refine ⟨(p.1 + c, p.2), by rw [hp]; rfl, ?_⟩
      rw [show ((p.1 + c : Nat) : Int) = (p.1 : Int) + (c : Int) from Int.natCast_add _ _]
      exact onWay_sh.mpr h
/-- what burns on behind the rest was lit late -/
theorem la_back {f x : Nat} {u t : Int} (h : On N (E ++ L) f u x) (ht : s ≤ t) (h2 : t < u + burnOf N x) : E ≠ [] → (mx : Int) + totN N < u := fun hne => by
  have h1 := A.rest hne
  have hx := h.lt o hk
  have h3 : burnOf N x ≤ totN N := by
    have := sumB_le o N.length [x] (Nat.le_refl _) (by simp) fun y hy => by rw [List.mem_singleton.mp hy]; exact hx
    rwa [sumB_one] at this
  omega
theorem la_back' {f x : Nat} {u t : Int} (h : On N (E ++ shK c L) f u x) (ht : s ≤ t) (h2 : t + c < u + burnOf N x) : ∃ n : Nat, u = n + c ∧ (E ≠ [] → (mx : Int) + totN N < n) := by
  have h0 := h
  have hx := h.lt o (la_kok (c := c) hk)
  have h3 : burnOf N x ≤ totN N := by
    have := sumB_le o N.length [x] (Nat.le_refl _) (by simp) fun y hy => by rw [List.mem_singleton.mp hy]; exact hx
    rwa [sumB_one] at this
  have hn := tot_nonneg o
  by_cases q : f < E.length
  · have hne : E ≠ [] := fun e => by rw [e] at q; exact absurd q (Nat.not_lt_zero _)
    have h1 := A.rest hne
    obtain ⟨n, hn'⟩ := Int.eq_ofNat_of_zero_le (show 0 ≤ u - c by omega)
    exact ⟨n, by omega, fun _ => by omega⟩
  · obtain ⟨p, hp, hw⟩ := h
    have hm := List.mem_of_getElem? hp
    have hge := onWay_ge o (la_kok (c := c) hk p hm) hw
    rw [List.getElem?_append_right (by omega)] at hp
    have h4 := la_late' A p (List.mem_of_getElem? hp)
    obtain ⟨n, hn'⟩ := Int.eq_ofNat_of_zero_le (show 0 ≤ u - c by omega)
    refine ⟨n, by omega, fun hne => ?_⟩
    have h1 := A.rest hne
    omega
theorem la_lost : ∀ t x f g, s ≤ t → (LostAt N (E ++ shK c L) (t + c) x f g ↔ LostAt N (E ++ L) t x f g) := by
  have hk' := la_kok (c := c) hk
  intro t
  induction t using Nat.strongRecOn with
  | ind t ih =>
    intro x f g hts
    have alive : ∀ f, Alive N (E ++ shK c L) f (t + c) ↔ Alive N (E ++ L) f t := fun f => by
      constructor
      · intro h u hu y g1 hl
        rcases Nat.lt_or_ge u s with q | q
        · exact h u (by omega) y g1 ((la_mid o hk A (by omega)).mpr ((pre_lost o hk A.late u y f g1 q).mp hl))
        · exact h (u + c) (by omega) y g1 ((ih u hu y f g1 q).mpr hl)
      · intro h u hu y g1 hl
        rcases Nat.lt_or_ge u (s + c) with q | q
        · have hE := (la_mid o hk A q).mp hl
          have hs := la_lostE o hk A hE
          exact h u (by omega) y g1 ((pre_lost o hk A.late u y f g1 hs).mpr hE)
        · have e : u = (u - c) + c := by omega
          rw [e] at hl
          exact h (u - c) (by omega) y g1 ((ih (u - c) (by omega) y f g1 (by omega)).mp hl)
    have on : ∀ {f : Nat}, On N (E ++ shK c L) f ((t + c : Nat) : Int) x ↔ On N (E ++ L) f (t : Int) x := fun {f} => by
      rw [Int.natCast_add]
      exact la_on o hk A fun hne => by
        have := A.rest hne
        have := tot_nonneg o
        omega
    have stay : ∀ g, (∃ u, Stay N (E ++ shK c L) (t + c) x g u) ↔ ∃ u, Stay N (E ++ L) t x g u := fun g => by
      constructor
      · rintro ⟨u', s1, s2, s3, s4⟩
        obtain ⟨n, e, hn⟩ := la_back' o hk A (t := (t : Int)) s1 (by omega) (by omega)
        rw [e] at s1
        exact ⟨n, (la_on o hk A hn).mp s1, by omega, by omega, (alive g).mp s4⟩
      · rintro ⟨u, s1, s2, s3, s4⟩
        have hb := la_back o hk A s1 (t := (t : Int)) (by omega) s3
        refine ⟨u + c, ?_, by omega, by omega, (alive g).mpr s4⟩
        rw [Int.natCast_add]
        exact (la_on o hk A hb).mpr s1
    have held : Held N (E ++ shK c L) (t + c) x ↔ Held N (E ++ L) t x := by
      constructor
      · rintro ⟨g1, h⟩
        exact ⟨g1, (stay g1).mp h⟩
      · rintro ⟨g1, h⟩
        exact ⟨g1, (stay g1).mpr h⟩
    have best : ∀ m, Best N (E ++ shK c L) (t + c) x m ↔ Best N (E ++ L) t x m := fun m => by
      unfold Best
      rw [on, alive]
      constructor
      · rintro ⟨b1, b2, b3⟩
        exact ⟨b1, b2, fun f hf ha => b3 f (on.mpr hf) ((alive f).mpr ha)⟩
      · rintro ⟨b1, b2, b3⟩
        exact ⟨b1, b2, fun f hf ha => b3 f (on.mp hf) ((alive f).mp ha)⟩
    rw [lost_sem o hk' (inv_all o hk' _), lost_sem o hk (inv_all o hk t), on, alive, stay, held, best]
omit o hk A in
def putN (s c t : Nat) : Nat := if s ≤ t then t + c else t
/-- all losses -/
theorem la_all (t' x f g : Nat) : LostAt N (E ++ shK c L) t' x f g ↔ ∃ t, t' = putN s c t ∧ LostAt N (E ++ L) t x f g := by
  constructor
  · intro h
    rcases Nat.lt_or_ge t' (s + c) with q | q
    · have hE := (la_mid o hk A q).mp h
      have hs := la_lostE o hk A hE
      refine ⟨t', ?_, (pre_lost o hk A.late t' x f g hs).mpr hE⟩
      unfold putN
      rw [if_neg (by omega)]
    · have e : t' = (t' - c) + c := by omega
      rw [e] at h
      refine ⟨t' - c, ?_, (la_lost o hk A _ x f g (by omega)).mp h⟩
      unfold putN
      rw [if_pos (by omega)]
      exact e
  · rintro ⟨t, rfl, h⟩
    unfold putN
    by_cases q : s ≤ t
    · rw [if_pos q]
      exact (la_lost o hk A t x f g q).mpr h
    · rw [if_neg q]
      exact (la_mid o hk A (by omega)).mpr ((pre_lost o hk A.late t x f g (by omega)).mp h)
theorem la_alive {f t : Nat} (ht : s ≤ t) : Alive N (E ++ shK c L) f (t + c) ↔ Alive N (E ++ L) f t := by
  constructor
  · intro h u hu y g1 hl
    refine h (putN s c u) ?_ y g1 ((la_all o hk A _ _ _ _).mpr ⟨u, rfl, hl⟩)
    unfold putN
    split <;> omega
  · intro h u hu y g1 hl
    obtain ⟨v, e, h2⟩ := (la_all o hk A _ _ _ _).mp hl
    refine h v ?_ y g1 h2
    unfold putN at e
    split at e <;> omega
omit o hk A in
def putI (s c : Nat) (t : Int) : Int := if (s : Int) ≤ t then t + c else t
omit o hk A in
def shF (s c : Nat) : Fate → Fate
  | .lost t x r => .lost (putI s c t) x r
  | .ended t x => .ended (putI s c t) x
  | .goes x t => .goes x (putI s c t)
omit hk A in
theorem frst_sh {x : Nat} (b d : Int) (j : Nat) : frst N (b + d) x j = frst N b x j + d := by
  unfold frst
  omega
def shLt (c : Nat) : Lt → Lt
  | none => none
  | some (f, t) => some (f, t + c)
theorem la_st {t : Nat} (ht : s ≤ t) : stW N (E ++ shK c L) (t + c + 1) = (stW N (E ++ L) (t + 1)).map (shLt c) := by
  have hk' := la_kok (c := c) hk
  have al : ∀ f, Alive N (E ++ shK c L) f (t + c + 1) ↔ Alive N (E ++ L) f (t + 1) := fun f => by
    rw [show t + c + 1 = (t + 1) + c by omega]
    exact la_alive o hk A (by omega)
  refine List.ext_getElem? fun z => ?_
  rw [List.getElem?_map]
  by_cases hz : z < N.length
  · rw [stW_at o hk' _ hz, stW_at o hk _ hz]
    show some _ = some _
    have fwd : ∀ f u, (stW N (E ++ L) (t + 1)).getD z none = some (f, u) → (stW N (E ++ shK c L) (t + c + 1)).getD z none = some (f, u + c) := fun f u h => by
      obtain ⟨r1, r2, r3, r4⟩ := (brn_iff o hk).mp h
      have hb := la_back o hk A r3 (t := (t : Int)) (by omega) r2
      refine (brn_iff o hk').mpr ⟨by omega, by omega, ?_, (al f).mpr r4⟩
      rw [Int.natCast_add]
      exact (la_on o hk A hb).mpr r3
    cases e : (stW N (E ++ L) (t + 1)).getD z none with
    | some q =>
      obtain ⟨f, u⟩ := q
      rw [fwd f u e]
      rfl
    | none =>
      cases e2 : (stW N (E ++ shK c L) (t + c + 1)).getD z none with
      | none => rfl
      | some q =>
        obtain ⟨f, u'⟩ := q
        obtain ⟨r1, r2, r3, r4⟩ := (brn_iff o hk').mp e2
        obtain ⟨n, en, hn⟩ := la_back' o hk A (t := (t : Int)) r3 (by omega) (by omega)
        rw [en] at r3
        rw [(brn_iff o hk).mpr ⟨by omega, by omega, (la_on o hk A hn).mp r3, (al f).mp r4⟩] at e
        cases e
  · rw [List.getElem?_eq_none (by rw [stW_len o hk']; omega), List.getElem?_eq_none (by rw [stW_len o hk]; omega)]
    rfl
end
end Em

namespace Em
open PySem PySem.Spec PyProof.Rows L2 Qt

theorem Kp.over {S T : List Addr} {H H1 H2 : Hp} (k : Kp S H H1) (k' : Kp T H1 H2) (hT : ∀ a ∈ T, H a = none) : Kp S H H2 :=
  ⟨fun c o n h t => k'.at_ c o (fun z => by rw [hT c z] at h; cases h) (k.at_ c o n h t) t, fun c h => k'.tab c (k.tab c h), fun c h => k'.tr_ c (k.tr_ c h)⟩
def kN (x : Nat) : Key := Sum.inl (x : Int)
theorem kN_inj {x y : Nat} (h : kN x = kN y) : x = y := by
  have : ((x : Nat) : Int) = y := Sum.inl.inj h
  omega
structure KeysN (r : List (Key × V)) (n : Nat) : Prop where
  nd : (r.map (·.1)).Nodup
  lt : ∀ kv ∈ r, ∃ x, x < n ∧ kv.1 = kN x
theorem KeysN.nil {n : Nat} : KeysN [] n := ⟨List.nodup_nil, fun kv h => by cases h⟩
theorem KeysN.len {r : List (Key × V)} {n : Nat} (h : KeysN r n) : r.length ≤ n := by
  have h1 := h.nd.length_le_of_subset (l₂ := (List.range n).map kN) fun k hk => by
    obtain ⟨kv, hkv, rfl⟩ := List.mem_map.mp hk
    obtain ⟨x, hx, e⟩ := h.lt kv hkv
    rw [e]
    exact List.mem_map.mpr ⟨x, List.mem_range.mpr hx, rfl⟩
  rw [List.length_map, List.length_map, List.length_range] at h1
  exact h1
theorem KeysN.put {r : List (Key × V)} {n x : Nat} (h : KeysN r n) (hx : x < n) (v : V) (hn : valV r (kN x) = none) : KeysN (putK r (kN x) v) n := by
  refine ⟨nd_putK v h.nd hn, fun kv hkv => ?_⟩
  rw [putK_new v hn] at hkv
  rcases List.mem_append.mp hkv with q | q
  · exact h.lt kv q
  · rw [List.mem_singleton.mp q]
    exact ⟨x, hx, rfl⟩
theorem KeysN.drop {r : List (Key × V)} {n : Nat} (h : KeysN r n) (k : Key) : KeysN (dropK r k) n := ⟨nd_dropK h.nd, fun kv hkv => h.lt kv (dropK_mem hkv)⟩
def RelL (H : Hp) : Option V → Lt → Prop
  | none, none => True
  | some v, some (f, t0) => ∃ ta : Addr, v = .ref ta ∧ H ta = some (.tup [.int (f : Nat), .int (t0 : Nat)])
  | _, _ => False
theorem RelL.kt {H H' : Hp} (k : Kt H H') : ∀ {o : Option V} {l : Lt}, RelL H o l → RelL H' o l
  | none, none, _ => trivial
  | some _, some (_, _), ⟨ta, e, h⟩ => ⟨ta, e, k _ _ h⟩
  | none, some _, h => h.elim
  | some _, none, h => h.elim
def BurnD (H : Hp) (b : Addr) (n : Nat) (L : Nat → Lt) : Prop := ∃ r, H b = some (.dK r) ∧ KeysN r n ∧ ∀ x, x < n → RelL H (valV r (kN x)) (L x)
theorem BurnD.kp {S : List Addr} {H H' : Hp} {b : Addr} {n : Nat} {L : Nat → Lt} (h : BurnD H b n L) (k : Kp S H H') (t : Kt H H') (hb : b ∉ S) : BurnD H' b n L := by
  obtain ⟨r, h1, h2, h3⟩ := h
  exact ⟨r, k.at_ b _ hb h1 (fun ps z => by cases z), h2, fun x hx => (h3 x hx).kt t⟩
theorem BurnD.ext {H : Hp} {b : Addr} {n : Nat} {L L' : Nat → Lt} (h : BurnD H b n L) (e : ∀ x, x < n → L x = L' x) : BurnD H b n L' := by
  obtain ⟨r, h1, h2, h3⟩ := h
  exact ⟨r, h1, h2, fun x hx => by rw [← e x hx]; exact h3 x hx⟩
theorem BurnD.tr {H : Hp} {b : Addr} {n : Nat} {L : Nat → Lt} (h : BurnD H b n L) : H b ≠ none ∧ ∀ xs, H b ≠ some (.tup xs) := by
  obtain ⟨r, h1, _⟩ := h
  constructor
  · intro z
    rw [h1] at z
    cases z
  · intro xs z
    rw [h1] at z
    cases z
/-- one is lit -/
theorem BurnD.lit {H : Hp} {b : Addr} {n : Nat} {L : Nat → Lt} {r : List (Key × V)} (h1 : H b = some (.dK r)) (h2 : KeysN r n) (h3 : ∀ x, x < n → RelL H (valV r (kN x)) (L x)) {x f t0 : Nat} (hx : x < n) (hn : valV r (kN x) = none) {ta : Addr} (ht : H ta = some (.tup [.int (f : Nat), .int (t0 : Nat)])) :
    BurnD (upd H b (.dK (putK r (kN x) (.ref ta)))) b n (fun y => if y = x then some (f, t0) else L y) := by
  have t : Kt H (upd H b (.dK (putK r (kN x) (.ref ta)))) := Kt.put h1 fun _ z => by cases z
  refine ⟨_, upd_same, h2.put hx _ hn, fun y hy => ?_⟩
  show RelL _ _ (if y = x then some (f, t0) else L y)
  rw [valV_put]
  by_cases e : y = x
  · rw [if_pos (by rw [e]), if_pos e]
    exact ⟨ta, rfl, t _ _ ht⟩
  · rw [if_neg (fun z => e (kN_inj z)), if_neg e]
    exact (h3 y hy).kt t
structure ComeD (H0 H : Hp) (c : Addr) (n : Nat) (F : Nat → List Nat) (r : List (Key × V)) : Prop where
  top : H c = some (.dK r)
  keys : KeysN r n
  no : ∀ y, y < n → F y = [] → valV r (kN y) = none
  yes : ∀ y, y < n → F y ≠ [] → ∃ ly : Addr, valV r (kN y) = some (.ref ly) ∧ H ly = some (.lst (natV (F y))) ∧ H0 ly = none ∧ ly ≠ c
  one : ∀ y z ly, y < n → z < n → valV r (kN y) = some (.ref ly) → valV r (kN z) = some (.ref ly) → y = z
  new : H0 c = none
theorem ComeD.kp {S : List Addr} {H0 H H' : Hp} {c : Addr} {n : Nat} {F : Nat → List Nat} {r : List (Key × V)} (h : ComeD H0 H c n F r) (k : Kp S H H') (hS : ∀ s ∈ S, H0 s ≠ none) : ComeD H0 H' c n F r := by
  have nS : ∀ a, H0 a = none → a ∉ S := fun a ha hs => hS a hs ha
  refine ⟨k.at_ c _ (nS c h.new) h.top (fun ps z => by cases z), h.keys, h.no, fun y hy hF => ?_, h.one, h.new⟩
  obtain ⟨ly, h1, h2, h3, h4⟩ := h.yes y hy hF
  exact ⟨ly, h1, k.lst (nS ly h3) h2, h3, h4⟩
theorem ComeD.ext {H0 H : Hp} {c : Addr} {n : Nat} {F F' : Nat → List Nat} {r : List (Key × V)} (h : ComeD H0 H c n F r) (e : ∀ y, y < n → F y = F' y) : ComeD H0 H c n F' r :=
  ⟨h.top, h.keys, fun y hy hF => h.no y hy (by rw [e y hy]; exact hF), fun y hy hF => by
    rw [← e y hy] at hF ⊢
    exact h.yes y hy hF, h.one, h.new⟩
end Em

namespace Em
open PySem PySem.Spec PyProof.Rows L2 Qt

def isLost : Em.Row → Bool
  | .lost _ _ _ _ => true
  | _ => false
def isLit : Em.Row → Bool
  | .lit _ _ _ => true
  | _ => false
def isEnded : Em.Row → Bool
  | .ended _ _ _ => true
  | _ => false
theorem nat_tu {H : Hp} : ∀ B : List Nat, TuA H (natV B) (B.map fun n : Nat => PyData.int (n : Int))
  | [] => .nil
  | n :: r => .cons (.int _) (nat_tu r)
theorem tu_int {H : Hp} : ∀ {B : List Int} {ws : List V}, TuA H ws (B.map fun i : Int => PyData.int i) → ws = B.map V.int
  | [], _, h => by cases h; rfl
  | n :: r, _, h => by
    cases h with
    | cons h1 h2 =>
      cases h1
      rw [tu_int h2]
      rfl
section
variable {N : Net} {ks : Kds} {t : Nat}
/-- the lamps to which somebody comes -/
def selS (N : Net) (ks : Kds) (t : Nat) : List Nat := (List.range N.length).filter fun x => decide (cmW N ks t x ≠ [])
def mtW (N : Net) (ks : Kds) (t x : Nat) : Lt × List Em.Row := metB N t (stW N ks t) (waitK ks t) x
theorem mtW_eq (x : Nat) : mtW N ks t x = meet t x (leftB N t (stW N ks t) x) (srt (cmW N ks t x)) := rfl
theorem mt_nil {x : Nat} (h : cmW N ks t x = []) : mtW N ks t x = (leftB N t (stW N ks t) x, []) := by
  rw [mtW_eq, h]
  exact Prod.ext (meet_nil_lt _ _) (meet_nil_row _ _)
theorem sel_up : (selS N ks t).Pairwise (· < ·) := List.Pairwise.filter _ List.pairwise_lt_range
theorem flat_filter {α β : Type} (p : α → Bool) (f : α → List β) (h : ∀ x, p x = false → f x = []) : ∀ R : List α, ((R.filter p).map f).flatten = (R.map f).flatten
  | [] => rfl
  | a :: R => by
    rw [List.filter_cons, List.map_cons, List.flatten_cons]
    cases e : p a with
    | true =>
      rw [if_pos rfl, List.map_cons, List.flatten_cons, flat_filter p f h R]
    | false =>
      rw [if_neg (by decide), h a e, flat_filter p f h R]
      rfl
theorem rows_sel (o : NetOk N) (hk : KdsOk N ks) : rowsW N ks t = overL N t (stW N ks t) N.length ++ ((selS N ks t).map fun x => (mtW N ks t x).2).flatten := by
  have h := (beat_at o (b := t) (stW_len o hk t) (wait_lt (t := t) hk)).2.2
  show (beatA N t (stW N ks t) (waitK ks t)).rows = _
  rw [h]
  unfold selS
  rw [flat_filter]
  · rfl
  · intro x hx
    rw [mt_nil (by simpa using hx)]
theorem over_ended : ∀ r ∈ overL N t (stW N ks t) N.length, isEnded r = true ∧ isLost r = false ∧ isLit r = false := by
  intro r hr
  unfold overL at hr
  obtain ⟨j, _, h⟩ := List.mem_filterMap.mp hr
  unfold overB at h
  cases e : outB N t (stW N ks t) j with
  | none => rw [e] at h; cases h
  | some f =>
    rw [e] at h
    simp only [Option.bind_some] at h
    split at h
    · cases h; exact ⟨rfl, rfl, rfl⟩
    · cases h
theorem filt_flat (p : Em.Row → Bool) : ∀ S : List Nat, ((S.map fun x => (mtW N ks t x).2).flatten).filter p = (S.map fun x => (mtW N ks t x).2.filter p).flatten
  | [] => rfl
  | x :: S => by
    rw [List.map_cons, List.flatten_cons, List.filter_append, List.map_cons, List.flatten_cons, filt_flat p S]
theorem filt_none (p : Em.Row → Bool) {R : List Em.Row} (h : ∀ r ∈ R, p r = false) : R.filter p = [] := List.filter_eq_nil_iff.mpr fun r hr => by rw [h r hr]; decide
theorem filt_lost (o : NetOk N) (hk : KdsOk N ks) : (rowsW N ks t).filter isLost = ((selS N ks t).map fun x => (mtW N ks t x).2.filter isLost).flatten := by
  rw [rows_sel o hk, List.filter_append, filt_flat, filt_none _ fun r hr => (over_ended r hr).2.1]
  rfl
theorem mt_some {x g t0 : Nat} (h : leftB N t (stW N ks t) x = some (g, t0)) : (mtW N ks t x).1 = some (g, t0) ∧ (mtW N ks t x).2.filter isLost = (srt (cmW N ks t x)).map (fun f => Em.Row.lost t x f g) ∧ (mtW N ks t x).2.filter isLit = [] := by
  have e : mtW N ks t x = (some (g, t0), (srt (cmW N ks t x)).map fun f => Em.Row.lost t x f g) := by
    rw [mtW_eq, h]; rfl
  rw [e]
  refine ⟨rfl, List.filter_eq_self.mpr fun r hr => ?_, filt_none _ fun r hr => ?_⟩
  · obtain ⟨f, _, rfl⟩ := List.mem_map.mp hr; rfl
  · obtain ⟨f, _, rfl⟩ := List.mem_map.mp hr; rfl
theorem mt_none {x g : Nat} {r : List Nat} (h : leftB N t (stW N ks t) x = none) (hs : srt (cmW N ks t x) = g :: r) : (mtW N ks t x).1 = some (g, t) ∧ (mtW N ks t x).2.filter isLost = r.map (fun f => Em.Row.lost t x f g) ∧ (mtW N ks t x).2.filter isLit = [.lit t x g] := by
  have e : mtW N ks t x = (some (g, t), .lit t x g :: r.map fun f => Em.Row.lost t x f g) := by
    rw [mtW_eq, h, hs]; rfl
  rw [e]
  refine ⟨rfl, ?_, ?_⟩
  · rw [List.filter_cons]
    exact List.filter_eq_self.mpr fun r hr => by obtain ⟨f, _, rfl⟩ := List.mem_map.mp hr; rfl
  · rw [List.filter_cons]
    show Em.Row.lit t x g :: _ = _
    rw [filt_none _ fun r hr => ?_]
    obtain ⟨f, _, rfl⟩ := List.mem_map.mp hr; rfl
theorem KeysN.ints : ∀ {r : List (Key × V)} {n : Nat}, (∀ kv ∈ r, ∃ x, x < n ∧ kv.1 = kN x) → ∃ is : List Int, r.map (·.1) = is.map Sum.inl ∧ is.length = r.length
  | [], _, _ => ⟨[], rfl, rfl⟩
  | kv :: r, n, h => by
    obtain ⟨is, e, l⟩ := KeysN.ints (r := r) (n := n) fun q hq => h q (List.mem_cons_of_mem _ hq)
    obtain ⟨x, _, ex⟩ := h kv List.mem_cons_self
    exact ⟨(x : Int) :: is, by rw [List.map_cons, List.map_cons, e, ex]; rfl, by rw [List.length_cons, List.length_cons, l]⟩
end
end Em

namespace Em
open PySem PySem.Spec PyProof.Rows L2 Qt

theorem pi_listK {X : Cx} {K : PySem.W.Frag} {tg l : Expr} {tl : TE} (h : X.K = K) (hl : PE X l tl) : PI X tg l (iList K tl) := h ▸ pi_list hl
def LR (N : Net) (ks : Kds) (f g : Nat) : Prop := ∃ t x, LostAt N ks t x f g
section
variable {N : Net} {ks : Kds} {R : List C4}
end
/-- flame by flame who is lost to it, rising -/
structure RbD (N : Net) (ks : Kds) (B : List (List Nat)) : Prop where
  len : B.length = ks.length
  up : ∀ (g : Nat) L, B[g]? = some L → L.Pairwise (· < ·)
  iff : ∀ (g : Nat) L, B[g]? = some L → ∀ f, f ∈ L ↔ LR N ks f g
def flameR : Em.Row → Nat
  | .lost _ _ f _ => f
  | _ => 0
section
variable {N : Net} {ks : Kds} {t M : Nat}
theorem mt_lost (o : NetOk N) (hk : KdsOk N ks) (x : Nat) : ∃ (g : Nat) (fs : List Nat), (mtW N ks t x).2.filter isLost = fs.map (fun f => Em.Row.lost t x f g) ∧ fs.Nodup := by
  have hn := cm_nd o hk (inv_all o hk t) x
  cases e : leftB N t (stW N ks t) x with
  | some p => exact ⟨p.1, srt (cmW N ks t x), (mt_some (g := p.1) (t0 := p.2) e).2.1, (srt_perm _).nodup_iff.mpr hn⟩
  | none =>
    cases e2 : srt (cmW N ks t x) with
    | nil =>
      have : cmW N ks t x = [] := by
        have := srt_len (cmW N ks t x)
        rw [e2] at this
        exact List.eq_nil_of_length_eq_zero this.symm
      exact ⟨0, [], by rw [mt_nil this]; rfl, List.nodup_nil⟩
    | cons g r => exact ⟨g, r, (mt_none e e2).2.1, by
        have := (srt_perm (cmW N ks t x)).nodup_iff.mpr hn
        rw [e2] at this
        exact (List.nodup_cons.mp this).2⟩
theorem row_lost (o : NetOk N) (hk : KdsOk N ks) {r : Em.Row} (h : r ∈ (rowsW N ks t).filter isLost) : ∃ x f g, r = .lost t x f g ∧ LostAt N ks t x f g := by
  have h0 := (List.mem_filter.mp h).1
  rw [filt_lost o hk] at h
  obtain ⟨l, hl, hr⟩ := List.mem_flatten.mp h
  obtain ⟨x, _, rfl⟩ := List.mem_map.mp hl
  obtain ⟨g, fs, e, _⟩ := mt_lost (t := t) o hk x
  rw [e] at hr
  obtain ⟨f, _, rfl⟩ := List.mem_map.mp hr
  exact ⟨x, f, g, rfl, h0⟩
theorem all_lost (o : NetOk N) (hk : KdsOk N ks) {r : Em.Row} (h : r ∈ (allW N ks M).filter isLost) : ∃ t x f g, t < M ∧ r = .lost t x f g ∧ LostAt N ks t x f g := by
  obtain ⟨h1, h2⟩ := List.mem_filter.mp h
  obtain ⟨t, ht, h3⟩ := allW_mem.mp h1
  obtain ⟨x, f, g, e, h4⟩ := row_lost o hk (List.mem_filter.mpr ⟨h3, h2⟩)
  exact ⟨t, x, f, g, ht, e, h4⟩
theorem lost_pw (o : NetOk N) (hk : KdsOk N ks) : ∀ M, ((allW N ks M).filter isLost).Pairwise fun r r' => flameR r ≠ flameR r'
  | 0 => List.Pairwise.nil
  | M + 1 => by
    rw [allW_succ, List.filter_append]
    refine List.pairwise_append.mpr ⟨lost_pw o hk M, ?_, fun r hr r' hr' => ?_⟩
    · rw [filt_lost o hk, List.pairwise_flatten]
      refine ⟨fun l hl => ?_, ?_⟩
      · obtain ⟨x, _, rfl⟩ := List.mem_map.mp hl
        obtain ⟨g, fs, e, hn⟩ := mt_lost (t := M) o hk x
        rw [e, List.pairwise_map]
        exact hn
      · rw [List.pairwise_map]
        refine sel_up.imp_of_mem fun {x y} hx hy hlt r hr r' hr' e => ?_
        have mem : ∀ {x r}, x ∈ selS N ks M → r ∈ (mtW N ks M x).2.filter isLost → ∃ f g, r = .lost M x f g ∧ LostAt N ks M x f g := fun {x r} hx hr => by
          have hm : r ∈ (rowsW N ks M).filter isLost := by
            rw [filt_lost o hk]
            exact List.mem_flatten.mpr ⟨_, List.mem_map.mpr ⟨x, hx, rfl⟩, hr⟩
          obtain ⟨g, fs, e, _⟩ := mt_lost (t := M) o hk x
          rw [e] at hr
          obtain ⟨f, _, rfl⟩ := List.mem_map.mp hr
          exact ⟨f, g, rfl, (List.mem_filter.mp hm).1⟩
        obtain ⟨f, g, rfl, h1⟩ := mem hx hr
        obtain ⟨f', g', rfl, h2⟩ := mem hy hr'
        have e : f = f' := e
        subst e
        have := (lost_once o hk h1 h2).2.1
        omega
    · obtain ⟨t, x, f, g, ht, rfl, h1⟩ := all_lost o hk hr
      obtain ⟨x', f', g', rfl, h2⟩ := row_lost o hk hr'
      intro e
      have e : f = f' := e
      subst e
      have := (lost_once o hk h1 h2).1
      omega
end
/-- one more list, filled -/
theorem Bag.push {H : Hp} {c : Addr} {ps : List Addr} {css : List (List Nat)} (b : Bag H c ps css) {p : Addr} {g : List Nat} (hp : H p = some (.lst (natV g))) (n : p ∉ c :: ps) : Bag (upd H c (.lst (ps.map V.ref ++ [.ref p]))) c (ps ++ [p]) (css ++ [g]) := by
  have hcp : p ≠ c := fun e => n (by rw [e]; simp)
  refine ⟨by rw [upd_same, List.map_append]; rfl, ?_, by rw [List.length_append, List.length_append, b.len]; rfl, fun i q u hq hu => ?_⟩
  · have h1 := b.nd
    have : (c :: (ps ++ [p])) = (c :: ps) ++ [p] := rfl
    rw [this, List.nodup_append]
    exact ⟨h1, List.nodup_cons.mpr ⟨by simp, List.nodup_nil⟩, fun x hx y hy e => n (by rw [List.mem_singleton.mp hy] at e; rw [← e]; exact hx)⟩
  · by_cases hi : i < ps.length
    · rw [List.getElem?_append_left hi] at hq
      rw [List.getElem?_append_left (by rw [← b.len]; exact hi)] at hu
      have : q ≠ c := fun e => (List.nodup_cons.mp b.nd).1 (e ▸ List.mem_of_getElem? hq)
      rw [upd_ne this]
      exact b.at_ i q u hq hu
    · rw [List.getElem?_append_right (by omega)] at hq
      rw [List.getElem?_append_right (by rw [← b.len]; omega)] at hu
      have e0 : i - ps.length = 0 := by
        have := (List.getElem?_eq_some_iff.mp hq).1
        simp at this
        omega
      rw [e0] at hq
      rw [← b.len, e0] at hu
      cases Option.some.inj hq
      cases Option.some.inj hu
      rw [upd_ne hcp]
      exact hp
end Em

namespace Em
open PySem PySem.Spec PyProof.Rows L2 Qt

section
variable {B b0 m : Nat}
end
end Em

namespace Em
open PySem PySem.Spec PyProof.Rows L2 Qt

section
variable {α β : Type} {K : PySem.W.Frag} {g : TG} {tt : TT} {te : TE} {vs : List Nat} {σ : L2.St} {H1 : Hp} {D : Addr} {Qd : Hp → Prop}
theorem take_fm_succ {A : List α} {h : α → Option β} {i : Nat} {z : α} (hz : A[i]? = some z) : (A.take (i + 1)).filterMap h = (A.take i).filterMap h ++ (h z).toList := by
  rw [List.take_add_one, hz, List.filterMap_append]
  show _ ++ [z].filterMap h = _
  rw [List.filterMap_cons]
  cases h z <;> rfl
/-- of a list of tuples (or numbers) -/
theorem lcf_list {l : Addr} {xs : List V} (A : List α) (dA : α → PyData) (dB : β → PyData) (h : α → Option β) (hl : H1 l = some (.lst xs)) (hxs : TuA H1 xs (A.map dA)) (nD : H1 D = none) (hA : A.length ≤ 1000000)
    (hs : ∀ (i : Nat) (z : α) (x : V) (H : Hp) (Q : V → Hp → Prop) (R : Hp → Prop), A[i]? = some z → xs[i]? = some x → Tu H x (dA z) → Kp [] H1 H → (∀ w y H4, h z = some w → Kp [] H H4 → Tu H4 y (dB w) → Q y H4) → (∀ H4, h z = none → Kp [] H H4 → R H4) →
      g x (wipe σ vs) H fun σ2 H2 => wipe σ2 vs = wipe σ vs ∧ tt σ2 H2 fun b H3 => if b = true then te σ2 H3 Q else R H3)
    (hd : ∀ ws H, H D = some (.lst ws) → TuA H ws ((A.filterMap h).map dB) → Kp [] H1 H → Qd H) :
    ∃ W : Nat → Nat → Hp → Prop, (∃ m, W 0 m (upd H1 D (.lst []))) ∧ ∀ i m H, W i m H →
      ((Itl K l).stop i H ∧ Qd H) ∨ ((Itl K l).go i H ∧ ∃ Nx : Hp → Prop, (∀ H', Nx H' → ∃ m', m' < m ∧ W (i + 1) m' H') ∧ ∀ x H', (Itl K l).yld i H x H' → g x (wipe σ vs) H' fun σ2 H2 => wipe σ2 vs = wipe σ vs ∧ tt σ2 H2 fun b H3 =>
        if b = true then te σ2 H3 fun y H4 => ∃ acc, H4 D = some (.lst acc) ∧ acc.length < sizeLine ∧ Nx (upd H4 D (.lst (acc ++ [y]))) else Nx H3) := by
  have lx : xs.length = A.length := by rw [hxs.len, List.length_map]
  have sz : 1000000 < sizeLine := by decide
  refine lc_list (xs := xs) (fun i H' => ∃ ws, H' D = some (.lst ws) ∧ TuA H' ws (((A.take i).filterMap h).map dB) ∧ Kp [] H1 H') ⟨[], upd_same, .nil, Kp.new nD⟩ (fun i H' _ hP => ?_) (fun i x H' hx1 hP => ?_) (fun H2 hP => ?_)
  · obtain ⟨_, _, _, k⟩ := hP
    exact SqL.of (k.lst (by simp) hl)
  · obtain ⟨ws, hD, hws, k⟩ := hP
    obtain ⟨d, g1, g2⟩ := (hxs.kt k.kt0).get hx1
    obtain ⟨z, hz, rfl⟩ := mapd_get g1
    refine hs i z x H' _ _ hz hx1 g2 k (fun w y H4 hw k4 hy => ?_) (fun H4 hn k4 => ?_)
    · have hD4 := k4.lst (by simp) hD
      have tput : Kt H4 (upd H4 D (.lst (ws ++ [y]))) := Kt.put hD4 fun _ z => by cases z
      have hwl : ws.length ≤ 1000000 := by
        rw [hws.len, List.length_map]
        refine Nat.le_trans (List.length_filterMap_le _ _) ?_
        rw [List.length_take]
        omega
      refine ⟨ws, hD4, by omega, ws ++ [y], upd_same, ?_, Kp.drop nD ((k.tr k4).of0.tr (Kp.put (by simp) hD4 fun ps z => by cases z))⟩
      rw [take_fm_succ hz, hw, List.map_append]
      exact ((hws.kt k4.kt0).kt tput).app (.cons (hy.kt tput) .nil)
    · refine ⟨ws, k4.lst (by simp) hD, ?_, k.tr k4⟩
      rw [take_fm_succ hz, hn]
      show TuA _ _ ((_ ++ []).map dB)
      rw [List.append_nil]
      exact hws.kt k4.kt0
  · obtain ⟨ws, hD, hws, k⟩ := hP
    rw [lx, List.take_length] at hws
    exact hd ws H2 hD hws k
end
section
variable {N : Net} {ks : Kds} {c d : Nat}
theorem great_lost (o : NetOk N) (hk : KdsOk N ks) (hc : 1 ≤ c) (t' x f g : Nat) : LostAt (tmN N c) (shK d (tmK ks c)) t' x f g ↔ ∃ t, t' = t * c + d ∧ LostAt N ks t x f g := by
  have o' := tmN_ok (N := N) o hc
  have hk' : KdsOk (tmN N c) (tmK ks c) := tmK_ok hk
  have A : Late (tmN N c) [] (tmK ks c) 0 d 0 := ⟨fun p _ => Nat.zero_le _, fun p h => (by cases h), fun h => absurd rfl h, fun h => absurd rfl h⟩
  have ha := la_all o' (E := []) hk' A t' x f g
  have ep : ∀ u, putN 0 d u = u + d := fun u => if_pos (Nat.zero_le _)
  constructor
  · intro h
    obtain ⟨u, e, h⟩ := ha.mp h
    obtain ⟨v, e2, h⟩ := (tm_lost o hk hc u x f g).mp h
    exact ⟨v, by rw [e, ep, e2], h⟩
  · rintro ⟨t, e, h⟩
    exact ha.mpr ⟨t * c, by rw [ep, e], (tm_lost o hk hc _ x f g).mpr ⟨t, rfl, h⟩⟩
def rowC : Em.Row → C4
  | .lost t x f g => ((t : Int), x, f, g)
  | _ => (0, 0, 0, 0)
theorem walk_losses (o : NetOk N) (hk : KdsOk N ks) {M : Nat} (hM : ∀ p ∈ ks, (p.1 : Int) + 2 * totN N < (M : Nat)) {R : List C4} (hs : SrtC R) (hp : R.Perm (((allW N ks M).filter isLost).map rowC)) : Losses N ks R := by
  refine ⟨hs, hp.nodup_iff.mpr ?_, fun z => ?_⟩
  · rw [List.Nodup, List.pairwise_map]
    refine (List.Pairwise.and_mem.mp (lost_pw o hk M)).imp fun {r r'} h e => ?_
    obtain ⟨h1, h2, hne⟩ := h
    obtain ⟨t, x, f, g, _, rfl, _⟩ := all_lost o hk h1
    obtain ⟨t', x', f', g', _, rfl, _⟩ := all_lost o hk h2
    exact hne (congrArg (·.2.2.1) e)
  · rw [hp.mem_iff, List.mem_map]
    constructor
    · rintro ⟨r, hr, rfl⟩
      obtain ⟨t, x, f, g, _, rfl, h⟩ := all_lost o hk hr
      exact ⟨t, rfl, h⟩
    · rintro ⟨t, e, h⟩
      have hlt : t < M := by
        have h1 : ∀ p ∈ ks, (p.1 : Int) ≤ (M : Int) - 1 - 2 * totN N := fun p hp => by have := hM p hp; omega
        have := lost_le o hk h h1
        omega
      refine ⟨.lost t z.2.1 z.2.2.1 z.2.2.2, List.mem_filter.mpr ⟨allW_mem.mpr ⟨t, hlt, h⟩, rfl⟩, ?_⟩
      obtain ⟨z1, z2, z3, z4⟩ := z
      simp only at e
      rw [e]
      rfl
end
theorem cutLo {us : List V} {i : Nat} (h : i ≤ us.length) : cutV us none (some (i : Int)) = us.take i := by
  unfold cutV
  rw [show HT.sIx us.length us.length (some (i : Int)) = min i us.length from HT.sIx_nat _ _ i, HT.sIx_none, Nat.min_eq_left h, Nat.sub_zero, List.drop_zero]
theorem cutHi {us : List V} {i : Nat} (h : i ≤ us.length) : cutV us (some (i : Int)) none = us.drop i := by
  unfold cutV
  rw [show HT.sIx us.length 0 (some (i : Int)) = min i us.length from HT.sIx_nat _ _ i, HT.sIx_none, Nat.min_eq_left h, List.take_of_length_le (by rw [List.length_drop]; exact Nat.le_refl _)]
theorem TuA.takeF {H : Hp} : ∀ (n : Nat) {vs : List V} {ds : List PyData}, TuA H vs ds → TuA H (vs.take n) (ds.take n)
  | 0, _, _, _ => .nil
  | n + 1, _, _, .nil => .nil
  | n + 1, _, _, .cons h t => .cons h (TuA.takeF n t)
theorem TuA.dropF {H : Hp} : ∀ (n : Nat) {vs : List V} {ds : List PyData}, TuA H vs ds → TuA H (vs.drop n) (ds.drop n)
  | 0, _, _, h => h
  | n + 1, _, _, .nil => .nil
  | n + 1, _, _, .cons h t => TuA.dropF n t
end Em

namespace Em
open PySem PySem.Spec PyProof.Rows L2 Qt

theorem srtC_ex (L : List C4) : ∃ S : List C4, S.Perm L ∧ SrtC S := by
  refine ⟨L.mergeSort fun a b => !lexL (c4L b) (c4L a), List.mergeSort_perm _ _, ?_⟩
  have hs := List.pairwise_mergeSort (le := fun a b : C4 => !lexL (c4L b) (c4L a)) (fun a b c h1 h2 => by
    have h1 : lexL (c4L b) (c4L a) = false := by simpa using h1
    have h2 : lexL (c4L c) (c4L b) = false := by simpa using h2
    have := lexL_tr _ _ _ h1 h2
    show (!lexL (c4L c) (c4L a)) = true
    rw [this]; rfl) (fun a b => by
    show ((!lexL (c4L b) (c4L a)) || (!lexL (c4L a) (c4L b))) = true
    cases e : lexL (c4L b) (c4L a) with
    | false => rfl
    | true => rw [lexL_asym _ _ e]; rfl) L
  exact hs.imp fun {a b} z => by simpa using z
theorem beat_ex (N : Net) : ∀ ks : Kds, ∃ M : Nat, ∀ p ∈ ks, (p.1 : Int) + 2 * totN N < (M : Nat)
  | [] => ⟨0, fun p h => by cases h⟩
  | q :: ks => by
    obtain ⟨M, h⟩ := beat_ex N ks
    refine ⟨M + (((q.1 : Int) + 2 * totN N).toNat + 1), fun p hp => ?_⟩
    rcases List.mem_cons.mp hp with rfl | hp
    · omega
    · have := h p hp
      omega
theorem losses_ex {N : Net} {ks : Kds} (o : NetOk N) (hk : KdsOk N ks) : ∃ R, Losses N ks R := by
  obtain ⟨M, hM⟩ := beat_ex N ks
  obtain ⟨S, h1, h2⟩ := srtC_ex (((allW N ks M).filter isLost).map rowC)
  exact ⟨S, walk_losses o hk hM h2 h1⟩
def grF (c d : Nat) : Fate → Fate
  | .lost t x g => .lost (t * c + d) x g
  | .ended t x => .ended (t * c + d) x
  | .goes x t => .goes x (t * c + d)
section
variable {N : Net} {ks : Kds} {c d : Nat}
theorem grF_A (o : NetOk N) (hk : KdsOk N ks) (hc : 1 ≤ c) {p : Nat × Nat} (hx : p.2 < N.length) : fateA (tmN N c) (p.1 * c + d, p.2) = grF c d (fateA N p) := by
  unfold fateA
  show (if wayR (tmN N c) p.2 = [] then _ else _) = _
  rw [tm_wayR, tm_path]
  have e : ∀ j, frst (tmN N c) (((p.1 * c + d : Nat) : Int)) p.2 j = frst N p.1 p.2 j * c + d := fun j => by
    rw [Int.natCast_add, frst_sh (tmN_ok (N := N) o hc), Int.natCast_mul, tm_frst o hx]
  by_cases h : wayR N p.2 = []
  · rw [if_pos h, if_pos h]
    show Fate.ended _ _ = Fate.ended _ _
    rw [e]
  · rw [if_neg h, if_neg h]
    show Fate.goes _ _ = Fate.goes _ _
    unfold frstOf
    rw [tm_path, e]
theorem great_fates (o : NetOk N) (hk : KdsOk N ks) (hc : 1 ≤ c) {R R' : List C4} (hR : Losses N ks R) (hR' : Losses (tmN N c) (shK d (tmK ks c)) R') : fatesR (tmN N c) (shK d (tmK ks c)) R' = (fatesR N ks R).map (grF c d) := by
  have hl := great_lost (c := c) (d := d) o hk hc
  have o' := tmN_ok (N := N) o hc
  have hk' : KdsOk (tmN N c) (shK d (tmK ks c)) := la_kok (E := []) (tmK_ok hk)
  have lk : (shK d (tmK ks c)).length = ks.length := by unfold shK tmK; rw [List.length_map, List.length_map]
  refine List.ext_getElem? fun f => ?_
  rw [List.getElem?_map]
  by_cases hf : f < ks.length
  · have hp := List.getElem?_eq_getElem hf
    have hx := hk _ (List.getElem_mem hf)
    have hp' : (shK d (tmK ks c))[f]? = some (ks[f].1 * c + d, ks[f].2) := by
      unfold shK tmK
      rw [List.getElem?_map, List.getElem?_map, hp]; rfl
    obtain ⟨e1, e2⟩ := fatesR_get o hk hR hp
    obtain ⟨e3, e4⟩ := fatesR_get o' hk' hR' hp'
    by_cases h : ∃ t x g, LostAt N ks t x f g
    · obtain ⟨t, x, g, h⟩ := h
      rw [e1 t x g h, e3 _ x g ((hl _ _ _ _).mpr ⟨t, rfl, h⟩)]
      show some (Fate.lost _ _ _) = some (Fate.lost _ _ _)
      rw [Int.natCast_add, Int.natCast_mul]
    · rw [e2 fun t x g q => h ⟨t, x, g, q⟩, e4 fun t x g q => by
        obtain ⟨u, _, q2⟩ := (hl _ _ _ _).mp q
        exact h ⟨u, x, g, q2⟩]
      show some _ = some _
      rw [← grF_A (d := d) o hk hc hx]
  · rw [List.getElem?_eq_none (by rw [fatesR_len]; omega), List.getElem?_eq_none (by rw [fatesR_len]; omega)]
    rfl
end
structure FndD (H : Hp) (b : Addr) (n : Nat) (G : Nat → Fate) (P : Nat → Prop) (r : List (Key × V)) : Prop where
  at_ : H b = some (.dK r)
  keys : KeysN r n
  yes : ∀ f, f < n → P f → ∃ u, valV r (kN f) = some u ∧ Tu H u (fateD (G f))
  no : ∀ f, f < n → ¬ P f → valV r (kN f) = none
theorem FndD.kp {S : List Addr} {H H' : Hp} {b : Addr} {n : Nat} {G : Nat → Fate} {P : Nat → Prop} {r : List (Key × V)} (h : FndD H b n G P r) (k : Kp S H H') (t : Kt H H') (hb : b ∉ S) : FndD H' b n G P r :=
  ⟨k.at_ b _ hb h.at_ (fun ps z => by cases z), h.keys, fun f hf hP => let ⟨u, a, q⟩ := h.yes f hf hP; ⟨u, a, q.kt t⟩, h.no⟩
theorem FndD.ext {H : Hp} {b : Addr} {n : Nat} {G : Nat → Fate} {P P' : Nat → Prop} {r : List (Key × V)} (h : FndD H b n G P r) (e : ∀ f, f < n → (P f ↔ P' f)) : FndD H b n G P' r :=
  ⟨h.at_, h.keys, fun f hf hP => h.yes f hf ((e f hf).mpr hP), fun f hf hP => h.no f hf fun q => hP ((e f hf).mp q)⟩
theorem FndD.put {H : Hp} {b : Addr} {n : Nat} {G : Nat → Fate} {P : Nat → Prop} {r : List (Key × V)} (h : FndD H b n G P r) {f : Nat} {u : V} (hf : f < n) (hP : ¬ P f) (hu : Tu H u (fateD (G f))) : FndD (upd H b (.dK (putK r (kN f) u))) b n G (fun g => P g ∨ g = f) (putK r (kN f) u) := by
  have t : Kt H (upd H b (.dK (putK r (kN f) u))) := Kt.put h.at_ fun _ z => by cases z
  have hn := h.no f hf hP
  have hv : ∀ g, valV (putK r (kN f) u) (kN g) = if g = f then some u else valV r (kN g) := fun g => by
    rw [valV_put]
    by_cases e : g = f
    · rw [if_pos e, if_pos (by rw [e])]
    · rw [if_neg e, if_neg (fun z => e (kN_inj z))]
  refine ⟨upd_same, h.keys.put hf u hn, fun g hg hPg => ?_, fun g hg hPg => ?_⟩
  · rw [hv]
    by_cases e : g = f
    · rw [if_pos e]
      exact ⟨u, rfl, e ▸ hu.kt t⟩
    · rw [if_neg e]
      obtain ⟨w, a, q⟩ := h.yes g hg (hPg.resolve_right e)
      exact ⟨w, a, q.kt t⟩
  · rw [hv, if_neg fun e => hPg (.inr e)]
    exact h.no g hg fun q => hPg (.inl q)
section
variable {N : Net} {ks : Kds} {M : Nat}
end
end Em

namespace Em
open PySem PySem.Spec PyProof.Rows L2 Qt

section
variable {N : Net} {ks : Kds}
/-- who robs is lost later -/
theorem rob_first (o : NetOk N) (hk : KdsOk N ks) {t t' x x' f g h : Nat} (a : LostAt N ks t x f g) (b : LostAt N ks t' x' h f) : t' < t := by
  obtain ⟨a1, a2, a3⟩ := (lost_sem o hk (inv_all o hk t)).mp a
  obtain ⟨b1, b2, b3⟩ := (lost_sem o hk (inv_all o hk t')).mp b
  -- f is not lost by t'
  have alive : Alive N ks f t' := by
    rcases b3 with ⟨u, s⟩ | ⟨_, b, _⟩
    · exact s.2.2.2
    · exact b.2.1
  rcases Nat.lt_trichotomy t' t with q | q | q
  · exact q
  · exfalso
    subst q
    rcases b3 with ⟨u, s1, s2, s3, s4⟩ | ⟨nh, ⟨c1, c2, c3⟩, ne⟩
    · have := On.burn o hk s1 a1 (a := t') (by omega) s3 (Int.le_refl _) (by have := burn_pos o (On.lt o hk a1); omega)
      omega
    · have hx : x = x' := On.same o hk c1 a1
      subst hx
      rcases a3 with ⟨u, s⟩ | ⟨_, ⟨d1, d2, d3⟩, ne2⟩
      · exact nh ⟨g, u, s⟩
      · have h1 := c3 g d1 d2
        have h2 := d3 f c1 c2
        omega
  · exact absurd a (alive t q x g)
end
/-- the parts of a list but those that are told -/
def keepB {α : Type} (l : List α) (L : Nat → Bool) : List α := (List.range l.length).filterMap fun f => if L f = true then none else l[f]?
section
variable {N : Net} {ks : Kds}
end
section
variable {N : Net} {ks : Kds} {r : Nat}
end
end Em

namespace Em
open PySem PySem.Spec PyProof.Rows L2 Qt

section
variable {N : Net} {ks : Kds} {F : List Nat}
end
section
variable {N : Net} {ks : Kds} {F : List Nat}
end
end Em

namespace Em
open PySem PySem.Spec PyProof.Rows L2 Qt

structure Nm (N N' : Net) (g : Nat → Nat) : Prop where
  len : N'.length = N.length
  lt : ∀ x, x < N.length → g x < N.length
  inj : ∀ x y, x < N.length → y < N.length → g x = g y → x = y
  onto : ∀ y, y < N.length → ∃ x, x < N.length ∧ y = g x
  nx : ∀ x, x < N.length → nxt N' (g x) = (nxt N x).map g
  bu : ∀ x, x < N.length → burnOf N' (g x) = burnOf N x
section
variable {N N' : Net} {ks : Kds} {g : Nat → Nat}
variable (o : NetOk N) (hk : KdsOk N ks) (M : Nm N N' g)
include M
def n4 (g : Nat → Nat) (c : C4) : C4 := (c.1, g c.2.1, c.2.2.1, c.2.2.2)
end
end Em

namespace Em
open PySem PySem.Spec PyProof.Rows L2 Qt

def againS (N : Net) (m : Nat) : Fate → Nat
  | .goes x _ => Nat.lcm m (lapOf N x).toNat
  | .lost _ _ _ => m
  | .ended _ _ => m
def againF (N : Net) (L : List Fate) : Nat := L.foldl (againS N) 1
section
variable {N : Net} {ks : Kds} {c d : Nat}
end
section
variable {N : Net} {ks : Kds} {c d : Nat} {M : Net} {g : Nat → Nat}
end
section
variable {N : Net} {ks : Kds} {c d : Nat} {M : Net} {g : Nat → Nat}
end
theorem again_le {N : Net} {B : Nat} (hB : 1 ≤ B) : ∀ (L : List Fate) (m : Nat), (∀ x t, Fate.goes x t ∈ L → (lapOf N x).toNat ≤ B) → L.foldl (againS N) m ≤ m * B ^ L.length
  | [], m, _ => by simp
  | F :: L, m, h => by
    have h' : ∀ x t, Fate.goes x t ∈ L → (lapOf N x).toNat ≤ B := fun x t q => h x t (List.mem_cons_of_mem _ q)
    have h1 := again_le hB L (againS N m F) h'
    have h2 : againS N m F ≤ m * B := by
      cases F with
      | goes x t => exact Nat.le_trans (show Nat.lcm m (lapOf N x).toNat ≤ m * (lapOf N x).toNat from Nat.div_le_self _ _) (Nat.mul_le_mul_left m (h x t List.mem_cons_self))
      | lost t x g => exact Nat.le_mul_of_pos_right m hB
      | ended t x => exact Nat.le_mul_of_pos_right m hB
    rw [List.foldl_cons, List.length_cons, Nat.pow_succ]
    calc _ ≤ againS N m F * B ^ L.length := h1
      _ ≤ m * B * B ^ L.length := Nat.mul_le_mul_right _ h2
      _ = m * (B ^ L.length * B) := by rw [Nat.mul_assoc, Nat.mul_comm B]
end Em

namespace Em
open PySem PySem.Spec PyProof.Rows L2 Qt

section
variable {prog : Program} {w : World} {A : Around}
theorem maxG_go {R : Result → Shared → Prop} {I S : Addr} {fp wr : List Addr} {n : Nat} {P : Nat → Value → Prop} {St : Nat → Heap → Prop} (W : Walks prog w A.in1 I fp wr n P St) {G : Heap → Prop} {bt : Nat → Nat → Bool} {kw : List (Str × Value)}
    (hg : ∀ h h', G h → Stoods wr S h h' → G h') (hc : CmpGm prog w A.in1 .Gt G P bt) (hs : S ∉ fp) :
    ∀ (m i : Nat) (s : Shared) (best : Value) (ep : Nat), n = i + 1 + m → St (i + 1) s.heap → G s.heap → P (argBest bt i) best → s.heap.get? S = some { cls := .type "list", dict := none, data := .seq #[best, best] ep, slots := #[] } →
      (∀ v h' tk, P (argBest bt (n - 1)) v → Stoods wr S s.heap h' → R (.ok (.ret v)) { s with heap := h', toks := tk }) → codeAny (model prog w) A (.builtin "max.loop" ⟨[.ref I, .none, .ref S], kw⟩) R s := by
  have hw : S ∉ wr := fun z => hs (W.sub _ z)
  have nm : (toString "max" ++ toString ".loop" : String) = "max.loop" := by decide
  intro m
  induction m with
  | zero =>
    intro i s best ep en st g hp hS hR
    refine codeAny_builtin F.entry_max_loop ?_
    rw [Around.under_plainId F.plain_max_loop _]
    show wpAny _ A.in1 (seqItems? (Value.ref S) >>= _) _ _ s
    refine wpAny_bind (wpAny_seqItems hS rfl ?_)
    show wpAny _ A.in1 (tryCatch (pyNext (Value.ref I)) _ >>= _) _ _ s
    have e1 : i + 1 = n := by omega
    refine wpAny_bind (wpAny_tryCatch (W.done s _ _ (e1 ▸ st) fun h1 tk k1 => ?_))
    have hS1 := k1 S _ hw hS
    show wpAny _ A.in1 (updateSeq S (fun _ => #[]) >>= _) _ _ _
    refine wpAny_bind (wpAny_updateSeq hS1 rfl (wpAny_bind (wpAny_letGo (wpAny_pure ?_))))
    have e2 : n - 1 = i := by omega
    exact hR best _ tk (by rw [e2]; exact hp) (Stoods.tr (fun b ob hb _ e => k1 b ob hb e) (stoodS _))
  | succ m ih =>
    intro i s best ep en st g hp hS hR
    refine codeAny_builtin F.entry_max_loop ?_
    rw [Around.under_plainId F.plain_max_loop _]
    show wpAny _ A.in1 (seqItems? (Value.ref S) >>= _) _ _ s
    refine wpAny_bind (wpAny_seqItems hS rfl ?_)
    show wpAny _ A.in1 (tryCatch (pyNext (Value.ref I)) _ >>= _) _ _ s
    refine wpAny_bind (wpAny_tryCatch (W.item (i + 1) s _ _ (by omega) st fun x h1 tk px st1 k1 => ?_))
    have hS1 := k1 S _ hw hS
    have kk : Stoods wr S s.heap h1 := fun b ob hb _ e => k1 b ob hb e
    have g1 := hg _ _ g kk
    show wpAny _ A.in1 (tryCatch (holding [x, x] (richCompare .Gt x best >>= _)) _ >>= _) _ _ _
    refine wpAny_bind (wpAny_tryCatch (wpAny_holding (wpAny_bind (hc (i + 1) (argBest bt i) x best _ _ _ g1 px hp ?_))))
    refine wpAny_bind (wpAny_holding (wpAny_truthy_bool ?_))
    refine wpAny_bind (wpAny_letGo (wpAny_pure ?_))
    cases eb : bt (i + 1) (argBest bt i) with
    | true =>
      have ebest : argBest bt (i + 1) = i + 1 := by
        show (if bt (i + 1) (argBest bt i) = true then _ else _) = _
        rw [if_pos eb]
      rw [if_pos rfl]
      refine wpAny_bind (wpAny_updateSeq hS1 rfl (wpAny_bind (wpAny_letGo ?_)))
      rw [nm]
      have ks : Stoods wr S s.heap _ := Stoods.tr kk (stoodS (h := h1) (fun _ => #[x, x]))
      refine wpAny_pure ⟨plainId_quiet F.plain_max_loop _, ih (i + 1) _ x _ (by omega) (W.frame _ _ _ st1 (bestS (wr := wr) (I := I) hs _)) (hg _ _ g ks) (by rw [ebest]; exact px) (Heap.get?_update_self _ hS1 rfl) fun v h2 tk2 pv k2 => ?_⟩
      exact hR v h2 tk2 pv (ks.tr k2)
    | false =>
      have ebest : argBest bt (i + 1) = argBest bt i := by
        show (if bt (i + 1) (argBest bt i) = true then _ else _) = _
        rw [if_neg (by rw [eb]; exact Bool.false_ne_true)]
      rw [if_neg Bool.false_ne_true]
      refine wpAny_bind (wpAny_letGo ?_)
      rw [nm]
      refine wpAny_pure ⟨plainId_quiet F.plain_max_loop _, ih (i + 1) _ best ep (by omega) st1 g1 (by rw [ebest]; exact hp) hS1 fun v h2 tk2 pv k2 => ?_⟩
      exact hR v h2 tk2 pv (kk.tr k2)
theorem maxG_start {R : Result → Shared → Prop} {I S : Addr} {fp wr : List Addr} {n : Nat} {P : Nat → Value → Prop} {St : Nat → Heap → Prop} (W : Walks prog w A.in1 I fp wr n P St) {G : Heap → Prop} {bt : Nat → Nat → Bool} {d : Value} {s : Shared} {ep : Nat}
    (hg : ∀ h h', G h → Stoods wr S h h' → G h') (hc : CmpGm prog w A.in1 .Gt G P bt) (hs : S ∉ fp) (st : St 0 s.heap) (g : G s.heap) (hS : s.heap.get? S = some { cls := .type "list", dict := none, data := .seq #[] ep, slots := #[] })
    (h0 : n = 0 → ∀ h' tk, Stoods wr S s.heap h' → R (.ok (.ret d)) { s with heap := h', toks := tk })
    (h1 : 0 < n → ∀ v h' tk, P (argBest bt (n - 1)) v → Stoods wr S s.heap h' → R (.ok (.ret v)) { s with heap := h', toks := tk }) : codeAny (model prog w) A (.builtin "max.loop" ⟨[.ref I, .none, .ref S], [("default", d)]⟩) R s := by
  have hw : S ∉ wr := fun z => hs (W.sub _ z)
  have nm : (toString "max" ++ toString ".loop" : String) = "max.loop" := by decide
  refine codeAny_builtin F.entry_max_loop ?_
  rw [Around.under_plainId F.plain_max_loop _]
  show wpAny _ A.in1 (seqItems? (Value.ref S) >>= _) _ _ s
  refine wpAny_bind (wpAny_seqItems hS rfl ?_)
  show wpAny _ A.in1 (tryCatch (pyNext (Value.ref I)) _ >>= _) _ _ s
  cases n with
  | zero =>
    refine wpAny_bind (wpAny_tryCatch (W.done s _ _ st fun h' tk k => ?_))
    show wpAny _ A.in1 (rule _ >>= _) _ _ _
    refine wpAny_bind (wpAny_rule (wpAny_pure ?_))
    exact h0 rfl h' tk fun b ob hb _ e => k b ob hb e
  | succ n =>
    refine wpAny_bind (wpAny_tryCatch (W.item 0 s _ _ (Nat.zero_lt_succ _) st fun x h' tk px st1 k1 => ?_))
    have hS1 := k1 S _ hw hS
    have kk : Stoods wr S s.heap h' := fun b ob hb _ e => k1 b ob hb e
    have ks : Stoods wr S s.heap _ := Stoods.tr kk (stoodS (h := h') (fun _ => #[x, x]))
    show wpAny _ A.in1 (updateSeq S (fun _ => #[x, x]) >>= _) _ _ _
    refine wpAny_bind (wpAny_updateSeq hS1 rfl ?_)
    rw [nm]
    refine wpAny_pure ⟨plainId_quiet F.plain_max_loop _, maxG_go W hg hc hs n 0 _ x _ (by omega) (W.frame _ _ _ st1 (bestS (wr := wr) (I := I) hs _)) (hg _ _ g ks) px (Heap.get?_update_self _ hS1 rfl) fun v h2 tk2 pv k2 => ?_⟩
    exact h1 (Nat.zero_lt_succ _) v h2 tk2 pv (ks.tr k2)
theorem argsMaxD (a d : Value) : argsOk "max" ⟨[a], [("default", d)]⟩ := by unfold argsOk; kernel_rfl
theorem maxD_call {E : Value → Shared → Prop} {s : Shared} {x d : Value} {Q : Value → Shared → Prop}
    (h : wpAny (model prog w) A.in1 (pyIter x) (fun it s2 => ∃ I fp wr n P St bt G, it = .ref I ∧ Walks prog w A.in1 I fp wr n P St ∧ St 0 s2.heap ∧ (∀ b ∈ fp, b < s2.heap.objs.size) ∧ (∀ S, s2.heap.objs.size ≤ S → ∀ h h', G h → Stoods wr S h h' → G h') ∧ G (s2.heap.push { cls := .type "list", dict := none, data := .seq #[] 0, slots := #[] }) ∧ CmpGm prog w A.in1 .Gt G P bt ∧
      (n = 0 → ∀ h' tk, (∀ b o, b ∉ wr → s2.heap.get? b = some o → h'.get? b = some o) → Q d { s2 with heap := h', toks := tk }) ∧
      (0 < n → ∀ v h' tk, P (argBest bt (n - 1)) v → (∀ b o, b ∉ wr → s2.heap.get? b = some o → h'.get? b = some o) → Q v { s2 with heap := h', toks := tk })) E s) :
    wpAny (model prog w) A (call (.builtin "max") [x] [("default", d)]) Q E s := by
  have nm : (toString "max" ++ toString ".loop" : String) = "max.loop" := by decide
  have body : wpAny (model prog w) A.in1 (Builtin.«max» ⟨[x], [("default", d)]⟩) (fun fin s' => match fin with
      | .done f => (match (Except.ok f : Result) with | .ok (.ret v) => Q v s' | .ok _ => False | .error e => E e s')
      | .again c => c.quiet = true ∧ codeAny (model prog w) A c (fun r s2 => match r with | .ok (.ret v) => Q v s2 | .ok _ => False | .error e => E e s2) s') E s := by
    show wpAny _ A.in1 (Builtin.Builtins.bindParams "max" ["key", "default"] 0 ⟨[], [("default", d)]⟩ >>= _) _ _ s
    refine wpAny_bind (wpAny_of_eq (show Builtin.Builtins.bindParams "max" ["key", "default"] 0 ⟨[], [("default", d)]⟩ = pure [none, some d] from rfl) ?_)
    refine wpAny_bind (wpAny_pure (wpAny_bind (wpAny_mono h (fun it s2 hh => ?_) fun _ _ e => e)))
    obtain ⟨I, fp, wr, n, P, St, bt, G, rfl, W, st, hfp, hg, g, hc, q0, q1⟩ := hh
    refine wpAny_bind (wpAny_newObj_type ?_)
    have hs : s2.heap.objs.size ∉ fp := fun z => Nat.lt_irrefl _ (hfp _ z)
    rw [nm]
    have old : ∀ h' : Heap, Stoods wr s2.heap.objs.size (s2.heap.push { cls := .type "list", dict := none, data := .seq #[] 0, slots := #[] }) h' → ∀ b o, b ∉ wr → s2.heap.get? b = some o → h'.get? b = some o := fun h' k b o hb e =>
      k b o hb (Nat.ne_of_lt (Heap.lt_size e)) (Heap.get?_push_of_some _ e)
    exact wpAny_pure ⟨plainId_quiet F.plain_max_loop _, maxG_start W (hg _ (Nat.le_refl _)) hc hs (W.frame _ _ _ st fun b _ o e => Heap.get?_push_of_some _ e) g (Heap.get?_push_size _ rfl) (fun z h' tk k => q0 z h' tk (old h' k)) fun z v h' tk pv k => q1 z v h' tk pv (old h' k)⟩
  refine wpAny_call (codeAny_call_builtin F.plain_max F.entry_max ?_)
  simp only [checkBuiltinCall, F.kind_max]
  cases hsig : Manifest.signature? "max" with
  | none => exact wpAny_pure body
  | some sig =>
    have ha : Bind.checkArgs "max" sig ⟨[x], [("default", d)]⟩ = pure () := by
      have := argsMaxD x d
      simpa only [argsOk, hsig] using this
    simp only [ha]
    exact wpAny_pure body
end
def rMaxI (K : PySem.W.Frag) : List V → List V → Hp → VK → Prop := fun vs zs H Q => ∃ (a : Addr) (ns : List Int) (d : V), vs = [V.ref a] ∧ zs = [d] ∧ SqL K H a (ns.map V.int) ∧ (ns = [] → Q d H) ∧ ∀ m ∈ ns, (∀ y ∈ ns, y ≤ m) → Q (.int m) H
theorem cr_maxI {X : Cx} (hcalm : X.calm = true) : CallRK X (.builtin "max") [Str.ofString "default"] (rMaxI X.K) := by
  intro pins s σ H vs zs us ws Q I r rz h
  obtain ⟨a, ns, d, rfl, rfl, hs, q0, q1⟩ := h
  obtain rfl := Vals.ref1 r
  obtain ⟨w1, rfl, e1⟩ := vals1 rz
  obtain ⟨its, rv, hl, hz⟩ := I.list hs
  have hlen : its.length = ns.length := by rw [← rv.length, List.length_map]
  have at_ : ∀ i v, its[i]? = some v → ∃ t, i < ns.length ∧ v = .int (ns.getD i 0) t := fun i v hv => by
    have hi := (List.getElem?_eq_some_iff.mp hv).1
    have hn : (ns.map V.int)[i]? = some (.int (ns.getD i 0)) := by
      rw [List.getElem?_map, List.getElem?_eq_getElem (by omega), List.getD_eq_getElem?_getD, List.getElem?_eq_getElem (by omega)]; rfl
    obtain ⟨u, hu, ru⟩ := rv.get hn
    rw [hv] at hu
    cases hu
    obtain ⟨t, rfl⟩ := ru
    exact ⟨t, by omega, rfl⟩
  have hlt : a < s.heap.objs.size := by
    obtain ⟨_, e, _⟩ := hl.isList
    exact Heap.lt_size e
  show wpAny _ _ (call (.builtin "max") [Value.ref a] [("default", w1)]) _ _ _
  refine maxD_call ?_
  refine wpAny_pyIter_list hl.isList ?_
  have hW := Walks.list (prog := X.prog) (w := X.w) (A := X.A.in1) (I.ok.hd hcalm) s.heap.objs.size a (Nat.ne_of_lt hlt) its.toArray
  refine ⟨_, [_, a], [_], _, _, _, fun i j => lexL [-(ns.getD i 0)] [-(ns.getD j 0)], fun _ => True, rfl, hW, ⟨⟨_, Heap.get?_push_size _ rfl, rfl, rfl⟩, hl.isList.push _⟩, fun c hc => ?_, fun _ _ _ _ _ _ => trivial, trivial, fun i j x y s2 Q2 E2 g hi hj q => ?_, fun z h' tk kk => ?_, fun z v h' tk pv kk => ?_⟩
  · show c < (s.heap.push _).objs.size
    rw [Heap.size_push]
    rcases List.mem_cons.mp hc with rfl | hc
    · exact Nat.lt_succ_self _
    · rw [List.mem_singleton.mp hc]
      exact Nat.lt_succ_of_lt hlt
  · have hi' : its[i]? = some x := by simpa using hi
    have hj' : its[j]? = some y := by simpa using hj
    obtain ⟨tx, _, rfl⟩ := at_ i x hi'
    obtain ⟨ty, _, rfl⟩ := at_ j y hj'
    refine (PyProof.Rows.gt_int ?_ : wpAny _ _ (compareOp .Gt (Value.int _ tx) (Value.int _ ty)) _ _ _)
    have e : lexL [-(ns.getD i 0)] [-(ns.getD j 0)] = decide (ns.getD i 0 > ns.getD j 0) := by
      rw [lexL_cons]
      by_cases e : -(ns.getD i 0) = -(ns.getD j 0)
      · rw [if_pos e, decide_eq_false (by omega)]; rfl
      · rw [if_neg e]
        exact decide_eq_decide.mpr (by omega)
    rw [← e]
    exact q
  · have kk' : ∀ b o, s.heap.get? b = some o → h'.get? b = some o := fun b o e => kk b o (fun z => absurd (List.mem_singleton.mp z ▸ Heap.lt_size e) (Nat.lt_irrefl _)) (Heap.get?_push_of_some _ e)
    have z2 : its.length = 0 := by simpa using z
    have hx0 : ns = [] := List.length_eq_zero_iff.mp (by omega)
    exact ⟨d, H, I.kept kk', e1, q0 hx0⟩
  · have kk' : ∀ b o, s.heap.get? b = some o → h'.get? b = some o := fun b o e => kk b o (fun z => absurd (List.mem_singleton.mp z ▸ Heap.lt_size e) (Nat.lt_irrefl _)) (Heap.get?_push_of_some _ e)
    have z2 : 0 < its.length := by simpa using z
    obtain ⟨b1, b2⟩ := best_least (bt := fun i j => lexL [-(ns.getD i 0)] [-(ns.getD j 0)]) (key := fun i => [-(ns.getD i 0)]) (fun _ _ => rfl) (its.length - 1)
    obtain ⟨bi, ebi⟩ : ∃ bi, bi = argBest (fun i j => lexL [-(ns.getD i 0)] [-(ns.getD j 0)]) (its.length - 1) := ⟨_, rfl⟩
    have esz : its.toArray.size - 1 = its.length - 1 := by rw [List.size_toArray]
    rw [esz, ← ebi] at pv
    rw [← ebi] at b1 b2
    have pv' : its[bi]? = some v := by simpa using pv
    obtain ⟨tv, hbi, rfl⟩ := at_ bi v pv'
    have hm : ns.getD bi 0 ∈ ns := by
      rw [List.getD_eq_getElem?_getD, List.getElem?_eq_getElem hbi]
      exact List.getElem_mem hbi
    refine ⟨.int (ns.getD bi 0), H, I.kept kk', ⟨tv, rfl⟩, q1 _ hm fun y hy => ?_⟩
    obtain ⟨j, hj, rfl⟩ := List.getElem_of_mem hy
    have := b2 j (by omega)
    rw [lexL_cons] at this
    have ej : ns.getD j 0 = ns[j] := by rw [List.getD_eq_getElem?_getD, List.getElem?_eq_getElem hj]; rfl
    rw [ej] at this
    by_cases e : -ns[j] = -(ns.getD bi 0)
    · omega
    · rw [if_neg e] at this
      have := of_decide_eq_false this
      omega
/-- math.lcm of two numbers -/
def rLcm : List V → Hp → VK → Prop := fun vs H Q => ∃ a b : Nat, vs = [.int a, .int b] ∧ a < 2 ^ 13000 ∧ b < 2 ^ 13000 ∧ Q (.int ((Nat.lcm a b : Nat) : Int)) H
theorem lcm_le_mul (m n : Nat) : m.lcm n ≤ m * n := by
  unfold Nat.lcm
  exact Nat.div_le_self _ _
theorem cr_lcm {X : Cx} : CallR X (.builtin "math.lcm") rLcm := by
  intro pins s σ H vs us Q I r h
  obtain ⟨a, b, rfl, ha, hb, q⟩ := h
  obtain ⟨t, u, rfl⟩ := Vals.int2 r
  have e1 : Nat.lcm 1 a = a := by simp [Nat.lcm]
  have p6 : (1 : Nat) < 2 ^ 13000 := by decide
  have h1 : (max 1 (a : Int).natAbs).log2 ≤ 12999 := PySem.W.mg_log (k := 12999) (by show max 1 (a : Int).natAbs < 2 ^ 13000; rw [Int.natAbs_natCast]; exact Nat.max_lt.mpr ⟨p6, ha⟩)
  have h2 : (max (a : Int).natAbs (b : Int).natAbs).log2 ≤ 12999 := PySem.W.mg_log (k := 12999) (by show max (a : Int).natAbs (b : Int).natAbs < 2 ^ 13000; rw [Int.natAbs_natCast, Int.natAbs_natCast]; exact Nat.max_lt.mpr ⟨ha, hb⟩)
  have ez : (((Nat.lcm 1 (a : Int).natAbs).lcm (b : Int).natAbs : Nat) : Int) = ((Nat.lcm a b : Nat) : Int) := by rw [Int.natAbs_natCast, Int.natAbs_natCast, e1]
  have h3 : ((((Nat.lcm 1 (a : Int).natAbs).lcm (b : Int).natAbs : Nat) : Int)).natAbs.log2 < bitsLine := by
    rw [ez, Int.natAbs_natCast]
    have h4 : a.lcm b < 2 ^ (25999 + 1) := by
      have : a * b < 2 ^ 13000 * 2 ^ 13000 := Nat.mul_lt_mul'' ha hb
      have e2 : (2 : Nat) ^ 13000 * 2 ^ 13000 = 2 ^ 26000 := by rw [← Nat.pow_add]
      have := lcm_le_mul a b
      show a.lcm b < 2 ^ 26000
      omega
    exact Nat.lt_of_le_of_lt (PySem.W.mg_log (k := 25999) h4) (by decide)
  have g := PySem.W.mg_run_lcm (a : Int) t (b : Int) u (by omega) (by omega) h3
  rw [ez] at g
  exact call_function_meets PySem.W.MGF.kind_lcm PySem.W.MGF.plain_lcm PySem.W.MGF.entry_lcm (PySem.W.MGF.args_lcm _ _) g.meets ⟨.int _, H, I.tok _, ⟨_, rfl⟩, q⟩
end Em

namespace Em
open PySem PySem.Spec PyProof.Rows L2 Qt
section
variable {N : Net} {ks : Kds}
end
section
variable {β : Type} {K : PySem.W.Frag} {g : TG} {tt : TT} {te : TE} {vs : List Nat} {σ : L2.St} {H1 : Hp} {D : Addr} {Qd : Hp → Prop}
end
theorem sumB_most {N : Net} {g : List Nat} {c : Int} (h : ∀ y ∈ g, burnOf N y ≤ c) : sumB N g ≤ g.length * c := by
  induction g with
  | nil => show (0 : Int) ≤ ((0 : Nat) : Int) * _; rw [Int.natCast_zero, Int.zero_mul]; exact Int.le_refl _
  | cons y r ih =>
    have h1 := ih fun z hz => h z (List.mem_cons_of_mem _ hz)
    have h2 := h y List.mem_cons_self
    rw [sumB_cons, List.length_cons, Int.natCast_add, Int.add_mul]
    show _ ≤ _ + ((1 : Nat) : Int) * _
    rw [Int.natCast_one, Int.one_mul]
    omega
theorem TuA.erase {H : Hp} {vs : List V} {ds : List PyData} (h : TuA H vs ds) (k : Nat) : TuA H (vs.eraseIdx k) (ds.eraseIdx k) := by
  rw [List.eraseIdx_eq_take_drop_succ, List.eraseIdx_eq_take_drop_succ]
  exact (h.takeF k).app (h.dropF (k + 1))
end Em

namespace Em
open PySem PySem.Spec PyProof.Rows L2 Qt

theorem cut_lt {N : Net} {x : Nat} (h : wayR N x ≠ []) : cutN N x < (path N x).length := by
  rcases Nat.lt_or_ge (cutN N x) (path N x).length with q | q
  · exact q
  · exact absurd (List.drop_eq_nil_of_le q) h
theorem cut_ge {N : Net} {x : Nat} (h : wayR N x = []) : (path N x).length ≤ cutN N x := List.drop_eq_nil_iff.mp h
theorem lap_pos {N : Net} (o : NetOk N) {x : Nat} (hx : x < N.length) (h : wayR N x ≠ []) : 0 < lapOf N x := by
  have h1 := cut_lt h
  have h2 := lap_frst o hx 0
  have h3 := frst_gap o hx 0 (List.getElem?_eq_getElem h1) h1
  have h4 := burn_pos o ((path_been o hx).lt _ (List.getElem_mem h1))
  omega
theorem on_at {N : Net} (o : NetOk N) {x : Nat} (hx : x < N.length) (b : Int) : ∀ (n : Nat), (wayR N x ≠ [] ∨ b + n < frst N b x (path N x).length) → ∃ z g, 0 ≤ g ∧ g < burnOf N z ∧ OnWay N b x (b + n - g) z
  | 0, _ => ⟨x, 0, Int.le_refl _, by have := burn_pos o hx; omega, by rw [show b + ((0 : Nat) : Int) - 0 = b by omega]; exact onWay_start b x⟩
  | n + 1, h => by
    obtain ⟨z, g, h0, h1, h2⟩ := on_at o hx b n (h.imp id fun q => by omega)
    have hz := onWay_lt o hx h2
    by_cases e : g + 1 < burnOf N z
    · exact ⟨z, g + 1, by omega, e, by rw [show b + ((n + 1 : Nat) : Int) - (g + 1) = b + n - g by omega]; exact h2⟩
    · have eg : b + ((n : Nat) : Int) - g + burnOf N z = b + ((n + 1 : Nat) : Int) := by omega
      rcases onWay_next o hx h2 with ⟨_, q1, q2⟩ | ⟨y, _, q⟩
      · rcases h with h | h
        · exact absurd q1 h
        · omega
      · exact ⟨y, 0, Int.le_refl _, by have := burn_pos o (onWay_lt o hx q); omega, by rw [show b + ((n + 1 : Nat) : Int) - 0 = b + n - g + burnOf N z by omega]; exact q⟩
/-- once it is on its ring -/
theorem ring_j {N : Net} (o : NetOk N) {x z : Nat} (hx : x < N.length) (hR : wayR N x ≠ []) {b t a : Int} {k : Nat} (h : OnWay N b x (t - a) z) (h0 : 0 ≤ a) (h1 : a < burnOf N z) (ht : frst N b x (cutN N x) + k * lapOf N x ≤ t) :
    ∃ (j : Nat) (u : Int), (path N x)[j]? = some z ∧ cutN N x ≤ j ∧ t - a = frst N b x j + u * lapOf N x ∧ (k : Int) ≤ u := by
  have hc := cut_lt hR
  have hp := lap_pos o hx hR
  have hr : OnWay N b x (frst N b x (cutN N x) + k * lapOf N x) (path N x)[cutN N x] := ⟨cutN N x, k, List.getElem?_eq_getElem hc, rfl, by omega, .inr (Nat.le_refl _)⟩
  have hge : frst N b x (cutN N x) + k * lapOf N x ≤ t - a := by
    rcases Int.lt_or_le (t - a) (frst N b x (cutN N x) + k * lapOf N x) with q | q
    · have := (onWay_uniq o hx h hr (by omega) (by omega)).1
      omega
    · exact q
  obtain ⟨j, u, hj, e, hu, hcj⟩ := h
  have hk0 : 0 ≤ (k : Int) * lapOf N x := Int.mul_nonneg (by omega) (by omega)
  have hcj : cutN N x ≤ j := by
    rcases Nat.lt_or_ge j (cutN N x) with q | q
    · have hu0 : u = 0 := by omega
      rw [hu0, Int.zero_mul, Int.add_zero] at e
      have h3 := frst_gap o hx b hj q
      have h4 := burn_pos o ((path_been o hx).lt z (List.mem_of_getElem? hj))
      omega
    · exact q
  refine ⟨j, u, hj, hcj, e, ?_⟩
  have hjl := (List.getElem?_eq_some_iff.mp hj).1
  have h3 := frst_gap o hx b hj hjl
  have h4 := burn_pos o ((path_been o hx).lt z (List.mem_of_getElem? hj))
  have h5 := lap_frst o hx b
  rcases Int.lt_or_le u k with q | q
  · have : u * lapOf N x ≤ (k - 1) * lapOf N x := Int.mul_le_mul_of_nonneg_right (by omega) (by omega)
    rw [Int.sub_mul, Int.one_mul] at this
    omega
  · exact q
theorem ring_per {N : Net} (o : NetOk N) {x z : Nat} (hx : x < N.length) (hR : wayR N x ≠ []) {b t a : Int} {k : Nat} (h0 : 0 ≤ a) (h1 : a < burnOf N z) (ht : frst N b x (cutN N x) ≤ t) : OnWay N b x (t - a) z ↔ OnWay N b x (t + k * lapOf N x - a) z := by
  constructor
  · intro h
    obtain ⟨j, u, a1, a2, a3, a4⟩ := ring_j o hx hR (k := 0) h h0 h1 (by rw [Int.natCast_zero, Int.zero_mul]; omega)
    exact ⟨j, u + k, a1, by rw [Int.add_mul]; omega, by omega, .inr a2⟩
  · intro h
    obtain ⟨j, u, a1, a2, a3, a4⟩ := ring_j o hx hR (k := k) h h0 h1 (by omega)
    exact ⟨j, u - k, a1, by rw [Int.sub_mul]; omega, by omega, .inr a2⟩
theorem ring_lap {N : Net} (o : NetOk N) {x z : Nat} (hx : x < N.length) (hR : wayR N x ≠ []) {b t a : Int} {m : Nat} (h0 : 0 ≤ a) (h1 : a < burnOf N z) (ht : frst N b x (cutN N x) ≤ t) (h : OnWay N b x (t - a) z) (h' : OnWay N b x (t + m - a) z) : lapOf N x ∣ (m : Int) := by
  obtain ⟨j, u, a1, a2, a3, _⟩ := ring_j o hx hR (k := 0) h h0 h1 (by rw [Int.natCast_zero, Int.zero_mul]; omega)
  obtain ⟨j', u', c1, c2, c3, _⟩ := ring_j o hx hR (k := 0) h' h0 h1 (by rw [Int.natCast_zero, Int.zero_mul]; omega)
  obtain rfl := nodup_get (path_been o hx).nd a1 c1
  refine ⟨u' - u, ?_⟩
  rw [Int.mul_comm, Int.sub_mul]
  omega
/-- the lamp from which it comes to its ring -/
theorem ahead_at {N : Net} (o : NetOk N) {x : Nat} (hx : x < N.length) {b : Int} {i z : Nat} (hi : cutN N x = i + 1) (hz : (path N x)[i]? = some z) : OnWay N b x (frst N b x (cutN N x) - burnOf N z) z := by
  refine ⟨i, 0, hz, ?_, by omega, .inl rfl⟩
  rw [Int.zero_mul, hi]
  have : frst N b x (i + 1) = frst N b x i + burnOf N z := by
    unfold frst
    rw [take_succ_sum N hz]; omega
  omega
theorem ahead_off {N : Net} (o : NetOk N) {x : Nat} (hx : x < N.length) (hR : wayR N x ≠ []) {b t a : Int} {i z : Nat} (hi : i < cutN N x) (hz : (path N x)[i]? = some z) (h0 : 0 ≤ a) (h1 : a < burnOf N z) (ht : frst N b x (cutN N x) ≤ t) : ¬ OnWay N b x (t - a) z := fun h => by
  obtain ⟨j, u, a1, a2, _⟩ := ring_j o hx hR (k := 0) h h0 h1 (by rw [Int.natCast_zero, Int.zero_mul]; omega)
  have := nodup_get (path_been o hx).nd a1 hz
  omega
/-- one that ends -/
theorem ends_off {N : Net} (o : NetOk N) {x z : Nat} (hx : x < N.length) (hR : wayR N x = []) {b t a : Int} (h0 : 0 ≤ a) (h1 : a < burnOf N z) (ht : frst N b x (path N x).length ≤ t) : ¬ OnWay N b x (t - a) z := fun ⟨j, u, hj, e, hu, hc⟩ => by
  have h2 := cut_ge hR
  have hjl := (List.getElem?_eq_some_iff.mp hj).1
  have hu0 : u = 0 := by omega
  rw [hu0, Int.zero_mul, Int.add_zero] at e
  have h3 := frst_gap o hx b hj hjl
  omega

section
variable {N : Net} {ks : Kds}
def Brn (N : Net) (ks : Kds) (t f x : Nat) (a : Int) : Prop := 0 ≤ a ∧ a < burnOf N x ∧ On N ks f (t - a) x ∧ Alive N ks f (t + 1)
def cellT (N : Net) (ks : Kds) (t x : Nat) : Option (Nat × Int) := ((stW N ks (t + 1)).getD x none).map fun p => (p.1, (t : Int) - (p.2 : Nat))
theorem cell_iff (o : NetOk N) (hk : KdsOk N ks) {t x f : Nat} {a : Int} : cellT N ks t x = some (f, a) ↔ Brn N ks t f x a := by
  unfold cellT
  constructor
  · intro h
    cases e : (stW N ks (t + 1)).getD x none with
    | none => rw [e] at h; cases h
    | some p =>
      rw [e] at h
      obtain ⟨rfl, rfl⟩ : p.1 = f ∧ (t : Int) - (p.2 : Nat) = a := by
        have := Option.some.inj h
        exact ⟨congrArg Prod.fst this, congrArg Prod.snd this⟩
      obtain ⟨a1, a2, a3, a4⟩ := (brn_iff o hk).mp (show _ = some (p.1, p.2) from e)
      exact ⟨by omega, by omega, by rw [show (t : Int) - ((t : Int) - (p.2 : Nat)) = (p.2 : Nat) by omega]; exact a3, a4⟩
  · rintro ⟨h0, h1, h2, h3⟩
    have hn := h2.nonneg o hk
    obtain ⟨n, hn⟩ := Int.eq_ofNat_of_zero_le hn
    rw [hn] at h2
    rw [(brn_iff o hk).mpr ⟨by omega, by omega, h2, h3⟩]
    show some (f, (t : Int) - (n : Nat)) = _
    rw [show (t : Int) - (n : Nat) = a by omega]
def SameT (N : Net) (ks : Kds) (t u : Nat) : Prop := ∀ x, cellT N ks t x = cellT N ks u x
theorem same_iff (o : NetOk N) (hk : KdsOk N ks) {t u : Nat} : SameT N ks t u ↔ ∀ f x a, Brn N ks t f x a ↔ Brn N ks u f x a := by
  constructor
  · intro h f x a
    rw [← cell_iff o hk, ← cell_iff o hk, h x]
  · intro h x
    cases e : cellT N ks t x with
    | some p => exact ((cell_iff o hk).mpr ((h p.1 x p.2).mp ((cell_iff o hk).mp e))).symm
    | none =>
      cases e2 : cellT N ks u x with
      | none => rfl
      | some p =>
        rw [(cell_iff o hk).mpr ((h p.1 x p.2).mpr ((cell_iff o hk).mp e2))] at e
        cases e
theorem on_get {f x : Nat} {p : Nat × Nat} {t : Int} (hp : ks[f]? = some p) : On N ks f t x ↔ OnWay N (p.1 : Nat) p.2 t x := by
  constructor
  · rintro ⟨p', hp', h⟩
    rw [hp] at hp'
    cases hp'
    exact h
  · exact fun h => ⟨p, hp, h⟩
theorem again_dvd {N : Net} {m : Nat} : ∀ (L : List Fate) (k : Nat), k ∣ m → (∀ x t, Fate.goes x t ∈ L → (lapOf N x).toNat ∣ m) → L.foldl (againS N) k ∣ m
  | [], k, hk, _ => hk
  | F :: L, k, hk, h => by
    rw [List.foldl_cons]
    refine again_dvd L _ ?_ fun x t q => h x t (List.mem_cons_of_mem _ q)
    cases F with
    | goes x t => exact Nat.lcm_dvd hk (h x t List.mem_cons_self)
    | lost t x g => exact hk
    | ended t x => exact hk
theorem dvd_again {N : Net} : ∀ (L : List Fate) (k : Nat), k ∣ L.foldl (againS N) k ∧ ∀ x t, Fate.goes x t ∈ L → (lapOf N x).toNat ∣ L.foldl (againS N) k
  | [], k => ⟨Nat.dvd_refl _, fun _ _ h => by cases h⟩
  | F :: L, k => by
    rw [List.foldl_cons]
    obtain ⟨h1, h2⟩ := dvd_again L (againS N k F)
    have hk : k ∣ againS N k F := by
      cases F with
      | goes x t => exact Nat.dvd_lcm_left _ _
      | lost t x g => exact Nat.dvd_refl _
      | ended t x => exact Nat.dvd_refl _
    refine ⟨Nat.dvd_trans hk h1, fun x t h => ?_⟩
    rcases List.mem_cons.mp h with e | e
    · subst e
      exact Nat.dvd_trans (Nat.dvd_lcm_right _ _) h1
    · exact h2 x t e
theorem lap_min (o : NetOk N) {y : Nat} (hy : y < N.length) (hR : wayR N y ≠ []) : minN (wayR N y) < N.length ∧ lapOf N (minN (wayR N y)) = lapOf N y := by
  have hm := (minN_mem hR).1
  have hl := way_sub o hy _ hm
  obtain ⟨⟨k, hk⟩, _⟩ := (wayR_iff o hy).mp hm
  exact ⟨hl, lap_along o hy hl hk⟩
/-- from which beat on what the flame of this fate burns comes again -/
def restR (N : Net) (p : Nat × Nat) : Fate → Int
  | .goes _ _ => p.1 + sumB N (wayA N p.2)
  | .lost t _ _ => if (p.1 : Int) < t then t else 0
  | .ended t _ => if (p.1 : Int) < t then t else 0
theorem rest_nonneg (o : NetOk N) (hk : KdsOk N ks) {R : List C4} (hR : Losses N ks R) {f : Nat} {p : Nat × Nat} (hp : ks[f]? = some p) : 0 ≤ restR N p ((fatesR N ks R).getD f (.ended 0 0)) := by
  have hx := hk p (List.mem_of_getElem? hp)
  cases (fatesR N ks R).getD f (.ended 0 0) with
  | goes x t =>
    have := sumB_nonneg o (g := wayA N p.2) fun y hy => (path_been o hx).lt y (List.mem_of_mem_take hy)
    show 0 ≤ (p.1 : Int) + _
    omega
  | lost t x g =>
    show 0 ≤ (if (p.1 : Int) < t then t else 0)
    split <;> omega
  | ended t x =>
    show 0 ≤ (if (p.1 : Int) < t then t else 0)
    split <;> omega
theorem getD_get {α : Type} {l : List α} {k : Nat} {x d : α} (h : l[k]? = some x) : l.getD k d = x := by
  rw [List.getD_eq_getElem?_getD, h]
  rfl
theorem fate_case (o : NetOk N) (hk : KdsOk N ks) {R : List C4} (hR : Losses N ks R) {f : Nat} {p : Nat × Nat} (hp : ks[f]? = some p) :
    (∃ t x g, LostAt N ks t x f g ∧ (fatesR N ks R).getD f (.ended 0 0) = .lost t x g) ∨ ((∀ t, Alive N ks f t) ∧ wayR N p.2 = [] ∧ (fatesR N ks R).getD f (.ended 0 0) = .ended (frst N p.1 p.2 (path N p.2).length) (lastOf (path N p.2))) ∨
    ((∀ t, Alive N ks f t) ∧ wayR N p.2 ≠ [] ∧ (fatesR N ks R).getD f (.ended 0 0) = .goes (minN (wayR N p.2)) (frstOf N p.1 p.2 (minN (wayR N p.2)))) := by
  obtain ⟨e1, e2⟩ := fatesR_get o hk hR hp
  by_cases q : ∃ t x g, LostAt N ks t x f g
  · obtain ⟨t, x, g, hl⟩ := q
    exact .inl ⟨t, x, g, hl, getD_get (e1 t x g hl)⟩
  · have hn : ∀ t x g, ¬ LostAt N ks t x f g := fun t x g h => q ⟨t, x, g, h⟩
    have e := getD_get (d := Fate.ended 0 0) (e2 hn)
    have ha : ∀ t, Alive N ks f t := fun t t' _ x g => hn t' x g
    unfold fateA at e
    by_cases hw : wayR N p.2 = []
    · rw [if_pos hw] at e
      exact .inr (.inl ⟨ha, hw, e⟩)
    · rw [if_neg hw] at e
      exact .inr (.inr ⟨ha, hw, e⟩)
/-- from then on nothing, or again each lap -/
theorem rest_per (o : NetOk N) (hk : KdsOk N ks) {R : List C4} (hR : Losses N ks R) {f : Nat} {p : Nat × Nat} (hp : ks[f]? = some p) {t L : Nat} (ht : restR N p ((fatesR N ks R).getD f (.ended 0 0)) ≤ t) (hL : againF N (fatesR N ks R) ∣ L) (x : Nat) (a : Int) : Brn N ks t f x a ↔ Brn N ks (t + L) f x a := by
  have hx := hk p (List.mem_of_getElem? hp)
  have off : ∀ u : Nat, (∀ x a, 0 ≤ a → a < burnOf N x → On N ks f (u - a) x → Alive N ks f (u + 1) → False) → ∀ x a, ¬ Brn N ks u f x a := fun u h x a ⟨b0, b1, b2, b3⟩ => h x a b0 b1 b2 b3
  rcases fate_case o hk hR hp with ⟨τ, y, g, hl, e⟩ | ⟨ha, hw, e⟩ | ⟨ha, hw, e⟩
  · rw [e] at ht
    have key : ∀ u : Nat, t ≤ u → ∀ x a, ¬ Brn N ks u f x a := fun u hu => off u fun x a h0 h1 h2 h3 => by
      have h2 := (on_get hp).mp h2
      have hge := onWay_ge o hx h2
      have ht : (if (p.1 : Int) < τ then (τ : Int) else 0) ≤ t := ht
      have hlo := (inv_all o hk (τ + 1)).lo τ y f g (by omega) hl
      have hge2 := onWay_ge o hx ((on_get hp).mp hlo)
      by_cases q : (p.1 : Int) < τ
      · rw [if_pos q] at ht
        exact h3 τ (by omega) y g hl
      · exact h3 τ (by omega) y g hl
    exact ⟨fun h => absurd h (key t (Nat.le_refl _) x a), fun h => absurd h (key (t + L) (by omega) x a)⟩
  · rw [e] at ht
    have hlt : (p.1 : Int) < frst N p.1 p.2 (path N p.2).length := by
      have h0 := (path_been o hx).pos
      have h3 := frst_gap o hx p.1 (List.getElem?_eq_getElem h0) h0
      have h4 := burn_pos o ((path_been o hx).lt _ (List.getElem_mem h0))
      have h5 : frst N p.1 p.2 0 = p.1 := by show (p.1 : Int) + 0 = _; omega
      omega
    have ht : (if (p.1 : Int) < frst N p.1 p.2 (path N p.2).length then frst N p.1 p.2 (path N p.2).length else 0) ≤ t := ht
    rw [if_pos hlt] at ht
    have key : ∀ u : Nat, t ≤ u → ∀ x a, ¬ Brn N ks u f x a := fun u hu => off u fun x a h0 h1 h2 h3 => ends_off o hx hw h0 h1 (by omega) ((on_get hp).mp h2)
    exact ⟨fun h => absurd h (key t (Nat.le_refl _) x a), fun h => absurd h (key (t + L) (by omega) x a)⟩
  · have hm := lap_min o hx hw
    have hd : (lapOf N p.2).toNat ∣ L := by
      have hf : f < (fatesR N ks R).length := by rw [fatesR_len]; exact (List.getElem?_eq_some_iff.mp hp).1
      have := (dvd_again (N := N) (fatesR N ks R) 1).2 _ _ (by rw [← e, List.getD_eq_getElem?_getD, List.getElem?_eq_getElem hf]; exact List.getElem_mem hf)
      rw [hm.2] at this
      exact Nat.dvd_trans this hL
    obtain ⟨k, ek⟩ := hd
    have hp0 := lap_pos o hx hw
    have eL : (L : Int) = k * lapOf N p.2 := by
      rw [ek, Int.natCast_mul, Int.toNat_of_nonneg (by omega), Int.mul_comm]
    rw [e] at ht
    have ht : frst N p.1 p.2 (cutN N p.2) ≤ t := ht
    unfold Brn
    rw [on_get hp, on_get hp]
    constructor
    · rintro ⟨h0, h1, h2, _⟩
      refine ⟨h0, h1, ?_, ha _⟩
      have := (ring_per o hx hw (k := k) h0 h1 ht).mp h2
      rw [Int.natCast_add, eL]
      exact this
    · rintro ⟨h0, h1, h2, _⟩
      refine ⟨h0, h1, ?_, ha _⟩
      rw [Int.natCast_add, eL] at h2
      exact (ring_per o hx hw (k := k) h0 h1 ht).mpr h2
/-- a beat ahead it is not so -/
theorem rest_least (o : NetOk N) (hk : KdsOk N ks) {R : List C4} (hR : Losses N ks R) {f : Nat} {p : Nat × Nat} (hp : ks[f]? = some p) {t L : Nat} (ht : restR N p ((fatesR N ks R).getD f (.ended 0 0)) = t + 1) (hL0 : 1 ≤ L) (hL : againF N (fatesR N ks R) ∣ L) : ∃ x a, ¬ (Brn N ks t f x a ↔ Brn N ks (t + L) f x a) := by
  have hx := hk p (List.mem_of_getElem? hp)
  have h0p := (path_been o hx).pos
  rcases fate_case o hk hR hp with ⟨τ, y, g, hl, e⟩ | ⟨ha, hw, e⟩ | ⟨ha, hw, e⟩
  · rw [e] at ht
    have ht : (if (p.1 : Int) < τ then (τ : Int) else 0) = t + 1 := ht
    by_cases q : (p.1 : Int) < τ
    · rw [if_pos q] at ht
      have hlo := (inv_all o hk (τ + 1)).lo τ y f g (by omega) hl
      rcases onWay_prev o hx ((on_get hp).mp hlo) with ⟨h1, _⟩ | ⟨z, t0, h1, _, h3⟩
      · omega
      · have hb := burn_pos o (onWay_lt o hx h1)
        refine ⟨z, burnOf N z - 1, fun h => ?_⟩
        have : Brn N ks t f z (burnOf N z - 1) := by
          refine ⟨by omega, by omega, (on_get hp).mpr (by rw [show (t : Int) - (burnOf N z - 1) = t0 by omega]; exact h1), fun t' ht' x' g' hl' => ?_⟩
          have := (lost_once o hk hl hl').1
          omega
        have := (h.mp this).2.2.2
        exact this τ (by omega) y g hl
    · rw [if_neg q] at ht
      omega
  · rw [e] at ht
    have hlast : (path N p.2)[(path N p.2).length - 1]? = some ((path N p.2)[(path N p.2).length - 1]'(by omega)) := List.getElem?_eq_getElem _
    obtain ⟨z, hz⟩ : ∃ z, z = (path N p.2)[(path N p.2).length - 1]'(by omega) := ⟨_, rfl⟩
    rw [← hz] at hlast
    have hgap := frst_gap o hx p.1 hlast (show (path N p.2).length - 1 < (path N p.2).length by omega)
    have heq : frst N p.1 p.2 (path N p.2).length = frst N p.1 p.2 ((path N p.2).length - 1) + burnOf N z := by
      unfold frst
      have := take_succ_sum N hlast
      rw [show (path N p.2).length - 1 + 1 = (path N p.2).length by omega] at this
      omega
    have hb := burn_pos o ((path_been o hx).lt z (List.mem_of_getElem? hlast))
    have hge := frst_ge o hx p.1 ((path N p.2).length - 1)
    have ht : (if (p.1 : Int) < frst N p.1 p.2 (path N p.2).length then frst N p.1 p.2 (path N p.2).length else 0) = t + 1 := ht
    rw [if_pos (by omega)] at ht
    refine ⟨z, burnOf N z - 1, fun h => ?_⟩
    have hB : Brn N ks t f z (burnOf N z - 1) := ⟨by omega, by omega, (on_get hp).mpr ⟨(path N p.2).length - 1, 0, hlast, by rw [Int.zero_mul]; omega, by omega, .inl rfl⟩, ha _⟩
    obtain ⟨b0, b1, b2, _⟩ := h.mp hB
    exact ends_off o hx hw b0 b1 (by omega) ((on_get hp).mp b2)
  · rw [e] at ht
    have ht : frst N p.1 p.2 (cutN N p.2) = t + 1 := ht
    have hm := lap_min o hx hw
    have hp0 := lap_pos o hx hw
    have hcl := cut_lt hw
    have hd : (lapOf N p.2).toNat ∣ L := by
      have hf : f < (fatesR N ks R).length := by rw [fatesR_len]; exact (List.getElem?_eq_some_iff.mp hp).1
      have := (dvd_again (N := N) (fatesR N ks R) 1).2 _ _ (by rw [← e, List.getD_eq_getElem?_getD, List.getElem?_eq_getElem hf]; exact List.getElem_mem hf)
      rw [hm.2] at this
      exact Nat.dvd_trans this hL
    obtain ⟨k, ek⟩ := hd
    have eL : (L : Int) = k * lapOf N p.2 := by
      rw [ek, Int.natCast_mul, Int.toNat_of_nonneg (by omega), Int.mul_comm]
    by_cases hc : cutN N p.2 = 0
    · -- it was not kindled; a lap behind it burns
      rw [hc] at ht
      have e0 : frst N p.1 p.2 0 = p.1 := by show (p.1 : Int) + 0 = _; omega
      rw [e0] at ht
      have hk1 : 1 ≤ k := Nat.pos_of_ne_zero fun z => by rw [z, Nat.mul_zero] at ek; omega
      have hLn : ((L : Int)) ≥ lapOf N p.2 := by
        rw [eL]
        have : 1 * lapOf N p.2 ≤ (k : Int) * lapOf N p.2 := Int.mul_le_mul_of_nonneg_right (by omega) (by omega)
        omega
      obtain ⟨z, g, g0, g1, g2⟩ := on_at o hx (p.1 : Int) (L - 1) (.inl hw)
      refine ⟨z, g, fun h => ?_⟩
      have hB : Brn N ks (t + L) f z g := ⟨g0, g1, (on_get hp).mpr (by rw [show ((t + L : Nat) : Int) - g = (p.1 : Int) + ((L - 1 : Nat) : Int) - g by omega]; exact g2), ha _⟩
      obtain ⟨_, _, b2, _⟩ := h.mpr hB
      have := onWay_ge o hx ((on_get hp).mp b2)
      omega
    · obtain ⟨i, hi⟩ : ∃ i, cutN N p.2 = i + 1 := ⟨cutN N p.2 - 1, by omega⟩
      obtain ⟨z, hz⟩ : ∃ z, (path N p.2)[i]? = some z := ⟨_, List.getElem?_eq_getElem (by omega)⟩
      have hb := burn_pos o ((path_been o hx).lt z (List.mem_of_getElem? hz))
      have hA := ahead_at o hx (b := (p.1 : Int)) hi hz
      refine ⟨z, burnOf N z - 1, fun h => ?_⟩
      have hB : Brn N ks t f z (burnOf N z - 1) := ⟨by omega, by omega, (on_get hp).mpr (by rw [show (t : Int) - (burnOf N z - 1) = frst N p.1 p.2 (cutN N p.2) - burnOf N z by omega]; exact hA), ha _⟩
      obtain ⟨b0, b1, b2, _⟩ := h.mp hB
      exact ahead_off o hx hw (i := i) (by omega) hz b0 b1 (by omega) ((on_get hp).mp b2)
/-- the rest, and behind how many beats what burns comes again -/
structure RestOk (N : Net) (ks : Kds) (R : List C4) (first : Int) : Prop where
  nil : ks = [] → first = 0
  at_ : ks ≠ [] → ∃ f, f < ks.length ∧ first = restR N (ks.getD f (0, 0)) ((fatesR N ks R).getD f (.ended 0 0))
  le : ∀ f, f < ks.length → restR N (ks.getD f (0, 0)) ((fatesR N ks R).getD f (.ended 0 0)) ≤ first
theorem getD_lt {f : Nat} (h : f < ks.length) : ks[f]? = some (ks.getD f (0, 0)) := by
  rw [List.getD_eq_getElem?_getD, List.getElem?_eq_getElem h]
  rfl
theorem RestOk.nonneg (o : NetOk N) (hk : KdsOk N ks) {R : List C4} (hR : Losses N ks R) {first : Int} (h : RestOk N ks R first) : 0 ≤ first := by
  by_cases e : ks = []
  · rw [h.nil e]; exact Int.le_refl _
  · obtain ⟨f, hf, e2⟩ := h.at_ e
    rw [e2]
    exact rest_nonneg o hk hR (getD_lt hf)
theorem RestOk.per (o : NetOk N) (hk : KdsOk N ks) {R : List C4} (hR : Losses N ks R) {first : Int} (h : RestOk N ks R first) {t L : Nat} (ht : first ≤ t) (hL : againF N (fatesR N ks R) ∣ L) : SameT N ks t (t + L) := by
  rw [same_iff o hk]
  intro f x a
  rcases Nat.lt_or_ge f ks.length with hf | hf
  · exact rest_per o hk hR (getD_lt hf) (Int.le_trans (h.le f hf) ht) hL x a
  · have no : ∀ u, ¬ Brn N ks u f x a := fun u ⟨_, _, ⟨p, hp, _⟩, _⟩ => by
      have := (List.getElem?_eq_some_iff.mp hp).1
      omega
    exact ⟨fun q => absurd q (no _), fun q => absurd q (no _)⟩
theorem RestOk.least (o : NetOk N) (hk : KdsOk N ks) {R : List C4} (hR : Losses N ks R) {first : Int} (h : RestOk N ks R first) {t L : Nat} (ht : first = t + 1) (hL0 : 1 ≤ L) (hL : againF N (fatesR N ks R) ∣ L) : ¬ SameT N ks t (t + L) := fun q => by
  by_cases e : ks = []
  · rw [h.nil e] at ht; omega
  · obtain ⟨f, hf, e2⟩ := h.at_ e
    obtain ⟨x, a, hn⟩ := rest_least o hk hR (getD_lt hf) (t := t) (by rw [← e2, ht]) hL0 hL
    exact hn ((same_iff o hk).mp q f x a)
theorem RestOk.round (o : NetOk N) (hk : KdsOk N ks) {R : List C4} (hR : Losses N ks R) {first : Int} (h : RestOk N ks R first) {t m : Nat} (ht : first ≤ t) (q : SameT N ks t (t + m)) : againF N (fatesR N ks R) ∣ m := by
  refine again_dvd _ 1 (Nat.one_dvd _) fun x t' hg => ?_
  obtain ⟨f, hf, e⟩ := List.getElem_of_mem hg
  have hf' : f < ks.length := by rw [← fatesR_len (N := N) R]; exact hf
  have hp := getD_lt hf'
  obtain ⟨p, ep⟩ : ∃ p, p = ks.getD f (0, 0) := ⟨_, rfl⟩
  have hle := h.le f hf'
  rw [← ep] at hp hle
  have hx := hk p (List.mem_of_getElem? hp)
  have eD : (fatesR N ks R).getD f (.ended 0 0) = .goes x t' := by
    rw [List.getD_eq_getElem?_getD, List.getElem?_eq_getElem hf, e]; rfl
  rcases fate_case o hk hR hp with ⟨τ, y, g, hl, e⟩ | ⟨ha, hw, e⟩ | ⟨ha, hw, e⟩
  · rw [eD] at e; cases e
  · rw [eD] at e; cases e
  · rw [e] at hle
    rw [eD] at e
    cases e
    have hle : frst N p.1 p.2 (cutN N p.2) ≤ first := hle
    have hm := lap_min o hx hw
    rw [hm.2]
    have hge := frst_ge o hx p.1 (cutN N p.2)
    obtain ⟨n, hn⟩ : ∃ n : Nat, (t : Int) = p.1 + n := ⟨t - p.1, by omega⟩
    obtain ⟨z, g, g0, g1, g2⟩ := on_at o hx (p.1 : Int) n (.inl hw)
    rw [← hn] at g2
    have hB : Brn N ks t f z g := ⟨g0, g1, (on_get hp).mpr g2, ha _⟩
    obtain ⟨_, _, b2, _⟩ := ((same_iff o hk).mp q f z g).mp hB
    have := ring_lap o hx hw g0 g1 (Int.le_trans hle ht) g2 (by rw [← Int.natCast_add]; exact (on_get hp).mp b2)
    have hp0 := lap_pos o hx hw
    have e2 : ((lapOf N p.2).toNat : Int) = lapOf N p.2 := Int.toNat_of_nonneg (by omega)
    rw [← e2] at this
    exact Int.ofNat_dvd.mp this
end
end Em

namespace Em
open PySem PySem.Spec PyProof.Rows L2 Qt

section
variable {N : Net} {ks : Kds}
end
theorem cutLoA {us : List V} {i : Nat} : cutV us none (some (i : Int)) = us.take (min i us.length) := by
  unfold cutV
  rw [show HT.sIx us.length us.length (some (i : Int)) = min i us.length from HT.sIx_nat _ _ i, HT.sIx_none, Nat.sub_zero, List.drop_zero]
section
variable {N : Net} {ks : Kds}
theorem max_ex (r : Nat → Int) : ∀ n, 0 < n → ∃ f, f < n ∧ ∀ g, g < n → r g ≤ r f
  | 0, h => absurd h (Nat.lt_irrefl _)
  | 1, _ => ⟨0, by decide, fun g hg => by rw [show g = 0 by omega]; exact Int.le_refl _⟩
  | n + 2, _ => by
    obtain ⟨f, hf, h⟩ := max_ex r (n + 1) (by omega)
    by_cases e : r (n + 1) ≤ r f
    · exact ⟨f, by omega, fun g hg => by
        rcases Nat.lt_or_ge g (n + 1) with q | q
        · exact h g q
        · rw [show g = n + 1 by omega]; exact e⟩
    · exact ⟨n + 1, by omega, fun g hg => by
        rcases Nat.lt_or_ge g (n + 1) with q | q
        · have := h g q; omega
        · rw [show g = n + 1 by omega]; exact Int.le_refl _⟩
theorem rest_ex (N : Net) (ks : Kds) (R : List C4) : ∃ first, RestOk N ks R first := by
  by_cases e : ks = []
  · exact ⟨0, fun _ => rfl, fun h => absurd e h, fun f hf => by rw [e] at hf; exact absurd hf (Nat.not_lt_zero _)⟩
  · obtain ⟨f, hf, h⟩ := max_ex (fun f => restR N (ks.getD f (0, 0)) ((fatesR N ks R).getD f (.ended 0 0))) ks.length (List.length_pos_iff.mpr e)
    exact ⟨_, fun z => absurd z e, fun _ => ⟨f, hf, rfl⟩, h⟩
theorem RestOk.one {R : List C4} {a b : Int} (h : RestOk N ks R a) (h' : RestOk N ks R b) : a = b := by
  by_cases e : ks = []
  · rw [h.nil e, h'.nil e]
  · obtain ⟨f, hf, e1⟩ := h.at_ e
    obtain ⟨g, hg, e2⟩ := h'.at_ e
    have := h.le g hg
    have := h'.le f hf
    omega
end
end Em

namespace Em
open PySem PySem.Spec PyProof.Rows L2 Qt

/-- a lamp of a ring is lit each lap -/
theorem ring_on {N : Net} (o : NetOk N) {y x : Nat} (hy : y < N.length) (hA : wayA N x = []) (hx : x < N.length) {b s : Int} : OnWay N b y s x ↔ x ∈ path N y ∧ ∃ k : Nat, s = frstOf N b y x + k * lapOf N x := by
  have hxx : x ∈ wayR N x := by
    rw [ahead_path hA]
    obtain ⟨t, e⟩ := path_head N x
    rw [e]; exact List.mem_cons_self
  constructor
  · rintro ⟨j, u, hj, e, hu, hc⟩
    have hm := List.mem_of_getElem? hj
    refine ⟨hm, u.toNat, ?_⟩
    have hi := idx_of (path_been o hy).nd hj
    have hl := lap_along o hy hx (goS_path j x hj)
    unfold frstOf
    rw [hi, e, hl, Int.toNat_of_nonneg hu]
  · rintro ⟨hm, k, e⟩
    have hj := idx_get hm
    have hl := lap_along o hy hx (goS_path _ x hj)
    refine ⟨(path N y).idxOf x, k, hj, by rw [e, hl]; rfl, by omega, .inr ?_⟩
    have hr := (wayR_own o hy hm).mpr hxx
    obtain ⟨j', h1, h2⟩ := wayR_get.mp hr
    have := nodup_get (path_been o hy).nd h2 hj
    omega
section
variable {N : Net} {ks : Kds}
def LitN (N : Net) (ks : Kds) (x t : Nat) : Prop := ∃ f a, Brn N ks t f x a
theorem lit_cell (o : NetOk N) (hk : KdsOk N ks) {x t : Nat} : LitN N ks x t ↔ (stW N ks (t + 1)).getD x none ≠ none := by
  constructor
  · rintro ⟨f, a, h⟩ e
    have := (cell_iff o hk).mpr h
    unfold cellT at this
    rw [e] at this
    cases this
  · intro h
    cases e : (stW N ks (t + 1)).getD x none with
    | none => exact absurd e h
    | some p => exact ⟨p.1, (t : Int) - (p.2 : Nat), (cell_iff o hk).mp (by unfold cellT; rw [e]; rfl)⟩
theorem brn_one (o : NetOk N) (hk : KdsOk N ks) {x t f g : Nat} {a b : Int} (h : Brn N ks t f x a) (h' : Brn N ks t g x b) : f = g ∧ a = b := by
  have e1 := (cell_iff o hk).mpr h
  have e2 := (cell_iff o hk).mpr h'
  rw [e1] at e2
  have := Option.some.inj e2
  exact ⟨congrArg Prod.fst this, congrArg Prod.snd this⟩
/-- while it burns it is not lost -/
theorem brn_on (o : NetOk N) (hk : KdsOk N ks) {x t f : Nat} {a : Int} (h : Brn N ks t f x a) (ha : a + 1 < burnOf N x) : Brn N ks (t + 1) f x (a + 1) := by
  obtain ⟨h0, h1, h2, h3⟩ := h
  have e : ((t + 1 : Nat) : Int) - (a + 1) = t - a := by omega
  refine ⟨by omega, ha, by rw [e]; exact h2, h3.next fun y g hl => ?_⟩
  have hlo := (inv_all o hk (t + 1 + 1)).lo (t + 1) y f g (by omega) hl
  have := On.uniq o hk h2 hlo (by omega) (by omega)
  omega
theorem brn_back {x t f : Nat} {a : Int} (h : Brn N ks (t + 1) f x a) (ha : 0 < a) : Brn N ks t f x (a - 1) := by
  obtain ⟨h0, h1, h2, h3⟩ := h
  exact ⟨by omega, by omega, by rw [show (t : Int) - (a - 1) = ((t + 1 : Nat) : Int) - a by omega]; exact h2, h3.mono (by omega)⟩
theorem brn_go (o : NetOk N) (hk : KdsOk N ks) {x t f : Nat} (h : Brn N ks t f x 0) : ∀ i : Nat, (i : Int) < burnOf N x → Brn N ks (t + i) f x i
  | 0, _ => h
  | i + 1, hi => by
    have := brn_on o hk (brn_go o hk h i (by omega)) (by omega)
    rw [show t + (i + 1) = t + i + 1 by omega, show ((i + 1 : Nat) : Int) = (i : Int) + 1 by omega]
    exact this
/-- the last dark beat: lightings from then on are a length apart -/
theorem ever_lit (o : NetOk N) (hk : KdsOk N ks) {x r l : Nat} (hb : burnOf N x = l) (hl0 : 0 < l) (hlit : ∀ t, r ≤ t → LitN N ks x t) (hdark : 0 < r → ¬ LitN N ks x (r - 1)) : ∀ k : Nat, ∃ f, Brn N ks (r + k * l) f x 0
  | 0 => by
    obtain ⟨f, a, h⟩ := hlit r (Nat.le_refl _)
    rw [Nat.zero_mul, Nat.add_zero]
    by_cases e : a = 0
    · exact ⟨f, by rw [← e]; exact h⟩
    · have h0 := h.1
      by_cases hr : 0 < r
      · obtain ⟨q, rfl⟩ : ∃ q, r = q + 1 := ⟨r - 1, by omega⟩
        exact absurd ⟨f, _, brn_back h (by omega)⟩ (hdark hr)
      · have := h.2.2.1.nonneg o hk
        omega
  | k + 1 => by
    obtain ⟨f, h⟩ := ever_lit o hk hb hl0 hlit hdark k
    have h1 := brn_go o hk h (l - 1) (by rw [hb]; omega)
    obtain ⟨g, a, h2⟩ := hlit (r + (k + 1) * l) (by omega)
    by_cases e : a = 0
    · exact ⟨g, by rw [← e]; exact h2⟩
    · have h0 := h2.1
      have h3 := h2.2.1
      have et : r + (k + 1) * l = r + k * l + (l - 1) + 1 := by rw [Nat.add_mul, Nat.one_mul]; omega
      rw [et] at h2
      have := (brn_one o hk (brn_back h2 (by omega)) h1).2
      omega
/-- what is told of a flame's lightings of a lamp of a ring -/
def SpanAt (N : Net) (ks : Kds) (x f : Nat) (s : Int) : Prop := ∃ p, ks[f]? = some p ∧ x ∈ path N p.2 ∧ s = frstOf N p.1 p.2 x
theorem span_on (o : NetOk N) (hk : KdsOk N ks) {x : Nat} (hx : x < N.length) (hA : wayA N x = []) {f : Nat} {s : Int} : On N ks f s x ↔ ∃ s0, SpanAt N ks x f s0 ∧ ∃ k : Nat, s = s0 + k * lapOf N x := by
  constructor
  · rintro ⟨p, hp, h⟩
    obtain ⟨h1, k, e⟩ := (ring_on o (hk p (List.mem_of_getElem? hp)) hA hx).mp h
    exact ⟨_, ⟨p, hp, h1, rfl⟩, k, e⟩
  · rintro ⟨s0, ⟨p, hp, h1, rfl⟩, k, e⟩
    exact ⟨p, hp, (ring_on o (hk p (List.mem_of_getElem? hp)) hA hx).mpr ⟨h1, k, e⟩⟩
/-- the dark beat that the first lighting of a flame tells -/
theorem ever_first (o : NetOk N) (hk : KdsOk N ks) {x r l n : Nat} (hx : x < N.length) (hA : wayA N x = []) (hb : burnOf N x = l) (hl0 : 0 < l) (hn : 0 < n) (hl : lapOf N x = (n : Int) * l) (hlit : ∀ t, r ≤ t → LitN N ks x t) (hdark : 0 < r → ¬ LitN N ks x (r - 1)) : ∃ f s, SpanAt N ks x f s ∧ s - lapOf N x + l - 1 = (r : Int) - 1 := by
  obtain ⟨g, hg⟩ := ever_lit o hk hb hl0 hlit hdark n
  have hnl : l ≤ n * l := Nat.le_mul_of_pos_left l hn
  obtain ⟨q, eq⟩ : ∃ q, r + n * l = q + 1 := ⟨r + n * l - 1, by omega⟩
  rw [eq] at hg
  obtain ⟨f, a, hf⟩ := hlit q (by omega)
  have ha : a + 1 = l := by
    have h1 := hf.2.1
    rcases Int.lt_or_le (a + 1) l with h | h
    · have := (brn_one o hk (brn_on o hk hf (by omega)) hg).2
      have := hf.1
      omega
    · omega
  obtain ⟨s0, hs0, k, e⟩ := (span_on o hk hx hA).mp hf.2.2.1
  refine ⟨f, s0, hs0, ?_⟩
  have eL : lapOf N x = ((n * l : Nat) : Int) := by rw [hl, Int.natCast_mul]
  by_cases hk0 : k = 0
  · rw [hk0, Int.natCast_zero, Int.zero_mul] at e
    rw [eL]
    omega
  · exfalso
    obtain ⟨k', rfl⟩ : ∃ k', k = k' + 1 := ⟨k - 1, by omega⟩
    have e' : (q : Int) - a - lapOf N x = s0 + k' * lapOf N x := by
      rw [e, Int.natCast_add, Int.add_mul]
      show s0 + (_ + ((1 : Nat) : Int) * _) - _ = _
      rw [Int.natCast_one, Int.one_mul]
      omega
    have hon : On N ks f ((q : Int) - a - lapOf N x) x := (span_on o hk hx hA).mpr ⟨s0, hs0, k', e'⟩
    have hge := hon.nonneg o hk
    rw [eL] at hge hon
    have hr : 0 < r := by omega
    refine hdark hr ⟨f, a, hf.1, hf.2.1, ?_, hf.2.2.2.mono (by omega)⟩
    rw [show ((r - 1 : Nat) : Int) - a = (q : Int) - a - ((n * l : Nat) : Int) by omega]
    exact hon
/-- burning, told by the spans -/
theorem lit_span (o : NetOk N) (hk : KdsOk N ks) {x t : Nat} (hx : x < N.length) (hA : wayA N x = []) : LitN N ks x t ↔ ∃ f s, SpanAt N ks x f s ∧ s ≤ t ∧ ((t : Int) - s) % lapOf N x < burnOf N x ∧ Alive N ks f (t + 1) := by
  have hR : wayR N x ≠ [] := by
    rw [ahead_path hA]
    obtain ⟨t, e⟩ := path_head N x
    rw [e]; exact fun z => by cases z
  have hp := lap_pos o hx hR
  have hxx : x ∈ wayR N x := by
    rw [ahead_path hA]
    obtain ⟨t, e⟩ := path_head N x
    rw [e]; exact List.mem_cons_self
  have hbl := burn_lap o hx hxx
  constructor
  · rintro ⟨f, a, h0, h1, h2, h3⟩
    obtain ⟨s, hs, k, e⟩ := (span_on o hk hx hA).mp h2
    have hkl : 0 ≤ (k : Int) * lapOf N x := Int.mul_nonneg (by omega) (by omega)
    refine ⟨f, s, hs, by omega, ?_, h3⟩
    rw [show (t : Int) - s = a + k * lapOf N x by omega, Int.add_mul_emod_self_right, Int.emod_eq_of_lt h0 (by omega)]
    exact h1
  · rintro ⟨f, s, hs, h1, h2, h3⟩
    have e1 := Int.emod_nonneg ((t : Int) - s) (show lapOf N x ≠ 0 by omega)
    refine ⟨f, ((t : Int) - s) % lapOf N x, e1, h2, (span_on o hk hx hA).mpr ⟨s, hs, (((t : Int) - s) / lapOf N x).toNat, ?_⟩, h3⟩
    have e2 := Int.emod_add_mul_ediv ((t : Int) - s) (lapOf N x)
    rw [Int.toNat_of_nonneg (Int.ediv_nonneg (by omega) (by omega)), Int.mul_comm (_ / _)]
    omega
def beatE (x : Nat) : Fate → Option Int
  | .goes y t => if y = x then some t else none
  | .lost _ _ _ => none
  | .ended _ _ => none
/-- the flames that go on a lamp's ring -/
def goX (N : Net) (ks : Kds) (R : List C4) (x : Nat) : List Nat := (List.range ks.length).filter fun f => (beatE (minN (wayR N x)) ((fatesR N ks R).getD f (.ended 0 0))).isSome
theorem goX_len {R : List C4} {x : Nat} : ((fatesR N ks R).filterMap (beatE (minN (wayR N x)))).length = (goX N ks R x).length := by
  have e : fatesR N ks R = (List.range ks.length).map fun f => (fatesR N ks R).getD f (.ended 0 0) := by
    refine List.ext_getElem? fun i => ?_
    rw [List.getElem?_map]
    rcases Nat.lt_or_ge i ks.length with h | h
    · rw [List.getElem?_range h]
      show _ = some ((fatesR N ks R).getD i (.ended 0 0))
      have hl : i < (fatesR N ks R).length := by rw [fatesR_len]; exact h
      rw [List.getD_eq_getElem?_getD, List.getElem?_eq_getElem hl]
      rfl
    · rw [List.getElem?_eq_none (by rw [fatesR_len]; exact h), List.getElem?_eq_none (by rw [List.length_range]; exact h)]
      rfl
  have key : ∀ (L : List Nat) (h : Nat → Fate), ((L.map h).filterMap (beatE (minN (wayR N x)))).length = (L.filter fun f => (beatE (minN (wayR N x)) (h f)).isSome).length := fun L h => by
    induction L with
    | nil => rfl
    | cons i L ih =>
      rw [List.map_cons, List.filterMap_cons, List.filter_cons]
      cases e : beatE (minN (wayR N x)) (h i) with
      | none => exact ih
      | some t =>
        show (t :: _).length = (i :: _).length
        rw [List.length_cons, List.length_cons, ih]
  have := key (List.range ks.length) fun f => (fatesR N ks R).getD f (.ended 0 0)
  rw [← e] at this
  exact this
theorem goX_iff (o : NetOk N) (hk : KdsOk N ks) {R : List C4} (hR : Losses N ks R) {x : Nat} (hx : x < N.length) (hA : wayA N x = []) {f : Nat} : f ∈ goX N ks R x ↔ (∀ t, Alive N ks f t) ∧ ∃ s, SpanAt N ks x f s := by
  have hxx : x ∈ wayR N x := by
    rw [ahead_path hA]
    obtain ⟨t, e⟩ := path_head N x
    rw [e]; exact List.mem_cons_self
  have hxne : wayR N x ≠ [] := fun e => by rw [e] at hxx; cases hxx
  have hm := (minN_mem hxne).1
  have hml := way_sub o hx _ hm
  obtain ⟨⟨km, hkm⟩, _⟩ := (wayR_iff o hx).mp hm
  have e1 := ring_along o hx hml hkm
  unfold goX
  rw [List.mem_filter, List.mem_range]
  constructor
  · rintro ⟨hf, h⟩
    have hp := getD_lt hf
    have hy := hk _ (List.mem_of_getElem? hp)
    rcases fate_case o hk hR hp with ⟨τ, z, g, hl, e⟩ | ⟨ha, hw, e⟩ | ⟨ha, hw, e⟩
    · rw [e] at h; cases h
    · rw [e] at h; cases h
    · rw [e] at h
      have hmn : minN (wayR N (ks.getD f (0, 0)).2) = minN (wayR N x) := by
        rcases Nat.decEq (minN (wayR N (ks.getD f (0, 0)).2)) (minN (wayR N x)) with q | q
        · have h : (if minN (wayR N (ks.getD f (0, 0)).2) = minN (wayR N x) then some _ else none : Option Int).isSome = true := h
          rw [if_neg q] at h
          cases h
        · exact q
      have hm2 := (minN_mem hw).1
      rw [hmn] at hm2
      obtain ⟨⟨k2, hk2⟩, _⟩ := (wayR_iff o hy).mp hm2
      have e2 := ring_along o hy hml hk2
      have hxr : x ∈ wayR N (ks.getD f (0, 0)).2 := (e2 x).mp ((e1 x).mpr hxx)
      exact ⟨ha, _, _, hp, by rw [← way_cat]; exact List.mem_append_right _ hxr, rfl⟩
  · rintro ⟨ha, s, p, hp, hxp, _⟩
    have hf : f < ks.length := (List.getElem?_eq_some_iff.mp hp).1
    have hy := hk _ (List.mem_of_getElem? hp)
    refine ⟨hf, ?_⟩
    have hxr := (wayR_own o hy hxp).mpr hxx
    have hw : wayR N p.2 ≠ [] := fun e => by rw [e] at hxr; cases hxr
    rcases fate_case o hk hR hp with ⟨τ, z, g, hl, e⟩ | ⟨_, hw', e⟩ | ⟨_, _, e⟩
    · exact absurd hl (ha (τ + 1) τ (by omega) z g)
    · exact absurd hw' hw
    · obtain ⟨⟨k2, hk2⟩, _⟩ := (wayR_iff o hy).mp hxr
      have e2 := ring_along o hy hx hk2
      have hmn : minN (wayR N p.2) = minN (wayR N x) := (minN_congr (fun u => e2 u) hxne).symm
      rw [e, hmn]
      show (if minN (wayR N x) = minN (wayR N x) then some _ else none : Option Int).isSome = true
      rw [if_pos rfl]
      rfl
theorem sub_lenN : ∀ (A B : List Nat), A.Nodup → (∀ x ∈ A, x ∈ B) → A.length ≤ B.length
  | [], B, _, _ => Nat.zero_le _
  | x :: A, B, hn, h => by
    have hx := h x List.mem_cons_self
    obtain ⟨h1, h2⟩ := List.nodup_cons.mp hn
    have := sub_lenN A (B.erase x) h2 fun y hy => (List.mem_erase_of_ne (fun e => h1 (by rw [← e]; exact hy))).mpr (h y (List.mem_cons_of_mem _ hy))
    rw [List.length_erase_of_mem hx] at this
    have hp := List.length_pos_of_mem hx
    rw [List.length_cons]
    omega
theorem full_mem {g : List Nat} {n : Nat} (hn : g.Nodup) (hl : ∀ y ∈ g, y < n) (he : n ≤ g.length) {r : Nat} (hr : r < n) : r ∈ g := by
  rcases Classical.em (r ∈ g) with h | h
  · exact h
  · have := nodup_le (List.nodup_cons.mpr ⟨h, hn⟩) fun y hy => by
      rcases List.mem_cons.mp hy with e | e
      · rw [e]; exact hr
      · exact hl y e
    rw [List.length_cons] at this
    omega
theorem brn_span (o : NetOk N) (hk : KdsOk N ks) {x f : Nat} {s : Int} (hx : x < N.length) (hA : wayA N x = []) (ha : ∀ t, Alive N ks f t) (hs : SpanAt N ks x f s) {t i k : Nat} (hi : (i : Int) < burnOf N x) (ht : (t : Int) = s + k * lapOf N x + i) : Brn N ks t f x i :=
  ⟨by omega, hi, (span_on o hk hx hA).mpr ⟨s, hs, k, by omega⟩, ha _⟩
theorem span_nonneg (o : NetOk N) (hk : KdsOk N ks) {x f : Nat} {s : Int} (hx : x < N.length) (hA : wayA N x = []) (hs : SpanAt N ks x f s) : 0 ≤ s :=
  ((span_on o hk hx hA (s := s)).mpr ⟨s, hs, 0, by rw [Int.natCast_zero, Int.zero_mul]; omega⟩).nonneg o hk
/-- the beats of a lap at which they burn -/
def resX (N : Net) (ks : Kds) (R : List C4) (x l L : Nat) : List Nat := (goX N ks R x).flatMap fun f => (List.range l).map fun i : Nat => ((frstOf N (ks.getD f (0, 0)).1 (ks.getD f (0, 0)).2 x + (i : Nat)) % (L : Int)).toNat
theorem resX_ok (o : NetOk N) (hk : KdsOk N ks) {R : List C4} (hR : Losses N ks R) {x l L : Nat} (hx : x < N.length) (hA : wayA N x = []) (hb : burnOf N x = l) (hL : lapOf N x = L) (hl : l ≤ L) (hL0 : 0 < L) : (resX N ks R x l L).Nodup ∧ (∀ y ∈ resX N ks R x l L, y < L) ∧ (resX N ks R x l L).length = (goX N ks R x).length * l := by
  obtain ⟨sf, hsf⟩ : ∃ sf : Nat → Int, sf = fun f => frstOf N (ks.getD f (0, 0)).1 (ks.getD f (0, 0)).2 x := ⟨_, rfl⟩
  have sp : ∀ f ∈ goX N ks R x, (∀ t, Alive N ks f t) ∧ SpanAt N ks x f (sf f) := fun f hf => by
    obtain ⟨ha, s, p, hp, h1, h2⟩ := (goX_iff o hk hR hx hA).mp hf
    have : p = ks.getD f (0, 0) := by
      rw [List.getD_eq_getElem?_getD, hp]; rfl
    refine ⟨ha, p, hp, h1, ?_⟩
    rw [hsf]
    show frstOf N (ks.getD f (0, 0)).1 (ks.getD f (0, 0)).2 x = _
    rw [← this]
  have nn : ∀ z : Int, 0 ≤ z % (L : Int) ∧ z % (L : Int) < L := fun z => ⟨Int.emod_nonneg _ (by omega), Int.emod_lt_of_pos _ (by omega)⟩
  have form : ∀ z w : Int, (z % (L : Int)).toNat = (w % (L : Int)).toNat → w ≤ z → ∃ k : Nat, z = w + k * (L : Int) := fun z w h hle => by
    have h1 := nn z
    have h2 := nn w
    have e : z % (L : Int) = w % (L : Int) := by omega
    have a1 := Int.emod_add_mul_ediv z L
    have a2 := Int.emod_add_mul_ediv w L
    have hq : w / (L : Int) ≤ z / (L : Int) := Int.ediv_le_ediv (by omega) hle
    refine ⟨(z / (L : Int) - w / (L : Int)).toNat, ?_⟩
    rw [Int.toNat_of_nonneg (by omega), Int.sub_mul, Int.mul_comm (z / _), Int.mul_comm (w / _)]
    omega
  have clash : ∀ f ∈ goX N ks R x, ∀ g ∈ goX N ks R x, ∀ i j, i < l → j < l → ((sf f + i) % (L : Int)).toNat = ((sf g + j) % (L : Int)).toNat → f = g ∧ i = j := by
    have half : ∀ f ∈ goX N ks R x, ∀ g ∈ goX N ks R x, ∀ i j, i < l → j < l → ((sf f + i) % (L : Int)).toNat = ((sf g + j) % (L : Int)).toNat → sf g + j ≤ sf f + i → f = g ∧ i = j := fun f hf g hg i j hi hj h hle => by
      obtain ⟨k, e⟩ := form _ _ h hle
      obtain ⟨a1, a2⟩ := sp f hf
      obtain ⟨b1, b2⟩ := sp g hg
      have h0 := span_nonneg o hk hx hA a2
      obtain ⟨t, ht⟩ := Int.eq_ofNat_of_zero_le (show 0 ≤ sf f + i by omega)
      have B1 := brn_span o hk hx hA a1 a2 (t := t) (i := i) (k := 0) (by omega) (by rw [Int.natCast_zero, Int.zero_mul]; omega)
      have B2 := brn_span o hk hx hA b1 b2 (t := t) (i := j) (k := k) (by omega) (by rw [hL]; omega)
      obtain ⟨q1, q2⟩ := brn_one o hk B1 B2
      exact ⟨q1, by omega⟩
    intro f hf g hg i j hi hj h
    rcases Int.le_total (sf g + j) (sf f + i) with q | q
    · exact half f hf g hg i j hi hj h q
    · obtain ⟨q1, q2⟩ := half g hg f hf j i hj hi h.symm q
      exact ⟨q1.symm, q2.symm⟩
  unfold resX
  refine ⟨List.pairwise_flatMap.mpr ⟨fun f hf => ?_, ?_⟩, fun y hy => ?_, ?_⟩
  · refine List.pairwise_map.mpr (List.Pairwise.imp_of_mem (R := (· ≠ ·)) (fun {i j} hi hj hne e => hne ?_) List.nodup_range)
    refine (clash f hf f hf i j (List.mem_range.mp hi) (List.mem_range.mp hj) ?_).2
    rw [hsf]
    exact e
  · have h0 : (goX N ks R x).Pairwise (· ≠ ·) := List.Pairwise.filter _ List.nodup_range
    refine List.Pairwise.imp_of_mem (fun {f g} hf hg hne y hy z hz e => hne ?_) h0
    obtain ⟨i, hi, rfl⟩ := List.mem_map.mp hy
    obtain ⟨j, hj, e2⟩ := List.mem_map.mp hz
    refine (clash f hf g hg i j (List.mem_range.mp hi) (List.mem_range.mp hj) ?_).1
    rw [hsf]
    exact e.trans e2.symm
  · obtain ⟨f, hf, hy⟩ := List.mem_flatMap.mp hy
    obtain ⟨i, hi, rfl⟩ := List.mem_map.mp hy
    have := nn (frstOf N (ks.getD f (0, 0)).1 (ks.getD f (0, 0)).2 x + i)
    omega
  · rw [List.length_flatMap]
    have : ∀ G : List Nat, (G.map fun f => ((List.range l).map fun i : Nat => ((frstOf N (ks.getD f (0, 0)).1 (ks.getD f (0, 0)).2 x + (i : Nat)) % (L : Int)).toNat).length).sum = G.length * l := fun G => by
      induction G with
      | nil => rw [List.map_nil]; show 0 = 0 * l; rw [Nat.zero_mul]
      | cons f G ih => rw [List.map_cons, List.sum_cons, ih, List.length_map, List.length_range, List.length_cons, Nat.add_mul, Nat.one_mul, Nat.add_comm]
    exact this _
theorem lost_bound (o : NetOk N) (hk : KdsOk N ks) : ∃ B : Nat, (∀ t x f g, LostAt N ks t x f g → t ≤ B) ∧ ∀ p ∈ ks, (p.1 : Int) + totN N ≤ B := by
  have htot : 0 ≤ totN N := sumB_nonneg o fun y hy => List.mem_range.mp hy
  obtain ⟨M, hM⟩ : ∃ M : Nat, ∀ p ∈ ks, p.1 ≤ M := by
    induction ks with
    | nil => exact ⟨0, fun p h => by cases h⟩
    | cons q ks ih =>
      obtain ⟨M, h⟩ := ih (fun p hp => hk p (List.mem_cons_of_mem _ hp))
      refine ⟨max q.1 M, fun p hp => ?_⟩
      rcases List.mem_cons.mp hp with e | e
      · rw [e]; exact Nat.le_max_left _ _
      · exact Nat.le_trans (h p e) (Nat.le_max_right _ _)
  refine ⟨(M + 2 * totN N).toNat, fun t x f g h => ?_, fun p hp => ?_⟩
  · have := lost_le o hk h (M := M) fun q hq => by have := hM q hq; omega
    omega
  · have := hM p hp
    omega
/-- a lamp burns for ever just where its flames fill the lap -/
theorem ever_iff (o : NetOk N) (hk : KdsOk N ks) {R : List C4} (hR : Losses N ks R) {x l L : Nat} (hx : x < N.length) (hA : wayA N x = []) (hb : burnOf N x = l) (hL : lapOf N x = L) :
    ((goX N ks R x).length * l = L → ∃ T, ∀ t, T ≤ t → LitN N ks x t) ∧ ((goX N ks R x).length * l ≠ L → ∀ T, ∃ t, T ≤ t ∧ ¬ LitN N ks x t) := by
  have hxx : x ∈ wayR N x := by
    rw [ahead_path hA]
    obtain ⟨t, e⟩ := path_head N x
    rw [e]; exact List.mem_cons_self
  have hl0 := burn_pos o hx
  have hlL := burn_lap o hx hxx
  rw [hb] at hl0 hlL
  rw [hL] at hlL
  obtain ⟨r1, r2, r3⟩ := resX_ok o hk hR hx hA hb hL (by omega) (by omega)
  obtain ⟨B, hB, hB2⟩ := lost_bound o hk
  have res : ∀ y, y ∈ resX N ks R x l L ↔ ∃ f s, (∀ t, Alive N ks f t) ∧ SpanAt N ks x f s ∧ ∃ i, i < l ∧ y = ((s + (i : Nat)) % (L : Int)).toNat := fun y => by
    unfold resX
    rw [List.mem_flatMap]
    constructor
    · rintro ⟨f, hf, hy⟩
      obtain ⟨i, hi, rfl⟩ := List.mem_map.mp hy
      obtain ⟨ha, s, p, hp, h1, h2⟩ := (goX_iff o hk hR hx hA).mp hf
      have : p = ks.getD f (0, 0) := by
        rw [List.getD_eq_getElem?_getD, hp]; rfl
      exact ⟨f, _, ha, ⟨p, hp, h1, by rw [this]⟩, i, List.mem_range.mp hi, rfl⟩
    · rintro ⟨f, s, ha, hs, i, hi, rfl⟩
      refine ⟨f, (goX_iff o hk hR hx hA).mpr ⟨ha, s, hs⟩, List.mem_map.mpr ⟨i, List.mem_range.mpr hi, ?_⟩⟩
      obtain ⟨p, hp, h1, rfl⟩ := hs
      have : p = ks.getD f (0, 0) := by
        rw [List.getD_eq_getElem?_getD, hp]; rfl
      rw [this]
  have sle : ∀ f s, SpanAt N ks x f s → s ≤ B := fun f s ⟨p, hp, h1, h2⟩ => by
    have hm := List.mem_of_getElem? hp
    have := frstOf_tot o (hk p hm) p.1 h1
    have := hB2 p hm
    omega
  constructor
  · intro hc
    refine ⟨B + l, fun t ht => ?_⟩
    have hm : t % L < L := Nat.mod_lt _ (by omega)
    obtain ⟨f, s, ha, hs, i, hi, e⟩ := (res _).mp (full_mem r1 r2 (by rw [r3, hc]; exact Nat.le_refl _) hm)
    have hsB := sle f s hs
    have h1 := Int.emod_nonneg (s + (i : Nat)) (show (L : Int) ≠ 0 by omega)
    have e2 : (t : Int) % (L : Int) = (s + (i : Nat)) % (L : Int) := by
      have : ((t % L : Nat) : Int) = (s + (i : Nat)) % (L : Int) := by omega
      rw [← this, Int.natCast_emod]
    have a1 := Int.emod_add_mul_ediv (t : Int) L
    have a2 := Int.emod_add_mul_ediv (s + (i : Nat)) (L : Int)
    have hq : (s + (i : Nat)) / (L : Int) ≤ (t : Int) / (L : Int) := Int.ediv_le_ediv (by omega) (by omega)
    refine ⟨f, i, brn_span o hk hx hA ha hs (k := ((t : Int) / (L : Int) - (s + (i : Nat)) / (L : Int)).toNat) (by omega) ?_⟩
    rw [hL, Int.toNat_of_nonneg (by omega), Int.sub_mul, Int.mul_comm (_ / _), Int.mul_comm ((s + _) / _)]
    omega
  · intro hc T
    have hle := nodup_le r1 r2
    rw [r3] at hle
    obtain ⟨r, hr, hnr⟩ : ∃ r, r < L ∧ r ∉ resX N ks R x l L := by
      refine Classical.byContradiction fun h => ?_
      have := sub_lenN (List.range L) (resX N ks R x l L) List.nodup_range fun y hy => Classical.byContradiction fun z => h ⟨y, List.mem_range.mp hy, z⟩
      rw [List.length_range, r3] at this
      omega
    have hTB : T + B ≤ r + (T + B) * L := Nat.le_trans (Nat.le_mul_of_pos_right (T + B) (by omega)) (Nat.le_add_left _ _)
    refine ⟨r + (T + B) * L, by omega, fun ⟨f, a, h0, h1, h2, h3⟩ => hnr ?_⟩
    have hal : ∀ t, Alive N ks f t := fun t t' ht' y g hl => by
      have := hB _ _ _ _ hl
      exact h3 t' (by omega) y g hl
    obtain ⟨s, hs, k, e⟩ := (span_on o hk hx hA).mp h2
    obtain ⟨i, rfl⟩ := Int.eq_ofNat_of_zero_le h0
    refine (res r).mpr ⟨f, s, hal, hs, i, by omega, ?_⟩
    rw [hL] at e
    have e2 : s + (i : Nat) = (r : Int) + ((T + B : Nat) - (k : Int)) * (L : Int) := by
      rw [Int.sub_mul]
      have : ((r + (T + B) * L : Nat) : Int) = (r : Int) + ((T + B : Nat) : Int) * (L : Int) := by rw [Int.natCast_add, Int.natCast_mul]
      omega
    rw [e2, Int.add_mul_emod_self_right, Int.emod_eq_of_lt (by omega) (by omega)]
    rfl
/-- a lamp of no ring -/
theorem ever_off (o : NetOk N) (hk : KdsOk N ks) {x : Nat} (hx : x < N.length) (hA : wayA N x ≠ []) : ∀ T, ∃ t, T ≤ t ∧ ¬ LitN N ks x t := fun T => by
  obtain ⟨B, _, hB2⟩ := lost_bound o hk
  refine ⟨T + B, by omega, fun ⟨f, a, h0, h1, h2, h3⟩ => hA ?_⟩
  obtain ⟨p, hp, h⟩ := h2
  have hm := List.mem_of_getElem? hp
  have hy := hk p hm
  obtain ⟨j, u, hj, hc, _⟩ := onWay_late o hy h (t := ((T + B : Nat) : Int)) (by have := hB2 p hm; omega) (by omega)
  have hr : x ∈ wayR N p.2 := wayR_get.mpr ⟨j, hc, hj⟩
  exact root_ahead o hx ((wayR_own o hy (List.mem_of_getElem? hj)).mp hr)
/-- from which beat on a lamp burns -/
def EverFrom (N : Net) (ks : Kds) (x r : Nat) : Prop := (∀ t, r ≤ t → LitN N ks x t) ∧ (0 < r → ¬ LitN N ks x (r - 1))
theorem ever_least {x : Nat} : ∀ T, (∀ t, T ≤ t → LitN N ks x t) → ∃ r, EverFrom N ks x r
  | 0, h => ⟨0, h, fun z => absurd z (Nat.lt_irrefl 0)⟩
  | T + 1, h => by
    by_cases e : LitN N ks x T
    · exact ever_least T fun t ht => by
        rcases Nat.eq_or_lt_of_le ht with q | q
        · rw [← q]; exact e
        · exact h t q
    · exact ⟨T + 1, h, fun _ => e⟩
theorem ever_uniq {x r r' : Nat} (h : EverFrom N ks x r) (h' : EverFrom N ks x r') : r = r' := by
  rcases Nat.lt_trichotomy r r' with q | q | q
  · exact absurd (h.1 (r' - 1) (by omega)) (h'.2 (by omega))
  · exact q
  · exact absurd (h'.1 (r - 1) (by omega)) (h.2 (by omega))
def SpanLit (N : Net) (ks : Kds) (x : Nat) (b : Int) : Prop := ∃ f s, SpanAt N ks x f s ∧ s ≤ b ∧ (b - s) % lapOf N x < burnOf N x ∧ ∀ t x' g, LostAt N ks t x' f g → b < (t : Nat)
theorem spanLit_iff (o : NetOk N) (hk : KdsOk N ks) {x t : Nat} (hx : x < N.length) (hA : wayA N x = []) : SpanLit N ks x t ↔ LitN N ks x t := by
  rw [lit_span o hk hx hA]
  constructor
  · rintro ⟨f, s, h1, h2, h3, h4⟩
    refine ⟨f, s, h1, h2, h3, fun t' ht' y g hl => ?_⟩
    have := h4 t' y g hl
    omega
  · rintro ⟨f, s, h1, h2, h3, h4⟩
    refine ⟨f, s, h1, h2, h3, fun t' y g hl => ?_⟩
    rcases Nat.lt_or_ge t t' with q | q
    · omega
    · exact absurd hl (h4 t' (by omega) y g)
theorem ever_max (o : NetOk N) (hk : KdsOk N ks) {R : List C4} (hR : Losses N ks R) {x : Nat} (hx : x < N.length) (hA : wayA N x = []) (hcnt : ((goX N ks R x).length : Int) * burnOf N x = lapOf N x) (hev : ∃ T, ∀ t, T ≤ t → LitN N ks x t) :
    ∃ r, EverFrom N ks x r ∧ (∃ f s, SpanAt N ks x f s ∧ s - lapOf N x + burnOf N x - 1 = (r : Int) - 1) ∧ (¬ SpanLit N ks x ((r : Int) - 1)) ∧ ∀ b : Int, ¬ SpanLit N ks x b → b ≤ (r : Int) - 1 := by
  obtain ⟨T, hT⟩ := hev
  obtain ⟨r, hr⟩ := ever_least T hT
  have hb0 := burn_pos o hx
  have hR' : wayR N x ≠ [] := by
    rw [ahead_path hA]
    obtain ⟨t, e⟩ := path_head N x
    rw [e]; exact fun z => by cases z
  have hp := lap_pos o hx hR'
  obtain ⟨l, hl⟩ := Int.eq_ofNat_of_zero_le (show 0 ≤ burnOf N x by omega)
  have hn : 0 < (goX N ks R x).length := by
    refine Nat.pos_of_ne_zero fun z => ?_
    rw [z, Int.natCast_zero, Int.zero_mul] at hcnt
    omega
  refine ⟨r, hr, ?_, ?_, fun b hb => ?_⟩
  · obtain ⟨f, s, h1, h2⟩ := ever_first o hk hx hA hl (by omega) hn (by rw [← hcnt, hl]) hr.1 hr.2
    exact ⟨f, s, h1, by rw [hl]; exact h2⟩
  · by_cases q : 0 < r
    · intro h
      rw [show (r : Int) - 1 = ((r - 1 : Nat) : Int) by omega] at h
      exact hr.2 q ((spanLit_iff o hk hx hA).mp h)
    · rintro ⟨f, s, h1, h2, _⟩
      have := span_nonneg o hk hx hA h1
      omega
  · rcases Int.lt_or_le ((r : Int) - 1) b with q | q
    · obtain ⟨n, rfl⟩ := Int.eq_ofNat_of_zero_le (show 0 ≤ b by omega)
      exact absurd ((spanLit_iff o hk hx hA).mpr (hr.1 n (by omega))) hb
    · exact q
theorem first_le (o : NetOk N) (hk : KdsOk N ks) {R : List C4} (hR : Losses N ks R) {M : Nat} (hM : ∀ p ∈ ks, p.1 ≤ M) {first : Int} (h : RestOk N ks R first) : first ≤ M + 2 * totN N := by
  have htot : 0 ≤ totN N := sumB_nonneg o fun y hy => List.mem_range.mp hy
  by_cases e : ks = []
  · rw [h.nil e]; omega
  · obtain ⟨f, hf, e2⟩ := h.at_ e
    have hp := getD_lt hf
    obtain ⟨p, ep⟩ : ∃ p, p = ks.getD f (0, 0) := ⟨_, rfl⟩
    rw [← ep] at hp e2
    have hx := hk p (List.mem_of_getElem? hp)
    have hpM := hM p (List.mem_of_getElem? hp)
    rw [e2]
    rcases fate_case o hk hR hp with ⟨τ, y, g, hl, e⟩ | ⟨ha, hw, e⟩ | ⟨ha, hw, e⟩
    · rw [e]
      have := lost_le o hk hl (M := M) fun q hq => by have := hM q hq; omega
      show (if (p.1 : Int) < τ then (τ : Int) else 0) ≤ _
      split <;> omega
    · rw [e]
      have := frst_tot o hx p.1 (Nat.le_refl (path N p.2).length)
      show (if (p.1 : Int) < frst N p.1 p.2 (path N p.2).length then frst N p.1 p.2 (path N p.2).length else 0) ≤ _
      split <;> omega
    · rw [e]
      have := frst_tot o hx p.1 (Nat.le_of_lt (cut_lt hw))
      show frst N p.1 p.2 (cutN N p.2) ≤ _
      omega
theorem again_pos (o : NetOk N) (hk : KdsOk N ks) {R : List C4} (hR : Losses N ks R) : 0 < againF N (fatesR N ks R) := by
  have key : ∀ (L : List Fate) (m : Nat), 0 < m → (∀ x t, Fate.goes x t ∈ L → 0 < (lapOf N x).toNat) → 0 < L.foldl (againS N) m := fun L => by
    induction L with
    | nil => exact fun m h _ => h
    | cons F L ih =>
      intro m h hL
      rw [List.foldl_cons]
      refine ih _ ?_ fun x t q => hL x t (List.mem_cons_of_mem _ q)
      cases F with
      | goes x t => exact Nat.lcm_pos h (hL x t List.mem_cons_self)
      | lost t x g => exact h
      | ended t x => exact h
  refine key _ 1 (by decide) fun x t' hg => ?_
  obtain ⟨f, hf, e⟩ := List.getElem_of_mem hg
  have hf' : f < ks.length := by rw [← fatesR_len (N := N) R]; exact hf
  have hp := getD_lt hf'
  have hx := hk _ (List.mem_of_getElem? hp)
  have eD : (fatesR N ks R).getD f (.ended 0 0) = .goes x t' := by
    rw [List.getD_eq_getElem?_getD, List.getElem?_eq_getElem hf, e]; rfl
  rcases fate_case o hk hR hp with ⟨τ, y, g, hl, e⟩ | ⟨ha, hw, e⟩ | ⟨ha, hw, e⟩
  · rw [eD] at e; cases e
  · rw [eD] at e; cases e
  · rw [eD] at e
    cases e
    have h1 := (lap_min o hx hw).2
    have h2 := lap_pos o hx hw
    omega
/-- what burns at rest goes on for ever -/
theorem rest_alive (o : NetOk N) (hk : KdsOk N ks) {R : List C4} (hR : Losses N ks R) {first : Int} (h : RestOk N ks R first) {t f x : Nat} {a : Int} (ht : first ≤ t) (hb : Brn N ks t f x a) : (∀ u, Alive N ks f u) ∧ ∀ T, ∃ u, T ≤ u ∧ Brn N ks u f x a := by
  have hA := again_pos o hk hR
  have hj : ∀ j, Brn N ks (t + j * againF N (fatesR N ks R)) f x a := fun j => by
    have := h.per o hk hR (t := t) (L := j * againF N (fatesR N ks R)) ht (Nat.dvd_mul_left _ _)
    exact ((same_iff o hk).mp this f x a).mp hb
  have hle : ∀ j, j ≤ t + j * againF N (fatesR N ks R) := fun j => by
    have := Nat.le_mul_of_pos_right j hA
    omega
  exact ⟨fun u => (hj u).2.2.2.mono (by have := hle u; omega), fun T => ⟨_, hle T, hj T⟩⟩
theorem lamp_off (o : NetOk N) (hk : KdsOk N ks) {R : List C4} (hR : Losses N ks R) {first : Int} (h : RestOk N ks R first) {x : Nat} (hx : x < N.length) (hA : wayA N x ≠ []) {t : Nat} (ht : first ≤ t) : ¬ LitN N ks x t := fun ⟨f, a, hb⟩ => by
  obtain ⟨B, _, hB2⟩ := lost_bound o hk
  obtain ⟨_, hT⟩ := rest_alive o hk hR h ht hb
  obtain ⟨u, hu, hbu⟩ := hT B
  obtain ⟨p, hp, hon⟩ := hbu.2.2.1
  have hm := List.mem_of_getElem? hp
  have hy := hk p hm
  have := hB2 p hm
  obtain ⟨j, lp, hj, hc, _⟩ := onWay_late o hy hon (t := (u : Int)) (by omega) (by have := hbu.1; have := hbu.2.1; omega)
  have hr : x ∈ wayR N p.2 := wayR_get.mpr ⟨j, hc, hj⟩
  exact hA (root_ahead o hx ((wayR_own o hy (List.mem_of_getElem? hj)).mp hr))
end
end Em

namespace Qt
open PySem PySem.Spec PyProof.Rows L2
theorem vals_ints_of : ∀ (ns : List Int) (us : List Value), us.length = ns.length → (∀ (i : Nat) (v : Value), us[i]? = some v → ∃ n t, ns[i]? = some n ∧ v = Value.int n t) → Vals (ns.map V.int) us
  | [], [], _, _ => .nil
  | [], _ :: _, h, _ => by cases h
  | _ :: _, [], h, _ => by cases h
  | n :: ns, u :: us, h, k => by
    obtain ⟨m, t, e1, e2⟩ := k 0 u rfl
    cases e1
    exact .cons ⟨t, e2⟩ (vals_ints_of ns us (by simpa using h) fun i v e => k (i + 1) v (by simpa using e))
section
variable {X : Cx}
def tSortQ (X : Cx) (P : Addr) (k : Nat) (scope : Scope) (x : Str) (elt : Expr) (te : TE) : TE := fun σ H Q => te σ H fun v H1 => ∃ (ad : Addr) (xs bs : List V) (caps : Nm), v = .ref ad ∧ (SqT X.K H1 ad xs ∨ SqL X.K H1 ad xs) ∧
  GxR.TabG H1 P ∧ Caps X scope x σ caps ∧ EltV X (3 * k) scope x elt caps (wipe H1 P) xs bs ∧ ∃ ns : List Int, bs = ns.map V.int ∧ ns.length ≤ sizeLine ∧ ∀ H2 p (ns' : List Int), GxR.Tabbed P H1 H2 → ns'.Perm ns → ns'.Pairwise (· ≤ ·) → H2 p = none → Q (.ref p) (upd H2 p (.lst (ns'.map V.int)))
theorem pe_sortQ {c P : Addr} {elt iter : Expr} {x : Str} {px p pos gpos : Pos} {scope : Scope} {te : TE} {k : Nat}
    (rm : Room (k + 2) X.A) (hg : Gl X "sorted") (hm : X.mg "sorted" = none) (TB : GxR.TabB X.base X.mg c P) (hcode : X.env.code = .ref c) (GS : GxR.GenS X.env scope x) (hi : PE X iter te)
    (hs : ∀ v, genFold iter X.env v = pure v) (hb : bootBuiltins "sorted" = some (.builtin "sorted") := by decide +kernel)
    (he : starEach [.GeneratorExp elt [⟨.Name x px, iter, [], 0⟩] scope gpos] X.env = (false, eval (.GeneratorExp elt [⟨.Name x px, iter, [], 0⟩] scope gpos) X.env) :: starEach [] X.env := by rfl) :
    PE X (.Call (.Name "sorted" p) [.GeneratorExp elt [⟨.Name x px, iter, [], 0⟩] scope gpos] [] pos) (tSortQ X P k scope x elt te) := by
  refine ⟨fun pins s σ H Q I h => ?_⟩
  refine wpAny_Call_Name_kw (ld_blt I hg hm hb (PyProof.Rows.callWith_builtin1 ?_ he (by rfl)))
  rw [he]
  show wpAny _ X.A (spliced ((false, eval (.GeneratorExp elt [⟨.Name x px, iter, [], 0⟩] scope gpos) X.env) :: backTo pos (starEach [] X.env))) _ X.xe s
  refine Calls.spliced_cons (gen_madeW (R := fun xs bs H1 => ∃ ns : List Int, bs = ns.map V.int ∧ ns.length ≤ sizeLine ∧ ∀ H2 p (ns' : List Int), GxR.Tabbed P H1 H2 → ns'.Perm ns → ns'.Pairwise (· ≤ ·) → H2 p = none → Q (.ref p) (upd H2 p (.lst (ns'.map V.int)))) rm TB hcode GS hi hs I h fun xs bs H1 g s5 hR hG => Calls.spliced_nil ?_)
  obtain ⟨ns, rfl, hsz, hR⟩ := hR
  obtain ⟨fp, wr, G, F, St, W, hst, hT, hgf, hF, hfp, hI⟩ := hG
  refine Calls.call_function_entry kind_sorted plain_sorted entry_sorted (args_sorted1 _) ?_
  unfold Builtin.«sorted»
  refine wpAny_bind (m := checkCount "sorted" 1 1 _) (wpAny_pure ?_)
  refine wpAny_bind (wpAny_collect_gen W.in4_2 hT hst hfp hgf (fun s' acc hmv hacc => ?_) (by rw [List.length_map]; exact hsz))
  obtain ⟨H2, hT2, J⟩ := hI s' hmv
  have hlen : acc.toList.length = ns.length := by rw [Array.length_toList, hacc.1, List.length_map]
  have hv : ∀ (i : Nat) (v : Value), acc.toList[i]? = some v → ∃ n t, ns[i]? = some n ∧ v = Value.int n t := fun i v e => by
    obtain ⟨b, b1, b2⟩ := hF i v (hacc.2 i v (by rw [← Array.getElem?_toList]; exact e))
    rw [List.getElem?_map] at b1
    cases q : ns[i]? with
    | none => rw [q] at b1; cases b1
    | some n =>
      rw [q] at b1
      cases b1
      obtain ⟨t, rfl⟩ := b2
      exact ⟨n, t, rfl, rfl⟩
  have rv : Vals (ns.map V.int) acc.toList := vals_ints_of ns _ hlen hv
  have hi2 := rv.ints
  have hz : acc.toList.length ≤ sizeLine := by rw [hlen]; exact hsz
  refine wpAny_bind (wpAny_newList ?_ hz)
  have hoL : (s'.heap.push (seqObj "list" acc.toList.toArray 0)).get? s'.heap.objs.size = some (seqObj "list" acc.toList.toArray 0) := Heap.get?_push_size _ rfl
  refine wpAny_bind (wpAny_holding (wpAny_call_entry slot_list_sort ⟨_, hoL, rfl⟩ entry_list_sort (SrtO.list_sort_ord SrtO.swo_int hoL hz (fun h2 => SrtO.ints_sortable hi2 h2) fun out h1 h2 => ⟨_, rfl, ?_⟩) (args_list_sort _)))
  refine wpAny_pure ⟨_, rfl, ?_⟩
  obtain ⟨k1, k2, k3⟩ := SrtO.ints_out hi2 h1 h2
  obtain ⟨ep, he'⟩ := PyProof.Rows.sortedHeap_at (vs := acc.toList) (out := out.toArray) hoL
  have hl2 : ((out.map SrtO.iv).map V.int).length ≤ sizeLine := by
    rw [List.length_map, k2.length_eq]
    exact hsz
  refine ⟨.ref _, upd H2 s'.heap.objs.size (.lst ((out.map SrtO.iv).map V.int)), J.laid (t' := s'.toks) (fun b u e => ?_) (Nat.le_refl _) ⟨hl2, out, ep, vals_of_ints k1, he'⟩, rfl, hR H2 _ _ hT2 k2 k3 (J.hok.fresh (Nat.le_refl _))⟩
  have hb := Heap.lt_size e
  rw [PyProof.Rows.sortedHeap_old (Nat.ne_of_lt hb) (by rw [size_push']; exact Nat.lt_succ_of_lt hb)]
  exact Heap.get?_push_of_some _ e
end
section
variable {c : Qc} {k : Nat} {env : Env} {N : Nm} {a b : Expr} {pos : Pos}
theorem q_mod {i j : Int} (ha : QE c k env N a (.int i)) (hb : QE c k env N b (.int j)) (hj : 0 < j) : QE c k env N (.BinOp a .Mod b pos) (.int (i % j)) := by
  intro A E Q s r i0 h
  refine wpAny_BinOp (ha A E _ s r i0 fun u g tk ru up => hb A E _ _ r (i0.more up) fun u2 g2 tk2 r2 up2 => ?_)
  obtain ⟨t1, rfl⟩ := ru
  obtain ⟨t2, rfl⟩ := r2
  exact mod_int' (by omega) (by rw [Int.fmod_eq_emod_of_nonneg i (by omega)]; exact h _ g2 _ ⟨_, rfl⟩ (up.tr up2))
end
end Qt

namespace Em
open PySem PySem.Spec PyProof.Rows L2 Qt
theorem wiped_lst {H : Hp} {P a : Addr} {xs : List V} (t : GxR.TabG H P) (h : H a = some (.lst xs)) : Qt.wipe H P a = some (.lst xs) :=
  wipe_at (fun z => by obtain ⟨ps, e, _⟩ := t; rw [z, e] at h; cases h) h
theorem Kp.free0 {S : List Addr} {H H1 : Hp} {b : Addr} (k : Kp S H H1) (h : H1 b = none) : H b = none := Classical.byContradiction fun z => k.tr_ b z h
theorem ints_eqv : ∀ xs ys : List Int, PyData.eqvAll (xs.map PyData.int) (ys.map PyData.int) = decide (xs = ys)
  | [], [] => rfl
  | [], _ :: _ => by rw [decide_eq_false (by simp)]; rfl
  | _ :: _, [] => by rw [decide_eq_false (by simp)]; rfl
  | x :: xs, y :: ys => by
    show ((x == y) && PyData.eqvAll (xs.map PyData.int) (ys.map PyData.int)) = _
    rw [ints_eqv xs ys]
    by_cases e : x = y
    · subst e
      rw [beq_self_eq_true, Bool.true_and]
      by_cases e2 : xs = ys
      · rw [decide_eq_true e2, decide_eq_true (by rw [e2])]
      · rw [decide_eq_false e2, decide_eq_false (by simpa using e2)]
    · rw [beq_false_of_ne e, Bool.false_and, decide_eq_false (fun h => e (List.cons.inj h).1)]
def srtZ (l : List Int) : List Int := l.mergeSort (fun a b => decide (a ≤ b))
theorem srtZ_of {a b : List Int} (h : a.Perm b) (ha : a.Pairwise (· ≤ ·)) : a = srtZ b := PySem.W.os_sorted_mergeSort h ha
theorem srtZ_len (a : List Int) : (srtZ a).length = a.length := List.length_mergeSort a
def diffZ : List Int → List Int
  | a :: b :: r => (b - a) :: diffZ (b :: r)
  | _ => []
theorem diffZ_len : ∀ l : List Int, (diffZ l).length = l.length - 1
  | [] => rfl
  | [_] => rfl
  | a :: b :: r => by
    show (diffZ (b :: r)).length + 1 = _
    rw [diffZ_len (b :: r)]
    rfl
theorem diffZ_get : ∀ (l : List Int) (i : Nat) (a b : Int), l[i]? = some a → l[i + 1]? = some b → (diffZ l)[i]? = some (b - a)
  | [], _, _, _, h, _ => by cases h
  | [_], 0, _, _, _, h => by cases h
  | [_], _ + 1, _, _, h, _ => by cases h
  | x :: y :: r, 0, a, b, h, k => by
    cases h
    cases k
    rfl
  | x :: y :: r, i + 1, a, b, h, k => diffZ_get (y :: r) i a b h k
/-- the gaps of flames that light a lamp at these beats, once round -/
def gapsZ (lap : Int) : List Int → List Int
  | [] => []
  | b :: bs => diffZ (srtZ ((b :: bs).map fun x => (x - b) % lap) ++ [lap])
/-- behind how many beats the gaps come again -/
def rotZ (gs : List Int) (m : Nat) : Bool := decide (gs.drop (m + 1) ++ gs.take (m + 1) = gs)
def roundZ (gs : List Int) : Int := match (List.range gs.length).find? (rotZ gs) with
  | some m => (gs.take (m + 1)).sum
  | none => 1
theorem srtZ_perm (a : List Int) : (srtZ a).Perm a := List.mergeSort_perm a _
theorem srtZ_pw (a : List Int) : (srtZ a).Pairwise (· ≤ ·) := by
  have := List.pairwise_mergeSort (le := fun a b : Int => decide (a ≤ b)) (fun a b c h1 h2 => by simp only [decide_eq_true_eq] at *; omega) (fun a b => by simp only [Bool.or_eq_true, decide_eq_true_eq]; omega) a
  exact this.imp fun h => of_decide_eq_true h
theorem diffZ_nonneg : ∀ l : List Int, l.Pairwise (· ≤ ·) → ∀ g ∈ diffZ l, 0 ≤ g
  | [], _, _, h => by cases h
  | [_], _, _, h => by cases h
  | a :: b :: r, hp, g, h => by
    rcases List.mem_cons.mp h with e | h
    · have := (List.pairwise_cons.mp hp).1 b List.mem_cons_self
      omega
    · exact diffZ_nonneg (b :: r) (List.pairwise_cons.mp hp).2 g h
theorem diffZ_sum : ∀ (l : List Int) (a z : Int), (diffZ (a :: l ++ [z])).sum = z - a
  | [], a, z => by show (z - a) + 0 = z - a; omega
  | b :: l, a, z => by
    show (b - a) + (diffZ (b :: l ++ [z])).sum = z - a
    rw [diffZ_sum l b z]
    omega
theorem srtZ_cons {l : List Int} (h : l ≠ []) : ∃ a r, srtZ l = a :: r ∧ (∀ x ∈ l, a ≤ x) ∧ a ∈ l := by
  cases e : srtZ l with
  | nil => exact absurd (List.length_eq_zero_iff.mp (by rw [← srtZ_len, e]; rfl)) h
  | cons a r =>
    have hp := srtZ_pw l
    have hm := srtZ_perm l
    rw [e] at hp hm
    refine ⟨a, r, rfl, fun x hx => ?_, hm.mem_iff.mp List.mem_cons_self⟩
    rcases List.mem_cons.mp (hm.mem_iff.mpr hx) with q | q
    · rw [q]; exact Int.le_refl _
    · exact (List.pairwise_cons.mp hp).1 x q
theorem gapsZ_len (lap : Int) : ∀ bs : List Int, (gapsZ lap bs).length = bs.length
  | [] => rfl
  | b :: bs => by
    show (diffZ _).length = _
    rw [diffZ_len, List.length_append, srtZ_len, List.length_map]
    rfl
/-- the sorted gaps begin with none -/
theorem srt_mod {lap : Int} (h : 0 < lap) (b : Int) (bs : List Int) : ∃ r, srtZ ((b :: bs).map fun x => (x - b) % lap) = 0 :: r ∧ (0 :: r ++ [lap]).Pairwise (· ≤ ·) := by
  obtain ⟨a, r, e, h1, h2⟩ := srtZ_cons (l := (b :: bs).map fun x => (x - b) % lap) (by simp)
  have hr : ∀ x ∈ (b :: bs).map (fun x => (x - b) % lap), 0 ≤ x ∧ x < lap := fun x hx => by
    obtain ⟨y, _, rfl⟩ := List.mem_map.mp hx
    exact ⟨Int.emod_nonneg _ (by omega), Int.emod_lt_of_pos _ h⟩
  have ha : a = 0 := by
    have := h1 0 (List.mem_map.mpr ⟨b, List.mem_cons_self, by rw [Int.sub_self, Int.zero_emod]⟩)
    have := (hr a h2).1
    omega
  subst ha
  refine ⟨r, e, ?_⟩
  have hp := srtZ_pw ((b :: bs).map fun x => (x - b) % lap)
  have hm := srtZ_perm ((b :: bs).map fun x => (x - b) % lap)
  rw [e] at hp hm
  refine List.pairwise_append.mpr ⟨hp, List.pairwise_singleton _ _, fun x hx y hy => ?_⟩
  rw [List.mem_singleton.mp hy]
  have := (hr x (hm.mem_iff.mp hx)).2
  omega
theorem gapsZ_nonneg {lap : Int} (h : 0 < lap) : ∀ bs : List Int, ∀ g ∈ gapsZ lap bs, 0 ≤ g
  | [], _, hg => by cases hg
  | b :: bs, g, hg => by
    obtain ⟨r, e, hp⟩ := srt_mod h b bs
    have hg : g ∈ diffZ (srtZ ((b :: bs).map fun x => (x - b) % lap) ++ [lap]) := hg
    rw [e] at hg
    exact diffZ_nonneg _ hp g hg
theorem gapsZ_sum {lap : Int} (h : 0 < lap) {bs : List Int} (hb : bs ≠ []) : (gapsZ lap bs).sum = lap := by
  cases bs with
  | nil => exact absurd rfl hb
  | cons b bs =>
    obtain ⟨r, e, hp⟩ := srt_mod h b bs
    show (diffZ (srtZ ((b :: bs).map fun x => (x - b) % lap) ++ [lap])).sum = lap
    rw [e, diffZ_sum]
    omega
theorem sum_take : ∀ (l : List Int) (n : Nat), (∀ g ∈ l, 0 ≤ g) → 0 ≤ (l.take n).sum ∧ (l.take n).sum ≤ l.sum
  | [], n, _ => by rw [List.take_nil]; exact ⟨Int.le_refl _, Int.le_refl _⟩
  | x :: l, 0, h => by
    have h1 := h x List.mem_cons_self
    have := sum_take l 0 fun g hg => h g (List.mem_cons_of_mem _ hg)
    rw [List.take_zero] at this ⊢
    exact ⟨Int.le_refl _, by rw [List.sum_cons]; have := this.2; simp only [List.sum_nil] at this ⊢; omega⟩
  | x :: l, n + 1, h => by
    have h1 := h x List.mem_cons_self
    have := sum_take l n fun g hg => h g (List.mem_cons_of_mem _ hg)
    rw [List.take_succ_cons, List.sum_cons, List.sum_cons]
    omega
theorem find_range {p : Nat → Bool} {n i : Nat} (hi : i < n) (h : p i = true) (k : ∀ m, m < i → p m = false) : (List.range n).find? p = some i :=
  List.find?_range_eq_some.mpr ⟨h, List.mem_range.mpr hi, fun m hm => by rw [k m hm]; rfl⟩
theorem roundZ_at {gs : List Int} {i : Nat} (hi : i < gs.length) (h : rotZ gs i = true) (k : ∀ m, m < i → rotZ gs m = false) : roundZ gs = (gs.take (i + 1)).sum := by
  unfold roundZ
  rw [find_range hi h k]
theorem roundZ_no {gs : List Int} (k : ∀ m, m < gs.length → rotZ gs m = false) : roundZ gs = 1 := by
  unfold roundZ
  rw [List.find?_eq_none.mpr fun m hm => by rw [k m (List.mem_range.mp hm)]; exact Bool.false_ne_true]
theorem roundZ_bd {lap : Int} (h : 0 < lap) (bs : List Int) : 0 ≤ roundZ (gapsZ lap bs) ∧ roundZ (gapsZ lap bs) ≤ lap := by
  unfold roundZ
  cases bs with
  | nil => show 0 ≤ (1 : Int) ∧ (1 : Int) ≤ lap; omega
  | cons b bs =>
    split
    · rename_i m _
      have := sum_take (gapsZ lap (b :: bs)) (m + 1) (gapsZ_nonneg h _)
      rw [gapsZ_sum h (by simp)] at this
      exact this
    · omega
theorem wayR_len {N : Net} (o : NetOk N) {x : Nat} (hx : x < N.length) : (wayR N x).length ≤ N.length := by
  have := sub_lenN (wayR N x) (List.range N.length) (wayR_nd o hx) fun y hy => List.mem_range.mpr (way_sub o hx y hy)
  rwa [List.length_range] at this
def beatsX (N : Net) (FS : List Fate) (x : Nat) : List Int := FS.filterMap (beatE (minN (wayR N x)))
def rndS (N : Net) (FS : List Fate) (m x : Nat) : Nat := Nat.lcm m (roundZ (gapsZ (lapOf N x) (beatsX N FS x))).toNat
def roundN (N : Net) (FS : List Fate) : Nat := (ringsL N N.length).foldl (rndS N FS) 1
end Em

namespace Em
open PySem PySem.Spec PyProof.Rows L2 Qt
/-- the lightings' beats, counted from the first one on -/
structure Laps (L : Int) (S : List Int) : Prop where
  pos : 0 < L
  ne : S ≠ []
  lt : ∀ x ∈ S, x < L
  up : S.Pairwise (· < ·)
  zero : S[0]? = some 0
def cL (L : Int) (S : List Int) (i : Nat) : Int := L * ((i / S.length : Nat) : Int) + S.getD (i % S.length) 0
section
variable {L : Int} {S : List Int} (h : Laps L S)
include h
theorem Laps.n : 0 < S.length := List.length_pos_iff.mpr h.ne
theorem Laps.get {i : Nat} (hi : i < S.length) : S[i]? = some (S.getD i 0) := by
  rw [List.getD_eq_getElem?_getD, List.getElem?_eq_getElem hi]
  rfl
theorem Laps.mem {i : Nat} (hi : i < S.length) : S.getD i 0 ∈ S := List.mem_of_getElem? (h.get hi)
theorem Laps.mono {i j : Nat} (hij : i < j) (hj : j < S.length) : S.getD i 0 < S.getD j 0 := by
  have e1 := h.get (i := i) (by omega)
  have e2 := h.get hj
  obtain ⟨hi', q1⟩ := List.getElem?_eq_some_iff.mp e1
  obtain ⟨hj', q2⟩ := List.getElem?_eq_some_iff.mp e2
  rw [← q1, ← q2]
  exact List.pairwise_iff_getElem.mp h.up i j hi' hj' hij
theorem Laps.s0 : S.getD 0 0 = 0 := by
  rw [List.getD_eq_getElem?_getD, h.zero]
  rfl
theorem Laps.nn {i : Nat} (hi : i < S.length) : 0 ≤ S.getD i 0 := by
  rcases Nat.eq_zero_or_pos i with e | e
  · rw [e, h.s0]; exact Int.le_refl _
  · have := h.mono e hi
    rw [h.s0] at this
    omega
theorem Laps.c0 : cL L S 0 = 0 := by
  unfold cL
  rw [Nat.zero_div, Nat.zero_mod, h.s0]
  simp
theorem Laps.cn (i : Nat) : cL L S (i + S.length) = cL L S i + L := by
  unfold cL
  rw [Nat.add_div_right _ h.n, Nat.add_mod_right, Int.natCast_add, Int.mul_add]
  omega
theorem Laps.clt {i : Nat} (hi : i < S.length) : cL L S i = S.getD i 0 := by
  unfold cL
  rw [Nat.div_eq_of_lt hi, Nat.mod_eq_of_lt hi]
  simp
theorem Laps.cstep (i : Nat) : cL L S i < cL L S (i + 1) := by
  unfold cL
  have hm := Nat.mod_lt i h.n
  rcases Nat.lt_or_ge (i % S.length + 1) S.length with q | q
  · have e1 : (i + 1) % S.length = i % S.length + 1 := by
      rw [Nat.add_mod, Nat.mod_eq_of_lt (a := 1) (by omega), Nat.mod_eq_of_lt q]
    have e2 : (i + 1) / S.length = i / S.length := by
      have h1 := Nat.div_add_mod (i + 1) S.length
      have h2 := Nat.div_add_mod i S.length
      have : S.length * ((i + 1) / S.length) = S.length * (i / S.length) := by omega
      exact Nat.eq_of_mul_eq_mul_left h.n this
    rw [e1, e2]
    have := h.mono (Nat.lt_succ_self (i % S.length)) q
    have e3 : (i % S.length).succ = i % S.length + 1 := rfl
    rw [e3] at this
    omega
  · have hl : i % S.length + 1 = S.length := by omega
    have e0 : i + 1 = (i / S.length + 1) * S.length := by
      have h2 := Nat.div_add_mod i S.length
      rw [Nat.add_mul, Nat.one_mul, Nat.mul_comm]
      omega
    have e1 : (i + 1) % S.length = 0 := by rw [e0]; exact Nat.mul_mod_left _ _
    have e2 : (i + 1) / S.length = i / S.length + 1 := by rw [e0]; exact Nat.mul_div_cancel _ h.n
    rw [e1, e2, h.s0, Int.natCast_add, Int.mul_add]
    have := h.lt _ (h.mem hm)
    omega
theorem Laps.cmono : ∀ {i j : Nat}, i < j → cL L S i < cL L S j := fun {i j} hij => by
  obtain ⟨k, rfl⟩ : ∃ k, j = i + 1 + k := ⟨j - i - 1, by omega⟩
  induction k with
  | zero => exact h.cstep i
  | succ k ih => exact Int.lt_trans (ih (by omega)) (h.cstep _)
theorem Laps.cle {i j : Nat} (hij : cL L S i < cL L S j) : i < j := by
  rcases Nat.lt_trichotomy i j with q | q | q
  · exact q
  · rw [q] at hij; omega
  · have := h.cmono q; omega
theorem Laps.cnn (i : Nat) : 0 ≤ cL L S i := by
  rcases Nat.eq_zero_or_pos i with e | e
  · rw [e, h.c0]; exact Int.le_refl _
  · have := h.cmono e
    rw [h.c0] at this
    omega
theorem Laps.full : cL L S S.length = L := by
  have := h.cn 0
  rw [Nat.zero_add, h.c0] at this
  omega
end
/-- lit so many beats behind the first lighting -/
def Lit0 (L : Int) (S : List Int) (d : Int) : Prop := ∃ i : Nat, d = cL L S i
section
variable {L : Int} {S : List Int} (h : Laps L S)
include h
theorem Laps.lap1 {d : Int} (hd : 0 ≤ d) : Lit0 L S (d + L) ↔ Lit0 L S d := by
  constructor
  · rintro ⟨i, e⟩
    have hn : S.length ≤ i := by
      rcases Nat.lt_or_ge i S.length with q | q
      · have := h.cmono q
        rw [h.full] at this
        omega
      · exact q
    obtain ⟨k, rfl⟩ : ∃ k, i = k + S.length := ⟨i - S.length, by omega⟩
    rw [h.cn] at e
    exact ⟨k, by omega⟩
  · rintro ⟨i, e⟩
    exact ⟨i + S.length, by rw [h.cn]; omega⟩
theorem Laps.lapk {d : Int} (hd : 0 ≤ d) : ∀ k : Nat, Lit0 L S (d + k * L) ↔ Lit0 L S d
  | 0 => by simp
  | k + 1 => by
    rw [show d + ((k + 1 : Nat) : Int) * L = (d + k * L) + L by rw [Int.natCast_add, Int.add_mul]; simp; omega]
    exact (h.lap1 (Int.add_nonneg hd (Int.mul_nonneg (by omega) (Int.le_of_lt h.pos)))).trans (lapk hd k)
/-- it comes again behind m beats -/
def Comes (L : Int) (S : List Int) (m : Int) : Prop := ∀ d, 0 ≤ d → (Lit0 L S d ↔ Lit0 L S (d + m))
theorem Laps.c_of_g {r : Nat} (hg : ∀ i, cL L S (i + r + 1) - cL L S (i + r) = cL L S (i + 1) - cL L S i) : ∀ i, cL L S (i + r) = cL L S i + cL L S r
  | 0 => by rw [Nat.zero_add, h.c0]; omega
  | i + 1 => by
    have := c_of_g hg i
    have := hg i
    rw [show i + 1 + r = i + r + 1 by omega]
    omega
theorem Laps.comes_of {r : Nat} (hc : ∀ i, cL L S (i + r) = cL L S i + cL L S r) : Comes L S (cL L S r) := by
  have fw : ∀ d, Lit0 L S d → Lit0 L S (d + cL L S r) := fun d ⟨i, e⟩ => ⟨i + r, by rw [hc, e]⟩
  have fk : ∀ (k : Nat) d, Lit0 L S d → Lit0 L S (d + k * cL L S r) := fun k => by
    induction k with
    | zero => intro d hd; simpa using hd
    | succ k ih =>
      intro d hd
      have := fw _ (ih d hd)
      rwa [show d + ((k + 1 : Nat) : Int) * cL L S r = d + k * cL L S r + cL L S r by rw [Int.natCast_add, Int.add_mul]; simp; omega]
  have hr := h.cnn r
  intro d hd
  refine ⟨fw d, fun q => ?_⟩
  obtain ⟨l, el⟩ : ∃ l : Nat, L = l + 1 := ⟨(L - 1).toNat, by have := h.pos; omega⟩
  obtain ⟨z, ez⟩ := Int.eq_ofNat_of_zero_le hr
  have h2 := fk l _ q
  have e : d + cL L S r + (l : Int) * cL L S r = d + (z : Int) * L := by
    rw [ez, el, Int.mul_add, Int.mul_one, Int.mul_comm (l : Int)]
    omega
  rw [e] at h2
  exact (h.lapk hd z).mp h2
theorem Laps.comes_add {m k : Int} (hm : 0 ≤ m) (a : Comes L S m) (b : Comes L S k) : Comes L S (m + k) := fun d hd => by
  rw [← Int.add_assoc]
  exact (a d hd).trans (b _ (by omega))
theorem Laps.comes_mul {m : Int} (hm : 0 ≤ m) (a : Comes L S m) : ∀ k : Nat, Comes L S (k * m)
  | 0 => fun d hd => by simp
  | k + 1 => by
    rw [show ((k + 1 : Nat) : Int) * m = k * m + m by rw [Int.natCast_add, Int.add_mul]; simp]
    exact h.comes_add (Int.mul_nonneg (by omega) hm) (comes_mul hm a k) a
theorem Laps.comes_sub {m k : Int} (hm : 0 ≤ m) (a : Comes L S (m + k)) (b : Comes L S k) : Comes L S m := fun d hd => by
  refine (a d hd).trans ?_
  rw [← Int.add_assoc]
  exact (b (d + m) (by omega)).symm
/-- what comes again is so many gaps on -/
theorem Laps.step_of {m : Int} (hm : 0 < m) (a : Comes L S m) : ∃ j : Nat, 0 < j ∧ m = cL L S j ∧ ∀ i, cL L S (i + j) = cL L S i + m := by
  obtain ⟨j, ej⟩ := (a 0 (Int.le_refl _)).mp ⟨0, h.c0.symm⟩
  rw [Int.zero_add] at ej
  have hj : 0 < j := by
    rcases Nat.eq_zero_or_pos j with e | e
    · rw [e, h.c0] at ej; omega
    · exact e
  refine ⟨j, hj, ej, fun i => ?_⟩
  induction i with
  | zero => rw [Nat.zero_add, h.c0]; omega
  | succ i ih =>
    have s1 := h.cstep i
    have s2 := h.cstep (i + j)
    rw [show i + 1 + j = i + j + 1 by omega]
    obtain ⟨k, ek⟩ := (a _ (h.cnn (i + 1))).mp ⟨i + 1, rfl⟩
    have h1 : i + j < k := h.cle (by omega)
    have h2 : cL L S (i + j + 1) ≤ cL L S k := by
      rcases Nat.lt_or_ge (i + j + 1) k with q | q
      · exact Int.le_of_lt (h.cmono q)
      · rw [show k = i + j + 1 by omega]; exact Int.le_refl _
    have c0 := h.cnn i
    obtain ⟨k', ek'⟩ := (a (cL L S (i + j + 1) - m) (by omega)).mpr ⟨i + j + 1, by omega⟩
    have h3 : i < k' := h.cle (by omega)
    have h4 : cL L S (i + 1) ≤ cL L S k' := by
      rcases Nat.lt_or_ge (i + 1) k' with q | q
      · exact Int.le_of_lt (h.cmono q)
      · rw [show k' = i + 1 by omega]; exact Int.le_refl _
    omega
def gL (L : Int) (S : List Int) (i : Nat) : Int := cL L S (i + 1) - cL L S i
theorem Laps.gn (i : Nat) : gL L S (i + S.length) = gL L S i := by
  unfold gL
  rw [show i + S.length + 1 = i + 1 + S.length by omega, h.cn, h.cn]
  omega
theorem Laps.gk (i : Nat) : ∀ k : Nat, gL L S (i + S.length * k) = gL L S i
  | 0 => by rw [Nat.mul_zero, Nat.add_zero]
  | k + 1 => by rw [Nat.mul_add, Nat.mul_one, ← Nat.add_assoc, h.gn, gk i k]
theorem Laps.at_ {i : Nat} (hi : i ≤ S.length) : (S ++ [L])[i]? = some (cL L S i) := by
  rcases Nat.lt_or_ge i S.length with q | q
  · rw [List.getElem?_append_left q, h.get q, h.clt q]
  · obtain rfl : i = S.length := by omega
    rw [List.getElem?_append_right (Nat.le_refl _), Nat.sub_self, h.full]
    rfl
theorem Laps.glen : (diffZ (S ++ [L])).length = S.length := by
  rw [diffZ_len, List.length_append]
  rfl
theorem Laps.gap {i : Nat} (hi : i < S.length) : (diffZ (S ++ [L]))[i]? = some (gL L S i) :=
  diffZ_get _ i _ _ (h.at_ (by omega)) (h.at_ (by omega))
theorem Laps.sum : ∀ k : Nat, k ≤ S.length → ((diffZ (S ++ [L])).take k).sum = cL L S k
  | 0, _ => by rw [List.take_zero, h.c0]; rfl
  | k + 1, hk => by
    rw [List.take_add_one, h.gap (by omega), List.sum_append, Laps.sum k (by omega)]
    show cL L S k + (gL L S k + 0) = _
    unfold gL
    omega
theorem Laps.rot_get {r i : Nat} (hr : r ≤ S.length) (hi : i < S.length) : ((diffZ (S ++ [L])).drop r ++ (diffZ (S ++ [L])).take r)[i]? = some (gL L S (i + r)) := by
  have hl := h.glen
  rcases Nat.lt_or_ge (i + r) S.length with q | q
  · rw [List.getElem?_append_left (by rw [List.length_drop, hl]; omega), List.getElem?_drop, Nat.add_comm r i, h.gap q]
  · rw [List.getElem?_append_right (by rw [List.length_drop, hl]; omega), List.length_drop, hl, List.getElem?_take_of_lt (by omega), h.gap (by omega)]
    have := h.gn (i - (S.length - r))
    rw [← this, show i - (S.length - r) + S.length = i + r by omega]
theorem Laps.rot_iff {r : Nat} (hr : r ≤ S.length) : (diffZ (S ++ [L])).drop r ++ (diffZ (S ++ [L])).take r = diffZ (S ++ [L]) ↔ ∀ i, gL L S (i + r) = gL L S i := by
  have hl := h.glen
  constructor
  · intro e i
    have hm := Nat.mod_lt i h.n
    have h1 := h.rot_get hr hm
    rw [e, h.gap hm] at h1
    have h1 := Option.some.inj h1
    have h2 := Nat.mod_add_div i S.length
    have h3 := h.gk (i % S.length) (i / S.length)
    have h4 := h.gk (i % S.length + r) (i / S.length)
    rw [h2] at h3
    rw [show i % S.length + r + S.length * (i / S.length) = i + r by omega] at h4
    rw [h3, h4, h1]
  · intro e
    refine List.ext_getElem? fun i => ?_
    rcases Nat.lt_or_ge i S.length with q | q
    · rw [h.rot_get hr q, h.gap q, e]
    · rw [List.getElem?_eq_none (by rw [List.length_append, List.length_drop, List.length_take, hl]; omega), List.getElem?_eq_none (by rw [hl]; exact q)]
theorem Laps.round {m : Int} (hm : 0 ≤ m) : 0 < roundZ (diffZ (S ++ [L])) ∧ (Comes L S m ↔ roundZ (diffZ (S ++ [L])) ∣ m) := by
  have hl := h.glen
  have hn := h.n
  obtain ⟨z, hz, z1, z2⟩ : ∃ z, z < S.length ∧ rotZ (diffZ (S ++ [L])) z = true ∧ ∀ j, j < z → rotZ (diffZ (S ++ [L])) j = false := by
    cases e : (List.range S.length).find? (rotZ (diffZ (S ++ [L]))) with
    | some z =>
      obtain ⟨a1, a2, a3⟩ := List.find?_range_eq_some.mp e
      refine ⟨z, List.mem_range.mp a2, a1, fun j hj => ?_⟩
      have := a3 j hj
      simpa using this
    | none =>
      have := List.find?_eq_none.mp e (S.length - 1) (List.mem_range.mpr (by omega))
      refine absurd ?_ this
      unfold rotZ
      rw [Nat.sub_add_cancel hn, ← hl, List.drop_length, List.take_length, List.nil_append]
      exact decide_eq_true rfl
  have er : roundZ (diffZ (S ++ [L])) = cL L S (z + 1) := by
    rw [roundZ_at (by rw [hl]; exact hz) z1 z2, h.sum _ (by omega)]
  have hg := (h.rot_iff (r := z + 1) (by omega)).mp (of_decide_eq_true z1)
  have hcom := h.comes_of (h.c_of_g (r := z + 1) hg)
  have hp : 0 < cL L S (z + 1) := by
    have := h.cmono (show 0 < z + 1 by omega)
    rwa [h.c0] at this
  rw [er]
  refine ⟨hp, fun a => ?_, fun ⟨k, e⟩ => ?_⟩
  · have e1 := Int.mul_ediv_add_emod m (cL L S (z + 1))
    have h0 := Int.emod_nonneg m (show cL L S (z + 1) ≠ 0 by omega)
    have h1 := Int.emod_lt_of_pos m hp
    obtain ⟨k, ek⟩ := Int.eq_ofNat_of_zero_le (Int.ediv_nonneg hm (Int.le_of_lt hp))
    have a2 : Comes L S (m % cL L S (z + 1)) := by
      refine h.comes_sub h0 (k := k * cL L S (z + 1)) ?_ (h.comes_mul (Int.le_of_lt hp) hcom k)
      rw [show m % cL L S (z + 1) + (k : Int) * cL L S (z + 1) = m by rw [← ek, Int.mul_comm]; omega]
      exact a
    rcases Int.lt_or_le 0 (m % cL L S (z + 1)) with q | q
    · exfalso
      obtain ⟨j, j0, j1, j2⟩ := h.step_of q a2
      have hj : j < z + 1 := h.cle (by omega)
      have hgj : ∀ i, gL L S (i + j) = gL L S i := fun i => by
        unfold gL
        have q1 := j2 i
        have q2 := j2 (i + 1)
        rw [show i + j + 1 = i + 1 + j by omega]
        omega
      have := (h.rot_iff (r := j) (by omega)).mpr hgj
      have h3 := z2 (j - 1) (by omega)
      unfold rotZ at h3
      rw [Nat.sub_add_cancel j0] at h3
      exact of_decide_eq_false h3 this
    · exact Int.dvd_of_emod_eq_zero (by omega)
  · obtain ⟨k', rfl⟩ : ∃ k' : Nat, k = k' := by
      refine ⟨k.toNat, (Int.toNat_of_nonneg ?_).symm⟩
      rcases Int.lt_or_le k 0 with q | q
      · have := Int.mul_neg_of_pos_of_neg hp q
        omega
      · exact q
    rw [e, Int.mul_comm]
    exact h.comes_mul (Int.le_of_lt hp) hcom k'
end
end Em

namespace Em
open PySem PySem.Spec PyProof.Rows L2 Qt
section
variable {N : Net} {ks : Kds}
def BareT (N : Net) (ks : Kds) (t u : Nat) : Prop := ∀ x, (cellT N ks t x).map (·.2) = (cellT N ks u x).map (·.2)
theorem bare_iff (o : NetOk N) (hk : KdsOk N ks) {t u : Nat} : BareT N ks t u ↔ ∀ x a, (∃ f, Brn N ks t f x a) ↔ ∃ f, Brn N ks u f x a := by
  have key : ∀ t x a, (cellT N ks t x).map (·.2) = some a ↔ ∃ f, Brn N ks t f x a := fun t x a => by
    constructor
    · intro h
      cases e : cellT N ks t x with
      | none => rw [e] at h; cases h
      | some p =>
        rw [e] at h
        cases h
        exact ⟨p.1, (cell_iff o hk).mp e⟩
    · rintro ⟨f, h⟩
      rw [(cell_iff o hk).mpr h]
      rfl
  constructor
  · intro h x a
    rw [← key, ← key, h x]
  · intro h x
    refine Option.ext fun a => ?_
    rw [key, key, h x a]
theorem path_self (N : Net) (x : Nat) : x ∈ path N x := by
  obtain ⟨t, e⟩ := path_head N x
  rw [e]; exact List.mem_cons_self
theorem idx_self (N : Net) (x : Nat) : (path N x).idxOf x = 0 := by
  obtain ⟨t, e⟩ := path_head N x
  rw [e]; exact List.idxOf_cons_self
theorem frst_self (N : Net) (b : Int) (x : Nat) : frstOf N b x x = b := by
  unfold frstOf frst
  rw [idx_self]
  simp [sumB]
theorem ring_root {x : Nat} (hA : wayA N x = []) {z : Nat} : z ∈ wayR N x ↔ z ∈ path N x := by rw [ahead_path hA]
/-- a lamp of a ring: the ring is its own -/
theorem ring_same (o : NetOk N) {r z : Nat} (hr : r < N.length) (hA : wayA N r = []) (hz : z ∈ path N r) : z < N.length ∧ wayA N z = [] ∧ lapOf N z = lapOf N r ∧ (∀ y, y ∈ wayR N z ↔ y ∈ wayR N r) := by
  have hzl := path_lt o hr hz
  have hzr := (ring_root hA).mpr hz
  have hg := goS_path _ _ (idx_get hz)
  have e := ring_along o hr hzl hg
  exact ⟨hzl, root_ahead o hzl ((e z).mpr hzr), lap_along o hr hzl hg, e⟩
theorem ring_off (o : NetOk N) {r y z : Nat} (hr : r < N.length) (hA : wayA N r = []) (hy : y < N.length) (hry : r ∈ path N y) (hz : z ∈ path N r) (b : Int) : z ∈ path N y ∧ ∃ laps : Int, frstOf N b y z = frstOf N b y r + frstOf N 0 r z - laps * lapOf N r := by
  obtain ⟨h1, laps, h2⟩ := gap_stays o hr hy 0 b (path_self N r) hry (j := (path N r).idxOf z) (by rw [idx_self]; exact Nat.zero_le _) (idx_get hz)
  refine ⟨h1, laps, ?_⟩
  rw [frst_self] at h2
  omega
/-- a flame of the ring lights its lamp r at some such beat -/
def PX (N : Net) (ks : Kds) (R : List C4) (r : Nat) (d : Int) : Prop := ∃ f ∈ goX N ks R r, ∃ s, SpanAt N ks r f s ∧ lapOf N r ∣ d - s
theorem dvd_shift {L a b : Int} (h : L ∣ b - a) : L ∣ a ↔ L ∣ b := by
  constructor
  · intro q
    have := Int.dvd_add q h
    rwa [show a + (b - a) = b by omega] at this
  · intro q
    have := Int.dvd_sub q h
    rwa [show b - (b - a) = a by omega] at this
theorem PX.per {R : List C4} {r : Nat} {d e : Int} (h : lapOf N r ∣ e - d) : PX N ks R r d ↔ PX N ks R r e := by
  constructor
  · rintro ⟨f, hf, s, hs, q⟩
    exact ⟨f, hf, s, hs, (dvd_shift (by rw [show e - s - (d - s) = e - d by omega]; exact h)).mp q⟩
  · rintro ⟨f, hf, s, hs, q⟩
    exact ⟨f, hf, s, hs, (dvd_shift (by rw [show e - s - (d - s) = e - d by omega]; exact h)).mpr q⟩
theorem goes_in (o : NetOk N) (hk : KdsOk N ks) {R : List C4} (hR : Losses N ks R) {first : Int} (h : RestOk N ks R first) {r f : Nat} (hr : r < N.length) (hA : wayA N r = []) (hal : ∀ t, Alive N ks f t) {s : Int} (hs : SpanAt N ks r f s) :
    ∃ p, ks[f]? = some p ∧ p.2 < N.length ∧ r ∈ path N p.2 ∧ s = frstOf N p.1 p.2 r ∧ wayR N p.2 ≠ [] ∧ frst N p.1 p.2 (cutN N p.2) ≤ first ∧ lapOf N p.2 = lapOf N r := by
  obtain ⟨p, hp, hrp, es⟩ := hs
  have hy := hk p (List.mem_of_getElem? hp)
  have hrr : r ∈ wayR N r := (ring_root hA).mpr (path_self N r)
  have hxr := (wayR_own o hy hrp).mpr hrr
  have hw : wayR N p.2 ≠ [] := fun e => by rw [e] at hxr; cases hxr
  have hf : f < ks.length := (List.getElem?_eq_some_iff.mp hp).1
  have hle := h.le f hf
  have ep : ks.getD f (0, 0) = p := by rw [List.getD_eq_getElem?_getD, hp]; rfl
  rw [ep] at hle
  rcases fate_case o hk hR hp with ⟨τ, y, g, hl, e⟩ | ⟨ha, hw', e⟩ | ⟨ha, _, e⟩
  · exact absurd hl (hal (τ + 1) τ (by omega) y g)
  · exact absurd hw' hw
  · rw [e] at hle
    exact ⟨p, hp, hy, hrp, es, hw, hle, (lap_along o hy hr (goS_path _ _ (idx_get hrp))).symm⟩
theorem burns_at (o : NetOk N) (hk : KdsOk N ks) {R : List C4} (hR : Losses N ks R) {first : Int} (h : RestOk N ks R first) {r z : Nat} (hr : r < N.length) (hA : wayA N r = []) (hz : z ∈ path N r) {t : Nat} (ht : first ≤ t) {a : Int} :
    (∃ f, Brn N ks t f z a) ↔ 0 ≤ a ∧ a < burnOf N z ∧ PX N ks R r ((t : Int) - a - frstOf N 0 r z) := by
  obtain ⟨hzl, hzA, hzL, hzR⟩ := ring_same o hr hA hz
  have hrr : r ∈ wayR N r := (ring_root hA).mpr (path_self N r)
  constructor
  · rintro ⟨f, hb⟩
    obtain ⟨hal, _⟩ := rest_alive o hk hR h ht hb
    refine ⟨hb.1, hb.2.1, f, ?_⟩
    obtain ⟨p, hp, hon⟩ := hb.2.2.1
    have hy := hk p (List.mem_of_getElem? hp)
    obtain ⟨hzp, k, ek⟩ := (ring_on o hy hzA hzl).mp hon
    have hzw := (wayR_own o hy hzp).mpr ((hzR z).mpr ((ring_root hA).mpr hz))
    have hg := goS_path _ _ (idx_get hzp)
    have hrp : r ∈ path N p.2 := by
      have := (ring_along o hy hzl hg r).mp ((hzR r).mpr hrr)
      rw [← way_cat]
      exact List.mem_append_right _ this
    have hs : SpanAt N ks r f (frstOf N p.1 p.2 r) := ⟨p, hp, hrp, rfl⟩
    refine ⟨(goX_iff o hk hR hr hA).mpr ⟨hal, _, hs⟩, _, hs, ?_⟩
    obtain ⟨_, laps, e⟩ := ring_off o hr hA hy hrp hz p.1
    refine ⟨k - laps, ?_⟩
    rw [ek, e, hzL, Int.mul_sub, Int.mul_comm (lapOf N r), Int.mul_comm (lapOf N r)]
    omega
  · rintro ⟨h0, h1, f, hf, s, hs, q⟩
    obtain ⟨hal, _⟩ := (goX_iff o hk hR hr hA).mp hf
    obtain ⟨p, hp, hy, hrp, es, hw, hle, hL⟩ := goes_in o hk hR h hr hA hal hs
    obtain ⟨hzp, laps, e⟩ := ring_off o hr hA hy hrp hz p.1
    refine ⟨f, h0, h1, (on_get hp).mpr ?_, hal _⟩
    have hlp := lap_pos o hr (fun e => by rw [e] at hrr; cases hrr)
    obtain ⟨c, hc⟩ := q
    obtain ⟨K, hK1, hK2⟩ : ∃ K : Nat, 0 ≤ c + laps + K ∧ True := ⟨(-(c + laps)).toNat, by omega, trivial⟩
    refine (ring_per o hy hw (k := K) h0 h1 (Int.le_trans hle ht)).mpr ((ring_on o hy hzA hzl).mpr ⟨hzp, (c + laps + K).toNat, ?_⟩)
    rw [Int.toNat_of_nonneg hK1, e, ← es, hzL, hL, Int.add_mul, Int.add_mul, Int.mul_comm c]
    omega
theorem ring_rt (o : NetOk N) {z : Nat} (hz : z < N.length) (hA : wayA N z = []) : ∃ r ∈ ringsL N N.length, r < N.length ∧ wayA N r = [] ∧ z ∈ path N r ∧ minN (wayR N r) = r := by
  have hzz : z ∈ wayR N z := (ring_root hA).mpr (path_self N z)
  have hne : wayR N z ≠ [] := fun e => by rw [e] at hzz; cases hzz
  obtain ⟨hm, hle⟩ := minN_mem hne
  obtain ⟨hrl, hrA, _, hrR⟩ := ring_same o hz hA ((ring_root hA).mp hm)
  refine ⟨minN (wayR N z), List.mem_filter.mpr ⟨List.mem_range.mpr hrl, root_iff.mpr ⟨(hrR _).mpr hm, fun y hy => hle y ((hrR y).mp hy)⟩⟩, hrl, hrA, (ring_root hrA).mp ((hrR z).mpr hzz), ?_⟩
  exact minN_congr hrR (fun e => by have := (hrR z).mpr hzz; rw [e] at this; cases this)
theorem rings_rt (o : NetOk N) {r : Nat} (h : r ∈ ringsL N N.length) : r < N.length ∧ wayA N r = [] ∧ minN (wayR N r) = r := by
  obtain ⟨hr, hb⟩ := ringsL_mem h
  obtain ⟨h1, h2⟩ := root_iff.mp hb
  obtain ⟨q1, q2⟩ := minN_mem (g := wayR N r) fun e => by rw [e] at h1; cases h1
  have := h2 _ q1
  have := q2 _ h1
  exact ⟨hr, root_ahead o hr h1, by omega⟩
theorem bare_roots (o : NetOk N) (hk : KdsOk N ks) {R : List C4} (hR : Losses N ks R) {first : Int} (h : RestOk N ks R first) {t u : Nat} (ht : first ≤ t) (hu : first ≤ u) :
    BareT N ks t u ↔ ∀ r ∈ ringsL N N.length, ∀ d : Int, PX N ks R r d ↔ PX N ks R r (d + ((u : Int) - t)) := by
  rw [bare_iff o hk]
  constructor
  · intro q r hr d
    obtain ⟨hrl, hA, _⟩ := rings_rt o hr
    have hrr : r ∈ wayR N r := (ring_root hA).mpr (path_self N r)
    have hne : wayR N r ≠ [] := fun e => by rw [e] at hrr; cases hrr
    have hlp := lap_pos o hrl hne
    obtain ⟨e, he⟩ := Int.eq_ofNat_of_zero_le (Int.emod_nonneg ((t : Int) - d) (show lapOf N r ≠ 0 by omega))
    have hed := Int.emod_add_mul_ediv ((t : Int) - d) (lapOf N r)
    rw [he] at hed
    obtain ⟨z, g, h0, h1, h2⟩ := on_at o hrl 0 e (.inl hne)
    have hzl := onWay_lt o hrl h2
    have hz : z ∈ path N r := by
      obtain ⟨j, _, hj, _⟩ := h2
      exact List.mem_of_getElem? hj
    obtain ⟨_, hzA, hzL, _⟩ := ring_same o hrl hA hz
    obtain ⟨_, k, ek⟩ := (ring_on o hrl hzA hzl).mp h2
    have b1 := burns_at o hk hR h hrl hA hz ht (a := g)
    have b2 := burns_at o hk hR h hrl hA hz hu (a := g)
    have e1 : PX N ks R r ((t : Int) - g - frstOf N 0 r z) ↔ PX N ks R r d := PX.per ⟨-(((t : Int) - d) / lapOf N r) - k, by
      rw [Int.mul_sub, Int.mul_neg, ← hzL, Int.mul_comm _ (k : Int)]
      rw [← hzL] at hed
      omega⟩
    have e2 : PX N ks R r ((u : Int) - g - frstOf N 0 r z) ↔ PX N ks R r (d + ((u : Int) - t)) := PX.per ⟨-(((t : Int) - d) / lapOf N r) - k, by
      rw [Int.mul_sub, Int.mul_neg, ← hzL, Int.mul_comm _ (k : Int)]
      rw [← hzL] at hed
      omega⟩
    rw [← e1, ← e2]
    have := q z g
    rw [b1, b2] at this
    exact ⟨fun w => (this.mp ⟨h0, h1, w⟩).2.2, fun w => (this.mpr ⟨h0, h1, w⟩).2.2⟩
  · intro q z a
    by_cases hz : z < N.length
    · by_cases hA : wayA N z = []
      · obtain ⟨r, hr, hrl, hrA, hzr, _⟩ := ring_rt o hz hA
        rw [burns_at o hk hR h hrl hrA hzr ht, burns_at o hk hR h hrl hrA hzr hu, q r hr, show (t : Int) - a - frstOf N 0 r z + ((u : Int) - t) = (u : Int) - a - frstOf N 0 r z by omega]
      · exact ⟨fun ⟨f, hb⟩ => absurd ⟨f, a, hb⟩ (lamp_off o hk hR h hz hA ht), fun ⟨f, hb⟩ => absurd ⟨f, a, hb⟩ (lamp_off o hk hR h hz hA hu)⟩
    · have no : ∀ t f, ¬ Brn N ks t f z a := fun t f hb => by
        obtain ⟨p, hp, hon⟩ := hb.2.2.1
        exact hz (onWay_lt o (hk p (List.mem_of_getElem? hp)) hon)
      exact ⟨fun ⟨f, hb⟩ => absurd hb (no t f), fun ⟨f, hb⟩ => absurd hb (no u f)⟩
def sfX (N : Net) (ks : Kds) (r f : Nat) : Int := frstOf N (ks.getD f (0, 0)).1 (ks.getD f (0, 0)).2 r
theorem sf_span (o : NetOk N) (hk : KdsOk N ks) {R : List C4} (hR : Losses N ks R) {r : Nat} (hr : r < N.length) (hA : wayA N r = []) {f : Nat} (hf : f ∈ goX N ks R r) : (∀ t, Alive N ks f t) ∧ SpanAt N ks r f (sfX N ks r f) := by
  obtain ⟨ha, s, p, hp, h1, h2⟩ := (goX_iff o hk hR hr hA).mp hf
  have : p = ks.getD f (0, 0) := by rw [List.getD_eq_getElem?_getD, hp]; rfl
  refine ⟨ha, p, hp, h1, ?_⟩
  unfold sfX
  rw [← this]
theorem span_one {r f : Nat} {s s' : Int} (h : SpanAt N ks r f s) (h' : SpanAt N ks r f s') : s = s' := by
  obtain ⟨p, hp, _, e⟩ := h
  obtain ⟨p', hp', _, e'⟩ := h'
  rw [hp] at hp'
  cases hp'
  rw [e, e']
theorem beats_go (o : NetOk N) (hk : KdsOk N ks) {R : List C4} (hR : Losses N ks R) {r : Nat} (hr : r < N.length) (hA : wayA N r = []) (hm : minN (wayR N r) = r) : beatsX N (fatesR N ks R) r = (goX N ks R r).map (sfX N ks r) := by
  have e : fatesR N ks R = (List.range ks.length).map fun f => (fatesR N ks R).getD f (.ended 0 0) := by
    refine List.ext_getElem? fun i => ?_
    rw [List.getElem?_map]
    rcases Nat.lt_or_ge i ks.length with h | h
    · rw [List.getElem?_range h]
      show _ = some ((fatesR N ks R).getD i (.ended 0 0))
      have hl : i < (fatesR N ks R).length := by rw [fatesR_len]; exact h
      rw [List.getD_eq_getElem?_getD, List.getElem?_eq_getElem hl]
      rfl
    · rw [List.getElem?_eq_none (by rw [fatesR_len]; exact h), List.getElem?_eq_none (by rw [List.length_range]; exact h)]
      rfl
  have key : ∀ (L : List Nat), (∀ f ∈ L, f < ks.length) → (L.map fun f => (fatesR N ks R).getD f (.ended 0 0)).filterMap (beatE (minN (wayR N r))) = (L.filter fun f => (beatE (minN (wayR N r)) ((fatesR N ks R).getD f (.ended 0 0))).isSome).map (sfX N ks r) := fun L => by
    induction L with
    | nil => intro _; rfl
    | cons i L ih =>
      intro hL
      rw [List.map_cons, List.filterMap_cons, List.filter_cons]
      have ih := ih fun f hf => hL f (List.mem_cons_of_mem _ hf)
      cases e : beatE (minN (wayR N r)) ((fatesR N ks R).getD i (.ended 0 0)) with
      | none => exact ih
      | some t =>
        have et : t = sfX N ks r i := by
          rcases fate_case o hk hR (getD_lt (hL i List.mem_cons_self)) with ⟨τ, y, g, hl, e2⟩ | ⟨ha, hw', e2⟩ | ⟨ha, _, e2⟩
          · rw [e2] at e; cases e
          · rw [e2] at e; cases e
          · rw [e2] at e
            have e : (if minN (wayR N (ks.getD i (0, 0)).2) = minN (wayR N r) then some (frstOf N (ks.getD i (0, 0)).1 (ks.getD i (0, 0)).2 (minN (wayR N (ks.getD i (0, 0)).2))) else none : Option Int) = some t := e
            split at e
            · rename_i q
              cases e
              unfold sfX
              rw [q, hm]
            · cases e
        show t :: _ = List.map _ (i :: _)
        rw [List.map_cons, ih, et]
  unfold beatsX
  have := key (List.range ks.length) fun f hf => List.mem_range.mp hf
  rw [← e] at this
  exact this
theorem sf_apart (o : NetOk N) (hk : KdsOk N ks) {R : List C4} (hR : Losses N ks R) {r : Nat} (hr : r < N.length) (hA : wayA N r = []) {f g : Nat} (hf : f ∈ goX N ks R r) (hg : g ∈ goX N ks R r) (h : lapOf N r ∣ sfX N ks r f - sfX N ks r g) : f = g := by
  have hrr : r ∈ wayR N r := (ring_root hA).mpr (path_self N r)
  have hlp := lap_pos o hr (fun e => by rw [e] at hrr; cases hrr)
  have hb := burn_pos o hr
  have half : ∀ {f g : Nat}, f ∈ goX N ks R r → g ∈ goX N ks R r → lapOf N r ∣ sfX N ks r f - sfX N ks r g → sfX N ks r g ≤ sfX N ks r f → f = g := fun {f g} hf hg h hle => by
    obtain ⟨a1, a2⟩ := sf_span o hk hR hr hA hf
    obtain ⟨b1, b2⟩ := sf_span o hk hR hr hA hg
    have h0 := span_nonneg o hk hr hA a2
    obtain ⟨t, ht⟩ := Int.eq_ofNat_of_zero_le h0
    obtain ⟨k, ek⟩ := h
    have hk0 : 0 ≤ k := by
      rcases Int.lt_or_le k 0 with q | q
      · have := Int.mul_neg_of_pos_of_neg hlp q
        omega
      · exact q
    obtain ⟨k', rfl⟩ := Int.eq_ofNat_of_zero_le hk0
    have B1 := brn_span o hk hr hA a1 a2 (t := t) (i := 0) (k := 0) (by omega) (by rw [Int.natCast_zero, Int.zero_mul]; omega)
    have B2 := brn_span o hk hr hA b1 b2 (t := t) (i := 0) (k := k') (by omega) (by rw [Int.mul_comm]; omega)
    exact (brn_one o hk B1 B2).1
  rcases Int.le_total (sfX N ks r g) (sfX N ks r f) with q | q
  · exact half hf hg h q
  · refine (half hg hf ?_ q).symm
    have := (Int.dvd_neg (a := lapOf N r)).mpr h
    rwa [show -(sfX N ks r f - sfX N ks r g) = sfX N ks r g - sfX N ks r f by omega] at this
theorem emod_dvd {L a b : Int} (h : a % L = b % L) : L ∣ a - b := Int.dvd_of_emod_eq_zero (by rw [Int.sub_emod, h, Int.sub_self, Int.zero_emod])
theorem dvd_emod {L a b : Int} (h : L ∣ a - b) : a % L = b % L := (Int.emod_emod_of_dvd _ (Int.dvd_refl L)).symm.trans (by
  have := Int.emod_emod_of_dvd a (Int.dvd_refl L)
  rw [this]
  exact (Int.emod_eq_emod_iff_emod_sub_eq_zero).mpr (Int.emod_eq_zero_of_dvd h))
/-- the sorted gaps from the first flame on -/
theorem laps_go (o : NetOk N) (hk : KdsOk N ks) {R : List C4} (hR : Losses N ks R) {r : Nat} (hr : r < N.length) (hA : wayA N r = []) {f0 : Nat} {fs : List Nat} (hg : goX N ks R r = f0 :: fs) :
    Laps (lapOf N r) (srtZ (((goX N ks R r).map (sfX N ks r)).map fun x => (x - sfX N ks r f0) % lapOf N r)) ∧
    ∀ d : Int, 0 ≤ d → (Lit0 (lapOf N r) (srtZ (((goX N ks R r).map (sfX N ks r)).map fun x => (x - sfX N ks r f0) % lapOf N r)) d ↔ PX N ks R r (sfX N ks r f0 + d)) := by
  have hrr : r ∈ wayR N r := (ring_root hA).mpr (path_self N r)
  have hlp := lap_pos o hr (fun e => by rw [e] at hrr; cases hrr)
  obtain ⟨M, eM⟩ : ∃ M, M = ((goX N ks R r).map (sfX N ks r)).map fun x => (x - sfX N ks r f0) % lapOf N r := ⟨_, rfl⟩
  rw [← eM]
  have hmem : ∀ x, x ∈ M ↔ ∃ f ∈ goX N ks R r, x = (sfX N ks r f - sfX N ks r f0) % lapOf N r := fun x => by
    rw [eM, List.mem_map]
    constructor
    · rintro ⟨y, hy, rfl⟩
      obtain ⟨f, hf, rfl⟩ := List.mem_map.mp hy
      exact ⟨f, hf, rfl⟩
    · rintro ⟨f, hf, rfl⟩
      exact ⟨_, List.mem_map.mpr ⟨f, hf, rfl⟩, rfl⟩
  have hnd : M.Nodup := by
    rw [eM, List.map_map]
    refine List.pairwise_map.mpr (List.Pairwise.imp_of_mem (fun {f g} hf hg hne e => hne ?_) (List.Pairwise.filter _ List.nodup_range : (goX N ks R r).Pairwise (· ≠ ·)))
    refine sf_apart o hk hR hr hA hf hg ?_
    have := emod_dvd e
    rwa [show sfX N ks r f - sfX N ks r f0 - (sfX N ks r g - sfX N ks r f0) = sfX N ks r f - sfX N ks r g by omega] at this
  have hp := srtZ_pw M
  have hm := srtZ_perm M
  obtain ⟨rr, er, _⟩ := srt_mod hlp (sfX N ks r f0) (fs.map (sfX N ks r))
  have eS : srtZ M = 0 :: rr := by
    rw [← er, eM, hg]
    rfl
  have H : Laps (lapOf N r) (srtZ M) := ⟨hlp, by rw [eS]; simp, fun x hx => by
    obtain ⟨f, _, rfl⟩ := (hmem x).mp (hm.mem_iff.mp hx)
    exact Int.emod_lt_of_pos _ hlp, (hp.and (hm.nodup_iff.mpr hnd)).imp fun {a b} q => by have := q.1; have := q.2; omega, by rw [eS]; rfl⟩
  refine ⟨H, fun d hd => ?_⟩
  constructor
  · rintro ⟨i, e⟩
    have hi := H.mem (Nat.mod_lt i H.n)
    obtain ⟨f, hf, ef⟩ := (hmem _).mp (hm.mem_iff.mp hi)
    refine ⟨f, hf, _, (sf_span o hk hR hr hA hf).2, ?_⟩
    unfold cL at e
    rw [ef] at e
    have h1 := Int.emod_add_mul_ediv (sfX N ks r f - sfX N ks r f0) (lapOf N r)
    refine ⟨((i / (srtZ M).length : Nat) : Int) - (sfX N ks r f - sfX N ks r f0) / lapOf N r, ?_⟩
    rw [Int.mul_sub]
    omega
  · rintro ⟨f, hf, s, hs, q⟩
    rw [span_one hs (sf_span o hk hR hr hA hf).2] at q
    have e1 : d % lapOf N r = (sfX N ks r f - sfX N ks r f0) % lapOf N r := dvd_emod (by rwa [show d - (sfX N ks r f - sfX N ks r f0) = sfX N ks r f0 + d - sfX N ks r f by omega])
    have hi : d % lapOf N r ∈ srtZ M := hm.mem_iff.mpr ((hmem _).mpr ⟨f, hf, e1⟩)
    obtain ⟨j, hj⟩ := List.getElem?_of_mem hi
    have hjl := (List.getElem?_eq_some_iff.mp hj).1
    have hd2 := Int.emod_add_mul_ediv d (lapOf N r)
    obtain ⟨k, ek⟩ := Int.eq_ofNat_of_zero_le (Int.ediv_nonneg hd (Int.le_of_lt hlp))
    refine ⟨j + (srtZ M).length * k, ?_⟩
    unfold cL
    rw [Nat.add_mul_div_left _ _ H.n, Nat.div_eq_of_lt hjl, Nat.add_mul_mod_self_left, Nat.mod_eq_of_lt hjl, Nat.zero_add, List.getD_eq_getElem?_getD, hj]
    rw [ek] at hd2
    show d = lapOf N r * (k : Int) + d % lapOf N r
    omega
theorem px_round (o : NetOk N) (hk : KdsOk N ks) {R : List C4} (hR : Losses N ks R) {r : Nat} (hr : r < N.length) (hA : wayA N r = []) (hm : minN (wayR N r) = r) {m : Nat} :
    (∀ d : Int, PX N ks R r d ↔ PX N ks R r (d + m)) ↔ (roundZ (gapsZ (lapOf N r) (beatsX N (fatesR N ks R) r))).toNat ∣ m := by
  rw [beats_go o hk hR hr hA hm]
  have hrr : r ∈ wayR N r := (ring_root hA).mpr (path_self N r)
  have hlp := lap_pos o hr (fun e => by rw [e] at hrr; cases hrr)
  cases hg : goX N ks R r with
  | nil =>
    have no : ∀ d, ¬ PX N ks R r d := fun d ⟨f, hf, _⟩ => by rw [hg] at hf; cases hf
    refine ⟨fun _ => ?_, fun _ d => ⟨fun q => absurd q (no d), fun q => absurd q (no _)⟩⟩
    show (1 : Int).toNat ∣ m
    exact Nat.one_dvd m
  | cons f0 fs =>
    obtain ⟨H, hl⟩ := laps_go o hk hR hr hA hg
    have eg : gapsZ (lapOf N r) ((f0 :: fs).map (sfX N ks r)) = diffZ (srtZ (((goX N ks R r).map (sfX N ks r)).map fun x => (x - sfX N ks r f0) % lapOf N r) ++ [lapOf N r]) := by rw [hg]; rfl
    rw [eg]
    generalize srtZ (((goX N ks R r).map (sfX N ks r)).map fun x => (x - sfX N ks r f0) % lapOf N r) = S at H hl
    obtain ⟨hp, hc⟩ := H.round (m := m) (by omega)
    have hcm : (∀ d : Int, PX N ks R r d ↔ PX N ks R r (d + m)) ↔ Comes (lapOf N r) S m := by
      constructor
      · intro q d hd
        rw [hl d hd, hl (d + m) (by omega), q, show sfX N ks r f0 + d + m = sfX N ks r f0 + (d + m) by omega]
      · intro q d
        obtain ⟨K, hK⟩ : ∃ K : Nat, 0 ≤ d + K * lapOf N r - sfX N ks r f0 := by
          refine ⟨(sfX N ks r f0 - d).toNat, ?_⟩
          have h1 : ((sfX N ks r f0 - d).toNat : Int) ≤ ((sfX N ks r f0 - d).toNat : Int) * lapOf N r := by
            have := Int.mul_le_mul_of_nonneg_left (show 1 ≤ lapOf N r by omega) (show 0 ≤ ((sfX N ks r f0 - d).toNat : Int) by omega)
            omega
          omega
        have e1 : PX N ks R r d ↔ PX N ks R r (d + K * lapOf N r) := PX.per ⟨K, by rw [Int.mul_comm]; omega⟩
        have e2 : PX N ks R r (d + m) ↔ PX N ks R r (d + K * lapOf N r + m) := PX.per ⟨K, by rw [Int.mul_comm]; omega⟩
        have e3 := q _ hK
        rw [hl _ hK, hl _ (by omega), show sfX N ks r f0 + (d + K * lapOf N r - sfX N ks r f0) = d + K * lapOf N r by omega, show sfX N ks r f0 + (d + K * lapOf N r - sfX N ks r f0 + m) = d + K * lapOf N r + m by omega] at e3
        rw [e1, e2, e3]
    rw [hcm, hc]
    generalize roundZ (diffZ (S ++ [lapOf N r])) = z at hp
    obtain ⟨n, rfl⟩ := Int.eq_ofNat_of_zero_le (Int.le_of_lt hp)
    rw [Int.toNat_natCast]
    exact Int.natCast_dvd_natCast
theorem dvd_foldl {f : Nat → Nat} {m : Nat} : ∀ (L : List Nat) (a : Nat), L.foldl (fun b x => Nat.lcm b (f x)) a ∣ m ↔ a ∣ m ∧ ∀ x ∈ L, f x ∣ m
  | [], a => by simp
  | x :: L, a => by
    rw [List.foldl_cons, dvd_foldl L, Nat.lcm_dvd_iff]
    simp [and_assoc]
/-- the round of the lamps is the round -/
theorem round_bare (o : NetOk N) (hk : KdsOk N ks) {R : List C4} (hR : Losses N ks R) {first : Int} (h : RestOk N ks R first) {t m : Nat} (ht : first ≤ t) : BareT N ks t (t + m) ↔ roundN N (fatesR N ks R) ∣ m := by
  rw [bare_roots o hk hR h ht (by omega)]
  unfold roundN
  rw [show rndS N (fatesR N ks R) = fun b x => Nat.lcm b ((fun x => (roundZ (gapsZ (lapOf N x) (beatsX N (fatesR N ks R) x))).toNat) x) from rfl, dvd_foldl]
  have e : ((t + m : Nat) : Int) - t = m := by omega
  rw [e]
  constructor
  · intro q
    refine ⟨Nat.one_dvd _, fun r hr => ?_⟩
    obtain ⟨h1, h2, h3⟩ := rings_rt o hr
    exact (px_round o hk hR h1 h2 h3).mp (q r hr)
  · rintro ⟨_, q⟩ r hr
    obtain ⟨h1, h2, h3⟩ := rings_rt o hr
    exact (px_round o hk hR h1 h2 h3).mpr (q r hr)
end
end Em

namespace Em
open PySem PySem.Spec PyProof.Rows L2 Qt
theorem up_ext {a b : List Int} (ha : a.Pairwise (· < ·)) (hb : b.Pairwise (· < ·)) (h : ∀ x, x ∈ a ↔ x ∈ b) : a = b := by
  have na : a.Nodup := ha.imp fun q => Int.ne_of_lt q
  have nb : b.Nodup := hb.imp fun q => Int.ne_of_lt q
  exact PySem.W.os_sorted_one ((List.perm_ext_iff_of_nodup na nb).mpr h) (ha.imp fun q => Int.le_of_lt q) (hb.imp fun q => Int.le_of_lt q)
theorem short_lap {N : Net} (o : NetOk N) (s : Short N) : ∀ x, x < N.length → lapOf N x < 2 ^ 204 := fun x hx => by
  have h1 := tot_lap o hx
  have h2 : sumB N (List.range N.length) ≤ (List.range N.length).length * (10 ^ 60 : Int) := sumB_most fun y hy => by
    have hl := List.mem_range.mp hy
    rw [burnOf_get (List.getElem?_eq_getElem hl)]
    exact Int.le_of_lt (s _ (List.getElem_mem hl))
  rw [List.length_range] at h2
  have h3 := o.hi
  have h4 : (N.length : Int) * 10 ^ 60 ≤ 12 * 10 ^ 60 := Int.mul_le_mul_of_nonneg_right (by omega) (by decide)
  have h5 : (12 : Int) * 10 ^ 60 < 2 ^ 204 := by decide
  unfold totN at h1
  omega
section
variable {N : Net} {ks : Kds}
theorem beatsX_same (o : NetOk N) {z r : Nat} (FS : List Fate) (h : ∀ y, y ∈ wayR N z ↔ y ∈ wayR N r) (hne : wayR N z ≠ []) : beatsX N FS z = beatsX N FS r := by
  unfold beatsX
  rw [minN_congr h hne]
end
end Em

namespace Em
open PySem PySem.Spec PyProof.Rows L2 Qt
def fewK (ks : Kds) (I : List Nat) : Kds := I.map fun k => ks.getD k (0, 0)
structure Few (N : Net) (ks : Kds) (I : List Nat) : Prop where
  lt : ∀ k ∈ I, k < ks.length
  up : I.Pairwise (· < ·)
  al : ∀ k ∈ I, ∀ t, Alive N ks k t
section
variable {N : Net} {ks : Kds} {I : List Nat} (W : Few N ks I)
include W
theorem Few.get {f : Nat} {p : Nat × Nat} : (fewK ks I)[f]? = some p ↔ ∃ k, I[f]? = some k ∧ ks[k]? = some p := by
  unfold fewK
  rw [List.getElem?_map]
  constructor
  · intro h
    cases e : I[f]? with
    | none => rw [e] at h; cases h
    | some k =>
      rw [e] at h
      have h : ks.getD k (0, 0) = p := Option.some.inj h
      refine ⟨k, rfl, ?_⟩
      rw [getD_lt (W.lt k (List.mem_of_getElem? e)), h]
  · rintro ⟨k, e, h⟩
    rw [e]
    show some (ks.getD k (0, 0)) = _
    rw [List.getD_eq_getElem?_getD, h]
    rfl
theorem Few.ok (hk : KdsOk N ks) : KdsOk N (fewK ks I) := fun p hp => by
  obtain ⟨f, hf⟩ := List.getElem?_of_mem hp
  obtain ⟨k, _, h⟩ := W.get.mp hf
  exact hk p (List.mem_of_getElem? h)
theorem Few.on {f x : Nat} {t : Int} : On N (fewK ks I) f t x ↔ ∃ k, I[f]? = some k ∧ On N ks k t x := by
  constructor
  · rintro ⟨p, hp, h⟩
    obtain ⟨k, e, hk⟩ := W.get.mp hp
    exact ⟨k, e, p, hk, h⟩
  · rintro ⟨k, e, p, hk, h⟩
    exact ⟨p, W.get.mpr ⟨k, e, hk⟩, h⟩
theorem Few.inj {f g k : Nat} (hf : I[f]? = some k) (hg : I[g]? = some k) : f = g := by
  have nd : I.Nodup := W.up.imp fun h => Nat.ne_of_lt h
  exact nodup_get nd hf hg
theorem Few.none (o : NetOk N) (hk : KdsOk N ks) : ∀ t x f g, ¬ LostAt N (fewK ks I) t x f g := fun t x f g h => by
  have hk' := W.ok hk
  obtain ⟨h1, h2, h3⟩ := (lost_sem o hk' (inv_all o hk' t)).mp h
  obtain ⟨kf, ef, hf⟩ := W.on.mp h1
  have hx := On.lt o hk' h1
  have hb := burn_pos o hx
  have Bf : Brn N ks t kf x 0 := ⟨Int.le_refl _, by omega, by rw [Int.sub_zero]; exact hf, W.al kf (List.mem_of_getElem? ef) _⟩
  rcases h3 with ⟨t0, s1, s2, s3, s4⟩ | ⟨_, ⟨b1, b2, b3⟩, hne⟩
  · obtain ⟨kg, eg, hg⟩ := W.on.mp s1
    have Bg : Brn N ks t kg x ((t : Int) - t0) := ⟨by omega, by omega, by rw [show (t : Int) - ((t : Int) - t0) = t0 by omega]; exact hg, W.al kg (List.mem_of_getElem? eg) _⟩
    obtain ⟨_, q⟩ := brn_one o hk Bf Bg
    omega
  · obtain ⟨kg, eg, hg⟩ := W.on.mp b1
    have Bg : Brn N ks t kg x 0 := ⟨Int.le_refl _, by omega, by rw [Int.sub_zero]; exact hg, W.al kg (List.mem_of_getElem? eg) _⟩
    obtain ⟨q, _⟩ := brn_one o hk Bf Bg
    subst q
    exact hne (W.inj eg ef)
theorem Few.brn (o : NetOk N) (hk : KdsOk N ks) {t f x : Nat} {a : Int} : Brn N (fewK ks I) t f x a ↔ ∃ k, I[f]? = some k ∧ Brn N ks t k x a := by
  constructor
  · rintro ⟨h1, h2, h3, _⟩
    obtain ⟨k, e, h⟩ := W.on.mp h3
    exact ⟨k, e, h1, h2, h, W.al k (List.mem_of_getElem? e) _⟩
  · rintro ⟨k, e, h1, h2, h3, _⟩
    exact ⟨h1, h2, W.on.mpr ⟨k, e, h3⟩, fun t' _ x' g => W.none o hk t' x' f g⟩
theorem Few.losses (o : NetOk N) (hk : KdsOk N ks) : Losses N (fewK ks I) [] :=
  ⟨.nil, .nil, fun c => ⟨fun h => (by cases h), fun ⟨t, _, h⟩ => absurd h (W.none o hk t _ _ _)⟩⟩
/-- the fates are those of the flames -/
theorem Few.fates (o : NetOk N) (hk : KdsOk N ks) {R : List C4} (hR : Losses N ks R) : fatesR N (fewK ks I) [] = I.map fun k => (fatesR N ks R).getD k (.ended 0 0) := by
  refine List.ext_getElem? fun f => ?_
  rw [List.getElem?_map]
  cases e : I[f]? with
  | none =>
    refine List.getElem?_eq_none ?_
    rw [fatesR_len]
    unfold fewK
    rw [List.length_map]
    exact List.getElem?_eq_none_iff.mp e
  | some k =>
    have hkl := W.lt k (List.mem_of_getElem? e)
    have hp := getD_lt hkl
    have h1 := (fatesR_get o (W.ok hk) (W.losses o hk) (W.get.mpr ⟨k, e, hp⟩)).2 fun t x g => W.none o hk t x f g
    have h2 := (fatesR_get o hk hR hp).2 fun t x g h => W.al k (List.mem_of_getElem? e) (t + 1) t (by omega) x g h
    have h3 : (fatesR N ks R).getD k (.ended 0 0) = fateA N (ks.getD k (0, 0)) := getD_get h2
    rw [h1]
    exact congrArg some h3.symm
end
def isGoes : Fate → Bool
  | .goes _ _ => true
  | .lost _ _ _ => false
  | .ended _ _ => false
theorem upN_ext {a b : List Nat} (ha : a.Pairwise (· < ·)) (hb : b.Pairwise (· < ·)) (h : ∀ x, x ∈ a ↔ x ∈ b) : a = b := by
  have h1 : a.map (fun n : Nat => (n : Int)) = b.map (fun n : Nat => (n : Int)) := up_ext (List.pairwise_map.mpr (ha.imp fun q => by omega)) (List.pairwise_map.mpr (hb.imp fun q => by omega)) fun x => by
    rw [List.mem_map, List.mem_map]
    exact ⟨fun ⟨n, hn, e⟩ => ⟨n, (h n).mp hn, e⟩, fun ⟨n, hn, e⟩ => ⟨n, (h n).mpr hn, e⟩⟩
  exact (List.map_inj_right fun x y e => by omega).mp h1
section
variable {N : Net} {ks : Kds} {I : List Nat} {R : List C4}
/-- all that go on are among them -/
def AllGo (N : Net) (ks : Kds) (R : List C4) (I : List Nat) : Prop := ∀ k, k < ks.length → isGoes ((fatesR N ks R).getD k (.ended 0 0)) = true → k ∈ I
theorem fates_rng : fatesR N ks R = (List.range ks.length).map fun f => (fatesR N ks R).getD f (.ended 0 0) := by
  refine List.ext_getElem? fun i => ?_
  rw [List.getElem?_map]
  rcases Nat.lt_or_ge i ks.length with h | h
  · rw [List.getElem?_range h]
    show _ = some ((fatesR N ks R).getD i (.ended 0 0))
    have hl : i < (fatesR N ks R).length := by rw [fatesR_len]; exact h
    rw [List.getD_eq_getElem?_getD, List.getElem?_eq_getElem hl]
    rfl
  · rw [List.getElem?_eq_none (by rw [fatesR_len]; exact h), List.getElem?_eq_none (by rw [List.length_range]; exact h)]
    rfl
theorem Few.goes (W : Few N ks I) (o : NetOk N) (hk : KdsOk N ks) (hR : Losses N ks R) (G : AllGo N ks R I) : (fatesR N (fewK ks I) []).filter isGoes = (fatesR N ks R).filter isGoes := by
  rw [W.fates o hk hR]
  have e2 : (fatesR N ks R).filter isGoes = ((List.range ks.length).filter fun k => isGoes ((fatesR N ks R).getD k (.ended 0 0))).map fun k => (fatesR N ks R).getD k (.ended 0 0) := by
    have := congrArg (List.filter isGoes) (fates_rng (N := N) (ks := ks) (R := R))
    rw [List.filter_map] at this
    exact this
  rw [e2, List.filter_map]
  refine congrArg _ (upN_ext (W.up.filter _) (List.pairwise_lt_range.filter _) fun k => ?_)
  rw [List.mem_filter, List.mem_filter, List.mem_range]
  exact ⟨fun ⟨h1, h2⟩ => ⟨W.lt k h1, h2⟩, fun ⟨h1, h2⟩ => ⟨G k h1 h2, h2⟩⟩
theorem Few.rest (W : Few N ks I) (o : NetOk N) (hk : KdsOk N ks) (hR : Losses N ks R) {first first' : Int} (h : RestOk N ks R first) (h' : RestOk N (fewK ks I) [] first') : first' ≤ first := by
  by_cases e : fewK ks I = []
  · rw [h'.nil e]
    exact h.nonneg o hk hR
  · obtain ⟨f, hf, q⟩ := h'.at_ e
    have hI : f < I.length := by unfold fewK at hf; rw [List.length_map] at hf; exact hf
    obtain ⟨k, ek⟩ : ∃ k, I[f]? = some k := ⟨I[f], List.getElem?_eq_getElem hI⟩
    have hkl := W.lt k (List.mem_of_getElem? ek)
    have e1 : (fewK ks I).getD f (0, 0) = ks.getD k (0, 0) := by
      rw [List.getD_eq_getElem?_getD, W.get.mpr ⟨k, ek, getD_lt hkl⟩]
      rfl
    have e2 : (fatesR N (fewK ks I) []).getD f (.ended 0 0) = (fatesR N ks R).getD k (.ended 0 0) := by
      rw [W.fates o hk hR, List.getD_eq_getElem?_getD, List.getElem?_map, ek]
      rfl
    rw [q, e1, e2]
    exact h.le k hkl
def BurnV (N : Net) (ks : Kds) (x : Nat) (u : V) : Prop := (u = .non ∧ ∀ T, ∃ t, T ≤ t ∧ ¬ LitN N ks x t) ∨ ∃ r : Nat, u = .int (r : Nat) ∧ EverFrom N ks x r
theorem Few.lit (W : Few N ks I) (o : NetOk N) (hk : KdsOk N ks) {x t : Nat} : LitN N (fewK ks I) x t ↔ ∃ k ∈ I, ∃ a, Brn N ks t k x a := by
  constructor
  · rintro ⟨f, a, h⟩
    obtain ⟨k, e, hb⟩ := (W.brn o hk).mp h
    exact ⟨k, List.mem_of_getElem? e, a, hb⟩
  · rintro ⟨k, hkI, a, hb⟩
    obtain ⟨f, e⟩ := List.getElem?_of_mem hkI
    exact ⟨f, a, (W.brn o hk).mpr ⟨k, e, hb⟩⟩
end
end Em

namespace Em
open PySem PySem.Spec PyProof.Rows L2 Qt
section
variable {N N' : Net} {ks : Kds} {g : Nat → Nat}
section
variable (M : Nm N N' g)
include M
end
end
end Em

namespace Em
open PySem PySem.Spec PyProof.Rows L2 Qt
theorem srtZ_mul {c : Int} (hc : 0 < c) (l : List Int) : srtZ (l.map (· * c)) = (srtZ l).map (· * c) := by
  unfold srtZ
  refine (List.map_mergeSort (r := fun a b : Int => decide (a ≤ b)) (s := fun a b : Int => decide (a ≤ b)) (f := (· * c)) fun a _ b _ => ?_).symm
  have : a ≤ b ↔ a * c ≤ b * c := ⟨fun h => Int.mul_le_mul_of_nonneg_right h (Int.le_of_lt hc), fun h => Int.le_of_mul_le_mul_right h hc⟩
  by_cases q : a ≤ b
  · rw [decide_eq_true q, decide_eq_true (this.mp q)]
  · rw [decide_eq_false q, decide_eq_false fun z => q (this.mpr z)]
theorem diffZ_mul (c : Int) : ∀ l : List Int, diffZ (l.map (· * c)) = (diffZ l).map (· * c)
  | [] => rfl
  | [_] => rfl
  | a :: b :: r => by
    show (b * c - a * c) :: diffZ ((b :: r).map (· * c)) = (b - a) * c :: (diffZ (b :: r)).map (· * c)
    rw [diffZ_mul c (b :: r), Int.sub_mul]
theorem gapsZ_mul {c : Int} (hc : 0 < c) (L d : Int) (bs : List Int) : gapsZ (L * c) (bs.map fun b => b * c + d) = (gapsZ L bs).map (· * c) := by
  cases bs with
  | nil => rfl
  | cons b bs =>
    show diffZ (srtZ (((b :: bs).map fun b => b * c + d).map fun x => (x - (b * c + d)) % (L * c)) ++ [L * c]) = (diffZ (srtZ ((b :: bs).map fun x => (x - b) % L) ++ [L])).map (· * c)
    rw [← diffZ_mul, List.map_append, ← srtZ_mul hc, List.map_map, List.map_map]
    congr 3
    refine List.map_congr_left fun x _ => ?_
    show (x * c + d - (b * c + d)) % (L * c) = (x - b) % L * c
    rw [show x * c + d - (b * c + d) = (x - b) * c by rw [Int.sub_mul]; omega, Int.mul_comm (x - b) c, Int.mul_comm L c, Int.mul_emod_mul_of_pos _ _ hc, Int.mul_comm]
theorem rotZ_mul {c : Int} (hc : 0 < c) (gs : List Int) (m : Nat) : rotZ (gs.map (· * c)) m = rotZ gs m := by
  unfold rotZ
  rw [← List.map_drop, ← List.map_take, ← List.map_append]
  have inj : ∀ a b : List Int, a.map (· * c) = b.map (· * c) ↔ a = b := fun a b => ⟨fun h => List.map_inj_right (fun x y e => Int.eq_of_mul_eq_mul_right (by omega) e) |>.mp h, fun h => by rw [h]⟩
  exact decide_eq_decide.mpr (inj _ _)
theorem sum_mul (c : Int) : ∀ l : List Int, (l.map (· * c)).sum = l.sum * c
  | [] => by show (0 : Int) = 0 * c; omega
  | a :: r => by
    rw [List.map_cons, List.sum_cons, List.sum_cons, sum_mul c r, Int.add_mul]
theorem roundZ_mul {c : Int} (hc : 0 < c) {gs : List Int} (h : gs ≠ []) : roundZ (gs.map (· * c)) = roundZ gs * c := by
  unfold roundZ
  rw [List.length_map, show rotZ (gs.map (· * c)) = rotZ gs from funext (rotZ_mul hc gs)]
  cases q : (List.range gs.length).find? (rotZ gs) with
  | some m =>
    show ((gs.map (· * c)).take (m + 1)).sum = (gs.take (m + 1)).sum * c
    rw [← List.map_take, sum_mul]
  | none =>
    have hp := List.length_pos_iff.mpr h
    have := List.find?_eq_none.mp q (gs.length - 1) (List.mem_range.mpr (by omega))
    refine absurd ?_ this
    unfold rotZ
    refine decide_eq_true ?_
    rw [show gs.length - 1 + 1 = gs.length by omega, List.drop_length, List.take_length, List.nil_append]
theorem lcm_mul {α : Type} {v v' : α → Nat} {P : α → Prop} {c : Nat} : ∀ (L : List α) (m : Nat), (∀ x ∈ L, P x → v' x = v x * c) → (∀ x ∈ L, ¬ P x → v x = 1 ∧ v' x = 1) →
    L.foldl (fun m x => Nat.lcm m (v' x)) (m * c) = L.foldl (fun m x => Nat.lcm m (v x)) m * c
  | [], _, _, _ => rfl
  | x :: L, m, h1, h2 => by
    rw [List.foldl_cons, List.foldl_cons]
    have h1' : ∀ y ∈ L, P y → v' y = v y * c := fun y hy => h1 y (List.mem_cons_of_mem _ hy)
    have h2' : ∀ y ∈ L, ¬ P y → v y = 1 ∧ v' y = 1 := fun y hy => h2 y (List.mem_cons_of_mem _ hy)
    by_cases q : P x
    · rw [h1 x List.mem_cons_self q, Nat.lcm_mul_right]
      exact lcm_mul L _ h1' h2'
    · obtain ⟨a, b⟩ := h2 x List.mem_cons_self q
      rw [a, b, Nat.lcm_one_right, Nat.lcm_one_right]
      exact lcm_mul L _ h1' h2'
theorem lcm_one {α : Type} {v v' : α → Nat} {P : α → Prop} {c : Nat} : ∀ (L : List α), (∀ x ∈ L, P x → v' x = v x * c) → (∀ x ∈ L, ¬ P x → v x = 1 ∧ v' x = 1) →
    ((∃ x ∈ L, P x) → L.foldl (fun m x => Nat.lcm m (v' x)) 1 = L.foldl (fun m x => Nat.lcm m (v x)) 1 * c) ∧ ((¬ ∃ x ∈ L, P x) → L.foldl (fun m x => Nat.lcm m (v' x)) 1 = L.foldl (fun m x => Nat.lcm m (v x)) 1)
  | [], _, _ => ⟨fun ⟨x, hx, _⟩ => by (cases hx), fun _ => rfl⟩
  | x :: L, h1, h2 => by
    rw [List.foldl_cons, List.foldl_cons]
    have h1' : ∀ y ∈ L, P y → v' y = v y * c := fun y hy => h1 y (List.mem_cons_of_mem _ hy)
    have h2' : ∀ y ∈ L, ¬ P y → v y = 1 ∧ v' y = 1 := fun y hy => h2 y (List.mem_cons_of_mem _ hy)
    by_cases q : P x
    · refine ⟨fun _ => ?_, fun h => absurd ⟨x, List.mem_cons_self, q⟩ h⟩
      rw [h1 x List.mem_cons_self q, Nat.lcm_one_left, Nat.lcm_one_left]
      exact lcm_mul L _ h1' h2'
    · obtain ⟨a, b⟩ := h2 x List.mem_cons_self q
      rw [a, b, Nat.lcm_one_right]
      obtain ⟨i1, i2⟩ := lcm_one L h1' h2'
      refine ⟨fun ⟨y, hy, hP⟩ => i1 ?_, fun h => i2 fun ⟨y, hy, hP⟩ => h ⟨y, List.mem_cons_of_mem _ hy, hP⟩⟩
      rcases List.mem_cons.mp hy with rfl | hy
      · exact absurd hP q
      · exact ⟨y, hy, hP⟩
section
variable {N : Net} {ks : Kds} {c d : Nat}
theorem tm_wayA (x : Nat) : wayA (tmN N c) x = wayA N x := by
  have := tm_cut (N := N) (c := c) x
  unfold cutN at this
  unfold wayA
  rw [this, tm_path]
theorem scl_len : (shK d (tmK ks c)).length = ks.length := by unfold shK tmK; rw [List.length_map, List.length_map]
theorem scl_get {f : Nat} {p : Nat × Nat} (h : ks[f]? = some p) : (shK d (tmK ks c))[f]? = some (p.1 * c + d, p.2) := by
  unfold shK tmK
  rw [List.getElem?_map, List.getElem?_map, h]
  rfl
theorem scl_ok (hk : KdsOk N ks) : KdsOk (tmN N c) (shK d (tmK ks c)) := la_kok (E := []) (tmK_ok hk)
def Goer (N : Net) (FS : List Fate) : Prop := ∃ x, x < N.length ∧ wayA N x = [] ∧ gapsZ (lapOf N x) (beatsX N FS x) ≠ []
theorem gaps_ne {L : Int} {bs : List Int} : gapsZ L bs ≠ [] ↔ bs ≠ [] := by
  rw [← List.length_pos_iff, gapsZ_len, List.length_pos_iff]
theorem goes_ring (o : NetOk N) (hk : KdsOk N ks) {R : List C4} (hR : Losses N ks R) {x : Nat} {t : Int} (h : Fate.goes x t ∈ fatesR N ks R) : x ∈ ringsL N N.length := by
  obtain ⟨f, hf, e⟩ := List.getElem_of_mem h
  rw [fatesR_len] at hf
  obtain ⟨p, hp⟩ : ∃ p, ks[f]? = some p := ⟨_, List.getElem?_eq_getElem hf⟩
  have hy := hk p (List.mem_of_getElem? hp)
  have e2 : (fatesR N ks R).getD f (.ended 0 0) = .goes x t := by
    rw [List.getD_eq_getElem?_getD, List.getElem?_eq_getElem (by rw [fatesR_len]; exact hf), e]
    rfl
  rcases fate_case o hk hR hp with ⟨_, _, _, _, e3⟩ | ⟨_, _, e3⟩ | ⟨_, hw, e3⟩
  · rw [e2] at e3; cases e3
  · rw [e2] at e3; cases e3
  · rw [e2] at e3
    cases e3
    obtain ⟨hm, hle⟩ := minN_mem hw
    have hml := way_sub o hy _ hm
    obtain ⟨k, hgo⟩ := ((wayR_iff o hy).mp hm).1
    have along := ring_along o hy hml hgo
    exact List.mem_filter.mpr ⟨List.mem_range.mpr hml, root_iff.mpr ⟨(along _).mpr hm, fun y hy => hle y ((along y).mp hy)⟩⟩
theorem goes_root (o : NetOk N) (hk : KdsOk N ks) {R : List C4} (hR : Losses N ks R) {x : Nat} (hx : x ∈ ringsL N N.length) : gapsZ (lapOf N x) (beatsX N (fatesR N ks R) x) ≠ [] ↔ ∃ t, Fate.goes x t ∈ fatesR N ks R := by
  obtain ⟨_, _, hm⟩ := rings_rt o hx
  rw [gaps_ne]
  unfold beatsX
  rw [hm]
  constructor
  · intro h
    obtain ⟨b, hb⟩ := List.exists_mem_of_ne_nil _ h
    obtain ⟨F, hF, e⟩ := List.mem_filterMap.mp hb
    cases F with
    | goes y t =>
      have e : (if y = x then some t else none) = some b := e
      by_cases q : y = x
      · exact ⟨t, by rw [← q]; exact hF⟩
      · rw [if_neg q] at e; cases e
    | lost t y g => cases e
    | ended t y => cases e
  · rintro ⟨t, h⟩ e
    have : t ∈ (fatesR N ks R).filterMap (beatE x) := List.mem_filterMap.mpr ⟨_, h, if_pos rfl⟩
    rw [e] at this
    cases this
theorem goer_root (o : NetOk N) {FS : List Fate} : Goer N FS ↔ ∃ x ∈ ringsL N N.length, gapsZ (lapOf N x) (beatsX N FS x) ≠ [] := by
  constructor
  · rintro ⟨x, hx, hA, h⟩
    obtain ⟨r, hr, hrl, hrA, hxr, hm⟩ := ring_rt o hx hA
    obtain ⟨_, _, hL, hRR⟩ := ring_same o hrl hrA hxr
    have hxx : x ∈ wayR N x := (ring_root hA).mpr (path_self N x)
    refine ⟨r, hr, ?_⟩
    rw [gaps_ne] at h ⊢
    rwa [beatsX_same o FS hRR fun e => by rw [e] at hxx; cases hxx] at h
  · rintro ⟨x, hx, h⟩
    obtain ⟨hl, hA, _⟩ := rings_rt o hx
    exact ⟨x, hl, hA, h⟩
theorem goer_goes (o : NetOk N) (hk : KdsOk N ks) {R : List C4} (hR : Losses N ks R) : Goer N (fatesR N ks R) ↔ ∃ x t, Fate.goes x t ∈ fatesR N ks R := by
  rw [goer_root o]
  constructor
  · rintro ⟨x, hx, h⟩
    exact ⟨x, (goes_root o hk hR hx).mp h⟩
  · rintro ⟨x, t, h⟩
    have hx := goes_ring o hk hR h
    exact ⟨x, hx, (goes_root o hk hR hx).mpr ⟨t, h⟩⟩
theorem beats_gr (FS : List Fate) (x : Nat) : beatsX (tmN N c) (FS.map (grF c d)) x = (beatsX N FS x).map fun b => b * (c : Int) + (d : Int) := by
  unfold beatsX
  rw [tm_wayR]
  induction FS with
  | nil => rfl
  | cons F FS ih =>
    rw [List.map_cons]
    cases F with
    | goes y t =>
      by_cases q : y = minN (wayR N x)
      · have e1 : beatE (minN (wayR N x)) (grF c d (.goes y t)) = some (t * c + d) := if_pos q
        have e2 : beatE (minN (wayR N x)) (.goes y t) = some t := if_pos q
        rw [List.filterMap_cons_some e1, List.filterMap_cons_some e2, List.map_cons, ih]
      · have e1 : beatE (minN (wayR N x)) (grF c d (.goes y t)) = none := if_neg q
        have e2 : beatE (minN (wayR N x)) (.goes y t) = none := if_neg q
        rw [List.filterMap_cons_none e1, List.filterMap_cons_none e2, ih]
    | lost t y g =>
      rw [List.filterMap_cons_none (show beatE (minN (wayR N x)) (grF c d (.lost t y g)) = none from rfl), List.filterMap_cons_none (show beatE (minN (wayR N x)) (.lost t y g) = none from rfl), ih]
    | ended t y =>
      rw [List.filterMap_cons_none (show beatE (minN (wayR N x)) (grF c d (.ended t y)) = none from rfl), List.filterMap_cons_none (show beatE (minN (wayR N x)) (.ended t y) = none from rfl), ih]
variable {R R' : List C4}
/-- gaps -/
theorem scl_gaps (o : NetOk N) (hk : KdsOk N ks) (hc : 1 ≤ c) (hR : Losses N ks R) (hR' : Losses (tmN N c) (shK d (tmK ks c)) R') {x : Nat} (hx : x < N.length) :
    gapsZ (lapOf (tmN N c) x) (beatsX (tmN N c) (fatesR (tmN N c) (shK d (tmK ks c)) R') x) = (gapsZ (lapOf N x) (beatsX N (fatesR N ks R) x)).map (· * (c : Int)) := by
  rw [great_fates o hk hc hR hR', beats_gr, tm_lap o hx, gapsZ_mul (by omega)]
theorem mul_toNat {a : Int} {c : Nat} (h : 0 ≤ a) : (a * (c : Int)).toNat = a.toNat * c := by
  obtain ⟨n, rfl⟩ := Int.eq_ofNat_of_zero_le h
  rw [← Int.natCast_mul, Int.toNat_natCast, Int.toNat_natCast]
def lapF (N : Net) : Fate → Nat
  | .goes x _ => (lapOf N x).toNat
  | .lost _ _ _ => 1
  | .ended _ _ => 1
theorem again_fold (N : Net) (FS : List Fate) : againF N FS = FS.foldl (fun m F => Nat.lcm m (lapF N F)) 1 := by
  unfold againF
  congr 1
  funext m F
  cases F with
  | goes x t => rfl
  | lost t x g => exact (Nat.lcm_one_right m).symm
  | ended t x => exact (Nat.lcm_one_right m).symm
/-- when what burns comes again -/
theorem scl_again (o : NetOk N) (hk : KdsOk N ks) (hc : 1 ≤ c) (hR : Losses N ks R) (hR' : Losses (tmN N c) (shK d (tmK ks c)) R') :
    (Goer N (fatesR N ks R) → againF (tmN N c) (fatesR (tmN N c) (shK d (tmK ks c)) R') = againF N (fatesR N ks R) * c) ∧ (¬ Goer N (fatesR N ks R) → againF (tmN N c) (fatesR (tmN N c) (shK d (tmK ks c)) R') = againF N (fatesR N ks R)) := by
  rw [great_fates o hk hc hR hR', again_fold, again_fold, List.foldl_map, goer_goes o hk hR]
  have lt : ∀ x t, Fate.goes x t ∈ fatesR N ks R → x < N.length := fun x t h => (rings_rt o (goes_ring o hk hR h)).1
  obtain ⟨h1, h2⟩ := lcm_one (v := lapF N) (v' := fun F => lapF (tmN N c) (grF c d F)) (P := fun F => ∃ x t, F = .goes x t) (c := c) (fatesR N ks R) (fun F hF => by
    rintro ⟨x, t, rfl⟩
    have hx := lt x t hF
    show (lapOf (tmN N c) x).toNat = (lapOf N x).toNat * c
    rw [tm_lap o hx, mul_toNat (lap_nonneg o hx)]) fun F hF hn => by
      cases F with
      | goes x t => exact absurd ⟨x, t, rfl⟩ hn
      | lost t x g => exact ⟨rfl, rfl⟩
      | ended t x => exact ⟨rfl, rfl⟩
  refine ⟨fun ⟨x, t, h⟩ => h1 ⟨_, h, x, t, rfl⟩, fun h => h2 ?_⟩
  rintro ⟨_, hF, x, t, rfl⟩
  exact h ⟨x, t, hF⟩
/-- the round of the lamps -/
theorem scl_round (o : NetOk N) (hk : KdsOk N ks) (hc : 1 ≤ c) (hR : Losses N ks R) (hR' : Losses (tmN N c) (shK d (tmK ks c)) R') :
    (Goer N (fatesR N ks R) → roundN (tmN N c) (fatesR (tmN N c) (shK d (tmK ks c)) R') = roundN N (fatesR N ks R) * c) ∧ (¬ Goer N (fatesR N ks R) → roundN (tmN N c) (fatesR (tmN N c) (shK d (tmK ks c)) R') = roundN N (fatesR N ks R)) := by
  have er : ringsL (tmN N c) (tmN N c).length = ringsL N N.length := by
    unfold ringsL
    rw [tmN_len]
    congr 1
    funext x
    unfold rootB
    rw [tm_wayR]
  have cc : (0 : Int) < (c : Int) := by omega
  rw [goer_root o]
  unfold roundN
  rw [er]
  refine lcm_one (v := fun x => (roundZ (gapsZ (lapOf N x) (beatsX N (fatesR N ks R) x))).toNat) (v' := fun x => (roundZ (gapsZ (lapOf (tmN N c) x) (beatsX (tmN N c) (fatesR (tmN N c) (shK d (tmK ks c)) R') x))).toNat) (P := fun x => gapsZ (lapOf N x) (beatsX N (fatesR N ks R) x) ≠ []) (c := c) (ringsL N N.length) (fun x hx hP => ?_) fun x hx hn => ?_
  · obtain ⟨hl, _, _⟩ := rings_rt o hx
    show (roundZ (gapsZ (lapOf (tmN N c) x) (beatsX (tmN N c) (fatesR (tmN N c) (shK d (tmK ks c)) R') x))).toNat = _
    rw [scl_gaps o hk hc hR hR' hl, roundZ_mul cc hP, mul_toNat]
    unfold roundZ
    split
    · rename_i m _
      have hL : 0 < lapOf N x := by
        obtain ⟨_, hA, _⟩ := rings_rt o hx
        have hxx : x ∈ wayR N x := (ring_root hA).mpr (path_self N x)
        exact lap_pos o hl fun e => by rw [e] at hxx; cases hxx
      exact (sum_take _ _ (gapsZ_nonneg hL _)).1
    · decide
  · obtain ⟨hl, _, _⟩ := rings_rt o hx
    have e : gapsZ (lapOf N x) (beatsX N (fatesR N ks R) x) = [] := Classical.not_not.mp hn
    show (roundZ _).toNat = 1 ∧ (roundZ (gapsZ (lapOf (tmN N c) x) (beatsX (tmN N c) (fatesR (tmN N c) (shK d (tmK ks c)) R') x))).toNat = 1
    rw [scl_gaps o hk hc hR hR' hl, e]
    exact ⟨rfl, rfl⟩
theorem some_stays (o : NetOk N) (hk : KdsOk N ks) (hne : ks ≠ []) : ∃ f, f < ks.length ∧ ∀ t x g, ¬ LostAt N ks t x f g := by
  obtain ⟨B, hB, _⟩ := lost_bound o hk
  have key : ∀ n t x f g, LostAt N ks t x f g → B - t ≤ n → ∃ f, f < ks.length ∧ ∀ t x g, ¬ LostAt N ks t x f g := by
    intro n
    induction n with
    | zero =>
      intro t x f g h hn
      by_cases q : ∃ t' x' g', LostAt N ks t' x' g g'
      · obtain ⟨t', x', g', h'⟩ := q
        have := rob_first o hk h' h
        have := hB _ _ _ _ h'
        have := hB _ _ _ _ h
        omega
      · exact ⟨g, (lost_lt o hk h).2.1, fun t x g' h' => q ⟨t, x, g', h'⟩⟩
    | succ n ih =>
      intro t x f g h hn
      by_cases q : ∃ t' x' g', LostAt N ks t' x' g g'
      · obtain ⟨t', x', g', h'⟩ := q
        have := rob_first o hk h' h
        exact ih _ _ _ _ h' (by omega)
      · exact ⟨g, (lost_lt o hk h).2.1, fun t x g' h' => q ⟨t, x, g', h'⟩⟩
  have h0 := List.length_pos_iff.mpr hne
  by_cases q : ∃ t x g, LostAt N ks t x 0 g
  · obtain ⟨t, x, g, h⟩ := q
    exact key _ t x 0 g h (Nat.le_refl _)
  · exact ⟨0, h0, fun t x g h => q ⟨t, x, g, h⟩⟩
theorem scl_rest (o : NetOk N) (hk : KdsOk N ks) (hc : 1 ≤ c) (hR : Losses N ks R) (hR' : Losses (tmN N c) (shK d (tmK ks c)) R') {first first' : Int} (h : RestOk N ks R first) (h' : RestOk (tmN N c) (shK d (tmK ks c)) R' first') :
    (ks = [] → first = 0 ∧ first' = 0) ∧ (ks ≠ [] → first' = first * c + d) := by
  have len : (shK d (tmK ks c)).length = ks.length := scl_len
  refine ⟨fun e => ⟨h.nil e, h'.nil (by rw [e]; rfl)⟩, fun hne => ?_⟩
  have hne' : shK d (tmK ks c) ≠ [] := fun e => hne (List.eq_nil_of_length_eq_zero (by rw [← len, e]; rfl))
  have cc : (1 : Int) ≤ (c : Int) := by omega
  have f0 := h.nonneg o hk hR
  -- rest of one flame
  have one : ∀ f, f < ks.length → restR (tmN N c) ((shK d (tmK ks c)).getD f (0, 0)) ((fatesR (tmN N c) (shK d (tmK ks c)) R').getD f (.ended 0 0)) ≤ restR N (ks.getD f (0, 0)) ((fatesR N ks R).getD f (.ended 0 0)) * c + d ∧
      (0 < restR N (ks.getD f (0, 0)) ((fatesR N ks R).getD f (.ended 0 0)) ∨ (∀ t x g, ¬ LostAt N ks t x f g) → restR (tmN N c) ((shK d (tmK ks c)).getD f (0, 0)) ((fatesR (tmN N c) (shK d (tmK ks c)) R').getD f (.ended 0 0)) = restR N (ks.getD f (0, 0)) ((fatesR N ks R).getD f (.ended 0 0)) * c + d) := by
    intro f hf
    obtain ⟨p, hp⟩ : ∃ p, ks[f]? = some p := ⟨_, List.getElem?_eq_getElem hf⟩
    have hy := hk p (List.mem_of_getElem? hp)
    have eF : (fatesR (tmN N c) (shK d (tmK ks c)) R').getD f (.ended 0 0) = grF c d ((fatesR N ks R).getD f (.ended 0 0)) := by
      rw [great_fates o hk hc hR hR', List.getD_eq_getElem?_getD, List.getElem?_map, List.getD_eq_getElem?_getD, List.getElem?_eq_getElem (by rw [fatesR_len]; exact hf)]
      rfl
    rw [eF, getD_get (scl_get (c := c) (d := d) hp), getD_get hp]
    have same : ∀ t : Int, (((p.1 * c + d : Nat) : Int) < t * c + d ↔ (p.1 : Int) < t) := fun t => by
      rw [Int.natCast_add, Int.natCast_mul]
      constructor
      · intro q
        exact Int.lt_of_mul_lt_mul_right (a := (c : Int)) (by omega) (by omega)
      · intro q
        have := Int.mul_lt_mul_of_pos_right q (show (0 : Int) < (c : Int) by omega)
        omega
    have cut : ∀ t : Int, (if ((p.1 * c + d : Nat) : Int) < t * c + d then t * c + d else 0) ≤ (if (p.1 : Int) < t then t else 0) * (c : Int) + d ∧ (0 < (if (p.1 : Int) < t then t else 0) → (if ((p.1 * c + d : Nat) : Int) < t * c + d then t * c + d else 0) = (if (p.1 : Int) < t then t else 0) * (c : Int) + d) := fun t => by
      by_cases q : (p.1 : Int) < t
      · rw [if_pos q, if_pos ((same t).mpr q)]
        exact ⟨Int.le_refl _, fun _ => rfl⟩
      · rw [if_neg q, if_neg fun z => q ((same t).mp z)]
        exact ⟨by omega, fun z => by omega⟩
    rcases fate_case o hk hR hp with ⟨t, x, g, hl, e⟩ | ⟨_, hw, e⟩ | ⟨_, hw, e⟩
    · rw [e]
      obtain ⟨c1, c2⟩ := cut t
      refine ⟨c1, fun q => ?_⟩
      rcases q with q | q
      · exact c2 q
      · exact absurd hl (q _ _ _)
    · rw [e]
      obtain ⟨c1, c2⟩ := cut (frst N p.1 p.2 (path N p.2).length)
      refine ⟨c1, fun _ => c2 ?_⟩
      have hlt : (p.1 : Int) < frst N p.1 p.2 (path N p.2).length := by
        have h0 := (path_been o hy).pos
        have h3 := frst_gap o hy p.1 (List.getElem?_eq_getElem h0) h0
        have h4 := burn_pos o ((path_been o hy).lt _ (List.getElem_mem h0))
        have h5 : frst N p.1 p.2 0 = p.1 := by show (p.1 : Int) + 0 = _; omega
        omega
      rw [if_pos hlt]
      omega
    · rw [e]
      have e2 : restR (tmN N c) (p.1 * c + d, p.2) (grF c d (.goes (minN (wayR N p.2)) (frstOf N p.1 p.2 (minN (wayR N p.2))))) = restR N p (.goes (minN (wayR N p.2)) (frstOf N p.1 p.2 (minN (wayR N p.2)))) * c + d := by
        show ((p.1 * c + d : Nat) : Int) + sumB (tmN N c) (wayA (tmN N c) p.2) = ((p.1 : Int) + sumB N (wayA N p.2)) * c + d
        rw [tm_wayA, tm_sum (g := wayA N p.2) fun y hy2 => (path_been o hy).lt y (List.mem_of_mem_take hy2), Int.add_mul, Int.natCast_add, Int.natCast_mul]
        omega
      exact ⟨Int.le_of_eq e2, fun _ => e2⟩
  refine Int.le_antisymm ?_ ?_
  · obtain ⟨f, hf, e⟩ := h'.at_ hne'
    rw [len] at hf
    rw [e]
    refine Int.le_trans (one f hf).1 ?_
    have := Int.mul_le_mul_of_nonneg_right (h.le f hf) (show (0 : Int) ≤ (c : Int) by omega)
    omega
  · rcases Int.lt_or_le 0 first with q | q
    · obtain ⟨f, hf, e⟩ := h.at_ hne
      rw [e, ← (one f hf).2 (.inl (by rw [← e]; exact q))]
      exact h'.le f (by rw [len]; exact hf)
    · obtain ⟨f, hf, hs⟩ := some_stays o hk hne
      have h1 := h.le f hf
      obtain ⟨p, hp⟩ : ∃ p, ks[f]? = some p := ⟨_, List.getElem?_eq_getElem hf⟩
      have h2 := rest_nonneg o hk hR hp
      rw [← getD_get (d := ((0 : Nat), (0 : Nat))) hp] at h2
      have e0 : first = restR N (ks.getD f (0, 0)) ((fatesR N ks R).getD f (.ended 0 0)) := by omega
      rw [e0, ← (one f hf).2 (.inr hs)]
      exact h'.le f (by rw [len]; exact hf)
theorem scl_lit (o : NetOk N) (hk : KdsOk N ks) (hc : 1 ≤ c) {x t r : Nat} (hr : r < c) : LitN (tmN N c) (shK d (tmK ks c)) x (t * c + r + d) ↔ LitN N ks x t := by
  have o1 := tmN_ok (N := N) o hc
  have hk' : KdsOk (tmN N c) (tmK ks c) := tmK_ok hk
  have L : Late (tmN N c) [] (tmK ks c) 0 d 0 := ⟨fun p _ => Nat.zero_le _, fun p h => (by cases h), fun h => absurd rfl h, fun h => absurd rfl h⟩
  rw [lit_cell o1 (scl_ok hk), lit_cell o hk]
  have h1 : stW (tmN N c) (shK d (tmK ks c)) (t * c + r + d + 1) = (stW (tmN N c) (tmK ks c) (t * c + r + 1)).map (shLt d) := la_st o1 (E := []) hk' L (t := t * c + r) (Nat.zero_le _)
  rw [h1, tm_st o hk hc hr, List.map_map, List.getD_eq_getElem?_getD, List.getElem?_map, List.getD_eq_getElem?_getD]
  cases (stW N ks (t + 1))[x]? with
  | none => exact Iff.rfl
  | some u =>
    cases u with
    | none => exact Iff.rfl
    | some z => exact ⟨fun _ => Option.some_ne_none z, fun _ => Option.some_ne_none _⟩
theorem scl_dark (o : NetOk N) (hk : KdsOk N ks) (hc : 1 ≤ c) {x t : Nat} (ht : t < d) : ¬ LitN (tmN N c) (shK d (tmK ks c)) x t := by
  have o1 := tmN_ok (N := N) o hc
  rintro ⟨f, a, h0, h1, h2, h3⟩
  have hf : f < (shK d (tmK ks c)).length := by
    have := h2
    obtain ⟨p, hp, _⟩ := this
    exact (List.getElem?_eq_some_iff.mp hp).1
  rw [scl_len] at hf
  obtain ⟨p, hp⟩ : ∃ p, ks[f]? = some p := ⟨_, List.getElem?_eq_getElem hf⟩
  have h4 := onWay_ge o1 (scl_ok (c := c) (d := d) hk _ (List.mem_of_getElem? (scl_get (c := c) (d := d) hp))) ((on_get (scl_get (c := c) (d := d) hp)).mp h2)
  have h5 : ((p.1 * c + d : Nat) : Int) ≤ (t : Int) - a := h4
  rw [Int.natCast_add] at h5
  have : (0 : Int) ≤ ((p.1 * c : Nat) : Int) := Int.natCast_nonneg _
  omega
theorem div_at {c t : Nat} (hc : 1 ≤ c) : ∃ q r, t = q * c + r ∧ r < c := ⟨t / c, t % c, by rw [Nat.mul_comm]; exact (Nat.div_add_mod t c).symm, Nat.mod_lt _ (by omega)⟩
theorem scl_ever (o : NetOk N) (hk : KdsOk N ks) (hc : 1 ≤ c) {x r : Nat} (h : EverFrom N ks x r) : EverFrom (tmN N c) (shK d (tmK ks c)) x (r * c + d) := by
  refine ⟨fun t ht => ?_, fun hp hl => ?_⟩
  · obtain ⟨q, s, e, hs⟩ := div_at (t := t - d) hc
    rw [show t = q * c + s + d by omega, scl_lit o hk hc hs]
    refine h.1 q ?_
    rcases Nat.lt_or_ge q r with z | z
    · have := Nat.mul_le_mul_right c (show q + 1 ≤ r from z)
      rw [Nat.add_mul] at this
      omega
    · exact z
  · rcases Nat.eq_zero_or_pos r with z | z
    · subst z
      rw [Nat.zero_mul, Nat.zero_add] at hp hl
      exact scl_dark o hk hc (by omega) hl
    · have e : r * c = (r - 1) * c + c := by rw [← Nat.succ_mul, show (r - 1).succ = r by omega]
      rw [show r * c + d - 1 = (r - 1) * c + (c - 1) + d by omega, scl_lit o hk hc (by omega)] at hl
      exact h.2 z hl
theorem scl_ever' (o : NetOk N) (hk : KdsOk N ks) (hc : 1 ≤ c) {x : Nat} (h : ∃ r, EverFrom (tmN N c) (shK d (tmK ks c)) x r) : ∃ r, EverFrom N ks x r := by
  obtain ⟨r, h, _⟩ := h
  refine ever_least r fun t ht => ?_
  rw [← scl_lit o hk hc (c := c) (d := d) (r := 0) (by omega)]
  refine h _ ?_
  have := Nat.mul_le_mul_left t hc
  omega
end
end Em

namespace Em
open PySem PySem.Spec PyProof.Rows L2 Qt

section
variable {N : Net} {ks : Kds} {T : Nat}
end
end Em

namespace Em
open PySem PySem.Spec PyProof.Rows L2 Qt

structure FreeU (N : Net) (b : Int) (x : Nat) (upto : Int) (rows : List (Int × Nat)) : Prop where
  pw : rows.Pairwise fun r r' => r.1 < r'.1
  mem : ∀ t z, (t, z) ∈ rows ↔ OnWay N b x t z ∧ t < upto
structure FreeV (N : Net) (b : Int) (x : Nat) (u : Int) (rows : List (Int × Nat)) (t : Int) : Prop where
  ok : FreeOk N b x rows t
  pw : rows.Pairwise fun r r' => r.1 < r'.1
  le : ∀ r ∈ rows, r.1 < t ∧ r.1 < u
theorem FreeV.start {N : Net} {b u : Int} {x : Nat} : FreeV N b x u [] b := ⟨.start, .nil, fun r h => by cases h⟩
theorem FreeV.more {N : Net} (o : NetOk N) {b t u : Int} {x z : Nat} {rows : List (Int × Nat)} (hx : x < N.length) (f : FreeV N b x u rows t) (h : OnWay N b x t z) (ht : t < u) : FreeV N b x u (rows ++ [(t, z)]) (t + burnOf N z) := by
  have hz := burn_pos o (onWay_lt o hx h)
  refine ⟨f.ok.more o hx h, List.pairwise_append.mpr ⟨f.pw, List.pairwise_singleton _ _, fun r hr r' hr' => ?_⟩, fun r hr => ?_⟩
  · rw [List.mem_singleton.mp hr']; exact (f.le r hr).1
  · rcases List.mem_append.mp hr with hr | hr
    · have := f.le r hr
      exact ⟨by omega, this.2⟩
    · rw [List.mem_singleton.mp hr]; exact ⟨by show t < _; omega, ht⟩
theorem up_count {lo hi : Int} : ∀ {l : List (Int × Nat)}, l.Pairwise (fun r r' => r.1 < r'.1) → (∀ r ∈ l, lo ≤ r.1 ∧ r.1 < hi) → l.length ≤ (hi - lo).toNat
  | [], _, _ => Nat.zero_le _
  | a :: l, h, hb => by
    obtain ⟨h1, h2⟩ := List.pairwise_cons.mp h
    have ha := hb a List.mem_cons_self
    have := up_count (lo := a.1 + 1) h2 fun r hr => ⟨by have := h1 r hr; omega, (hb r (List.mem_cons_of_mem _ hr)).2⟩
    rw [List.length_cons]
    omega
theorem FreeV.many {N : Net} (o : NetOk N) {b t u : Int} {x : Nat} {rows : List (Int × Nat)} (hx : x < N.length) (f : FreeV N b x u rows t) (h : u ≤ b + 1000) : rows.length ≤ 1001 := by
  have := up_count (lo := b) (hi := u) f.pw fun r hr => ⟨onWay_ge o hx (f.ok.on r hr), (f.le r hr).2⟩
  omega
theorem FreeV.done {N : Net} (o : NetOk N) {b t u : Int} {x : Nat} {rows : List (Int × Nat)} (hx : x < N.length) (f : FreeV N b x u rows t) (h : u ≤ t ∨ (wayR N x = [] ∧ t = frst N b x (path N x).length)) : FreeU N b x u rows := by
  refine ⟨f.pw, fun s z => ⟨fun hm => ⟨f.ok.on _ hm, (f.le _ hm).2⟩, fun hm => ?_⟩⟩
  obtain ⟨ho, hs⟩ := hm
  have hst : s < t := by
    rcases h with h | ⟨h1, h2⟩
    · omega
    · obtain ⟨j, laps, hj, e, h0, hc⟩ := ho
      have hjl := (List.getElem?_eq_some_iff.mp hj).1
      have hz := burn_pos o ((path_been o hx).lt z (List.mem_of_getElem? hj))
      have hg := frst_gap o hx b hj hjl
      have : laps * lapOf N x = 0 := by
        have : lapOf N x = 0 := by unfold lapOf; rw [h1]; rfl
        rw [this, Int.mul_zero]
      omega
  obtain ⟨r, hr, h1, h2⟩ := f.ok.all s (onWay_ge o hx ho) hst
  obtain ⟨e1, e2⟩ := onWay_uniq o hx (f.ok.on r hr) ho h1 h2
  have : r = (s, z) := by
    obtain ⟨r1, r2⟩ := r
    exact Prod.ext e1.symm e2.symm
  rw [← this]; exact hr
def cstP (L : List (Nat × Nat)) : List (Int × Nat) := L.map fun r => ((r.1 : Int), r.2)
section
variable {N : Net} {ks : Kds} {T : Nat}
structure FlameR (N : Net) (F : List (Int × Nat)) (L D E : List (Nat × Nat)) (T : Nat) : Prop where
  pre : F.take L.length = cstP L
  one : D.length + E.length ≤ 1
  lost : ∀ d, D[0]? = some d → L.length < F.length ∧ F[L.length]? = some ((d.1 : Int), d.2)
  ended : ∀ d, E[0]? = some d → ∃ l, L[L.length - 1]? = some l ∧ l.2 < N.length ∧ nxt N l.2 = none ∧ (d.1 : Int) = l.1 + burnOf N l.2 ∧ d.2 = l.2 ∧ L.length = F.length
  rest : D = [] → E = [] → L.length = F.length ∧ ∃ l, L[L.length - 1]? = some l ∧ l.2 < N.length ∧ (nxt N l.2 = none → (T : Int) ≤ l.1 + burnOf N l.2)
end
theorem atI_end {ws : List V} {y : V} (h : ws[ws.length - 1]? = some y) : atI ws (-1) = some y := by
  have hne : ws ≠ [] := fun e => by rw [e] at h; cases h
  have e := (List.dropLast_concat_getLast hne).symm
  have hl : ws.getLast hne = y := by
    rw [List.getLast_eq_getElem]
    exact (List.getElem?_eq_some_iff.mp h).2
  rw [e, hl]
  exact atI_last _ _
end Em

namespace Em
open PySem PySem.W PySem.Calls PyProof.Rows HandSHeadRun
/-- the state ahead of the top -/
def openedI (p : Program) (w : World) : Option Shared := (importEnds treeTable (opening p) w 1100 (start (opening p)).1 (start (opening p)).2).bind (fenceModules? p)
def endImp (st : SharedT → Thread → Option (SharedT × Thread)) (M : Nat) (p : Program) (s0 : Shared) : Option SharedT :=
  match putAll s0.heap.objs.toList BT.nil 0 with
  | some (t, n) => frNat n fun n0 => goF st n0 (s0.heap.nsMap mainGlobals (Str.ofString "__annotations__")) M { tree := t, n := n, life := s0.heap.life, gens := #[], drawn := s0.drawn, toks := s0.toks, os := s0.os } (topStub p)
  | none => none
theorem endImp_ok {M : Nat} {p : Program} {w : World} {s0 : Shared} {s : SharedT} (h : endImp (stepT (denote treeTable) p w) M p s0 = some s) :
    topRun treeTable p w s0.heap.objs.size (s0.heap.nsMap mainGlobals (Str.ofString "__annotations__")) M { heap := s0.heap, gens := #[], drawn := s0.drawn, toks := s0.toks, os := s0.os } (topStub p) = some s.abs := by
  unfold endImp at h
  split at h
  · rename_i t n e
    rw [frNat_eq] at h
    have q := goF_ok h
    have eh := putAll_heap e
    have en : s0.heap.objs.size = n := by
      rw [← eh]
      exact absHeap_size t n s0.heap.life
    have eb : (SharedT.abs { tree := t, n := n, life := s0.heap.life, gens := #[], drawn := s0.drawn, toks := s0.toks, os := s0.os }) = { heap := s0.heap, gens := #[], drawn := s0.drawn, toks := s0.toks, os := s0.os } := by
      show ({ heap := absHeap t n s0.heap.life, gens := #[], drawn := s0.drawn, toks := s0.toks, os := s0.os } : Shared) = _
      rw [eh]
    rw [eb] at q
    rw [en]
    exact q
  · cases h
theorem left_imp {p q : Program} {loose : List Str} {Xt : Shared → Bool} {α : Type} {Yf : Shared → α} {Ya : World → α} {N M : Nat} (hN : 1100 ≤ N) (hM : M ≤ N)
    (run : ∀ w, ((openedI p w).bind fun s0 => (endImp (stepT (denote treeTable) p w) M p s0).map fun s =>
      (s0.heap.isNs mainGlobals && s0.gens.size == 0 && looksF p s0.heap s.abs, openSeen q loose (importedModules p.main.body) Xt true s.abs, Yf s.abs)) = some (true, openGood q loose, Ya w)) : LeftO p q loose Xt Yf Ya N := fun w => by
  obtain ⟨s0, e0, h⟩ := Option.bind_eq_some_iff.mp (run w)
  obtain ⟨s, es, hv⟩ := Option.map_eq_some_iff.mp h
  have h1 := congrArg (·.1) hv
  have h2 := congrArg (·.2.1) hv
  have h3 := congrArg (·.2.2) hv
  simp only at h1 h2 h3
  rw [Bool.and_eq_true, Bool.and_eq_true] at h1
  obtain ⟨⟨n1, n2⟩, n3⟩ := h1
  have eg : s0.gens = #[] := Array.eq_empty_of_size_eq_zero (by simpa using n2)
  obtain ⟨s1, e1, e2⟩ := Option.bind_eq_some_iff.mp (show (importEnds treeTable (opening p) w 1100 (start (opening p)).1 (start (opening p)).2).bind (fenceModules? p) = some s0 from e0)
  have m1 := importEnds_mono (N - 1100) 1100 _ _ _ e1
  rw [show 1100 + (N - 1100) = N by omega] at m1
  have f0 : fencedOpening treeTable p w N = some s0 := by
    show (importEnds treeTable (opening p) w N (start (opening p)).1 (start (opening p)).2).bind (fenceModules? p) = some s0
    rw [m1]
    exact e2
  have r := topRun_mono (N - M) M _ _ _ (endImp_ok es)
  rw [show M + (N - M) = N by omega] at r
  have es0 : ({ heap := s0.heap, gens := #[], drawn := s0.drawn, toks := s0.toks, os := s0.os } : Shared) = s0 := by
    rw [← eg]
  rw [es0] at r
  have t : topFrom treeTable p w N s0 = some s.abs := by
    unfold topFrom
    rw [n1, n2]
    show (topRun treeTable p w s0.heap.objs.size (s0.heap.nsMap mainGlobals (Str.ofString "__annotations__")) N s0 (topStub p)).bind _ = _
    rw [r]
    show (match looksF p s0.heap s.abs with | true => some s.abs | false => none) = some s.abs
    rw [n3]
  show (((fencedOpening treeTable p w N).bind (topFrom treeTable p w N)).map fun s => (openSeen q loose (importedModules p.main.body) Xt true s, Yf s)) = _
  rw [f0]
  show ((topFrom treeTable p w N s0).map fun s => (openSeen q loose (importedModules p.main.body) Xt true s, Yf s)) = _
  rw [t]
  exact congrArg some (Prod.ext h2 h3)
def RunImp (r : OpenRow) (q : Program) (H : Hook) (ob : SharedT → H.α) (M : Nat) (loose : List Str) (w : World) : Prop :=
  ((openedI r.prog w).bind fun s0 => (endImp (stepQ (denQ tabQ) r.prog w) M r.prog s0).map fun s =>
      (s0.heap.isNs mainGlobals && s0.gens.size == 0 && looksF r.prog s0.heap s.abs, seenQ q loose (importedModules r.prog.main.body) (fun s => xlAt q [] s && recOk r.records s) s.abs, ob s)) = some (true, openGood q loose, H.val w)
theorem head_imp {r : OpenRow} {q : Program} {H : Hook} {ob : SharedT → H.α} {M : Nat} {loose : List Str} {d : DefRec} {kwd : List (Str × Expr)} (ho : ∀ s, ob s = H.obs s.abs) (run : ∀ w, RunImp r q H ob M loose w)
    (hdef : defOf q r.name = some (d, kwd)) (hp : r.prog.theDef r.name = some (d.params, d.body, d.scope)) (hk : kwWritten? d.params.kwonlyargs d.params.kw_defaults = some kwd) (hwr : (!r.writes || List.isEmpty r.records) = true) (k1 : r.wellSaid = true)
    (ok : (chainsOk q && opensWell r.prog && (frees r.toRowW && r.within.isEmpty)) = true) (hb : r.prog.bare) (hw : r.promised) (call : WalkO q loose (XL q []) H.says r.toRowW d kwd fun f vs => call f vs) : r.Holds := by
  have left : LeftO r.prog q loose (fun s => xlAt q [] s && recOk r.records s) H.obs H.val (1100 + M) := left_imp (M := M) (by omega) (by omega) fun w => by
    have z := run w
    unfold RunImp at z
    rw [show ob = fun s => H.obs s.abs from funext ho] at z
    simp only [seenQ_eq, stepQ_eq, denQ_eq, tabQ_eq]
    exact z
  exact W.holds_open left H.of H.keeps (fun s z => xl_of s (Bool.and_eq_true_iff.mp z).1) XL.keeps hdef hp hk (fun s z => recFacts_of (Bool.and_eq_true_iff.mp z).2) hwr k1 ok hb hw call
end Em

namespace Qt
open PySem PySem.Spec PyProof.Rows L2

/-- a thing that a generator goes over, v, of the values xs -/
structure SrcV (pr : Program) (w : World) (h1 : Heap) (v : Value) (xs : List V) (o : Obj) (fp : List Addr) (Pf : Nat → Value → Prop) (St : Nat → Heap → Prop) : Prop where
  iter : ∀ (A : Around) (E Q : Value → Shared → Prop) (s : Shared), s.heap = h1 → Q (.ref h1.objs.size) { s with heap := h1.push o } → wpAny (model pr w) A (pyIter v) Q E s
  walks : ∀ (A : Around), A.handled = none → Walks pr w A h1.objs.size (h1.objs.size :: fp) [h1.objs.size] xs.length Pf St
  fplt : ∀ b ∈ fp, b < h1.objs.size ∧ ∃ ob, h1.get? b = some ob ∧ ob.cls ≠ .none
  st0 : ∀ g : Heap, (∀ b u, (b ∈ fp ∨ b = h1.objs.size) → (h1.push o).get? b = some u → g.get? b = some u) → St 0 g
  item : ∀ i u, Pf i u → ∃ xv, xs[i]? = some xv ∧ RelV xv u
section
variable {X : Cx} {pins : List (Addr × Obj)} {σ : L2.St} {H : Hp} {s : Shared}
end
section
variable {c : Qc} {k : Nat} {env : Env} {N : Nm} {a b : Expr} {pos : Pos}
theorem q_sub {i j : Int} (ha : QE c k env N a (.int i)) (hb : QE c k env N b (.int j)) : QE c k env N (.BinOp a .Sub b pos) (.int (i - j)) := by
  intro A E Q s r i0 h
  refine wpAny_BinOp (ha A E _ s r i0 fun u g tk ru up => hb A E _ _ r (i0.more up) fun u2 g2 tk2 r2 up2 => ?_)
  obtain ⟨t1, rfl⟩ := ru
  obtain ⟨t2, rfl⟩ := r2
  exact sub_int (h _ g2 _ ⟨_, rfl⟩ (up.tr up2))
/-- a list that is read -/
def LstQ (c : Qc) (a : Addr) (xs : List V) : Prop := ∃ its : List Value, Vals xs its ∧ c.hd.IsList a its.toArray ∧ xs.length ≤ sizeLine
theorem lstQ_of (O : c.Ok) {a : Addr} {xs : List V} (h : c.H a = some (.lst xs)) : LstQ c a xs := by
  obtain ⟨hz, its, n, rv, ht⟩ := O.hok _ _ h
  exact ⟨its, rv, ⟨_, ht, rfl, n, rfl⟩, hz⟩
theorem isList_up {h g : Heap} {a : Addr} {vs : Array Value} (k : Up h g) (t : h.IsList a vs) : g.IsList a vs := by
  obtain ⟨o, e, q⟩ := id t
  exact ⟨o, k _ _ e, q⟩
theorem q_ixL {p : Addr} {xs : List V} {j : Nat} {v : V} (ha : QE c k env N a (.ref p)) (hb : QE c k env N b (.int j)) (ht : LstQ c p xs) (hx : xs[j]? = some v)
    (hs : PlainIx b := by intro _ _; rfl) : QE c k env N (.Subscript a b pos) v := by
  intro A E Q s r i h
  refine Subscript_ (ha A E _ s r i fun u g tk ru up => hb A E _ _ r (i.more up) fun u2 g2 tk2 r2 up2 => ?_)
  cases ru
  obtain ⟨t, rfl⟩ := r2
  obtain ⟨its, rv, hT, hz⟩ := ht
  obtain ⟨w, hw, rw_⟩ := rv.get hx
  have hT2 := isList_up (i.up.tr (up.tr up2)) hT
  have hl := rv.length
  have hj := (List.getElem?_eq_some_iff.mp hx).1
  have hn := line63
  have fin : Q w { s with heap := g2, toks := tk2 } := h w g2 tk2 rw_ (up.tr up2)
  exact item_listR hT2 (by omega) (by omega) (by simpa using hw) fin (hs _ _)
end
end Qt

namespace K65
open PySem PySem.Spec PyProof.Rows L2 Qt Em
def topS (i : Nat) : Stmt := PySem.Challenge.pw_emberlane_k65_whole_greater_and_later.main.body.getD i (.Pass ⟨0, 0, 0, 0⟩)
abbrev s_is_whole : Stmt := topS 10
abbrev s_is_whole_N : List Str := ["thing"]
theorem sc_is_whole : FnScope s_is_whole_N ["thing"] (defScope s_is_whole) := ⟨rfl, rfl, rfl, by decide +kernel, rfl, by decide +kernel, by decide +kernel⟩
abbrev s_is_pair : Stmt := topS 11
abbrev s_is_pair_N : List Str := ["thing"]
theorem sc_is_pair : FnScope s_is_pair_N ["thing"] (defScope s_is_pair) := ⟨rfl, rfl, rfl, by decide +kernel, rfl, by decide +kernel, by decide +kernel⟩
abbrev s_is_number_of_many : Stmt := topS 12
abbrev s_is_number_of_many_N : List Str := ["thing", "many"]
theorem sc_is_number_of_many : FnScope s_is_number_of_many_N ["thing", "many"] (defScope s_is_number_of_many) := ⟨rfl, rfl, rfl, by decide +kernel, rfl, by decide +kernel, by decide +kernel⟩
abbrev s_is_lamp_of_many : Stmt := topS 13
abbrev s_is_lamp_of_many_N : List Str := ["thing", "many", "length", "onward"]
theorem sc_is_lamp_of_many : FnScope s_is_lamp_of_many_N ["thing", "many"] (defScope s_is_lamp_of_many) := ⟨rfl, rfl, rfl, by decide +kernel, rfl, by decide +kernel, by decide +kernel⟩
abbrev s_is_net : Stmt := topS 14
abbrev s_is_net_N : List Str := ["thing", "many"]
theorem sc_is_net : FnScope s_is_net_N ["thing"] (defScope s_is_net) := ⟨rfl, rfl, rfl, by decide +kernel, rfl, by decide +kernel, by decide +kernel⟩
abbrev s_need_net : Stmt := topS 15
abbrev s_need_net_N : List Str := ["net"]
theorem sc_need_net : FnScope s_need_net_N ["net"] (defScope s_need_net) := ⟨rfl, rfl, rfl, by decide +kernel, rfl, by decide +kernel, by decide +kernel⟩
abbrev s_need_lamp : Stmt := topS 16
abbrev s_need_lamp_N : List Str := ["net", "lamp"]
theorem sc_need_lamp : FnScope s_need_lamp_N ["net", "lamp"] (defScope s_need_lamp) := ⟨rfl, rfl, rfl, by decide +kernel, rfl, by decide +kernel, by decide +kernel⟩
abbrev s_is_kindling_of_many : Stmt := topS 17
abbrev s_is_kindling_of_many_N : List Str := ["thing", "many", "beat", "lamp"]
theorem sc_is_kindling_of_many : FnScope s_is_kindling_of_many_N ["thing", "many"] (defScope s_is_kindling_of_many) := ⟨rfl, rfl, rfl, by decide +kernel, rfl, by decide +kernel, by decide +kernel⟩
abbrev s_are_kindlings : Stmt := topS 18
abbrev s_are_kindlings_N : List Str := ["net", "thing", "many"]
theorem sc_are_kindlings : FnScope s_are_kindlings_N ["net", "thing"] (defScope s_are_kindlings) := ⟨rfl, rfl, rfl, by decide +kernel, rfl, by decide +kernel, by decide +kernel⟩
abbrev s_way_of : Stmt := topS 19
abbrev s_way_of_N : List Str := ["net", "lamp", "gone", "at", "first"]
theorem sc_way_of : FnScope s_way_of_N ["net", "lamp"] (defScope s_way_of) := ⟨rfl, rfl, rfl, by decide +kernel, rfl, by decide +kernel, by decide +kernel⟩
abbrev s_rings : Stmt := topS 20
abbrev s_rings_N : List Str := ["net", "found", "lamp", "_", "ring"]
theorem sc_rings : FnScope s_rings_N ["net"] (defScope s_rings) := ⟨rfl, rfl, rfl, by decide +kernel, rfl, by decide +kernel, by decide +kernel⟩
abbrev s_lap_of : Stmt := topS 21
abbrev s_lap_of_N : List Str := ["net", "lamp", "_", "ring", "lengths", "at"]
theorem sc_lap_of : FnScope s_lap_of_N ["net", "lamp"] (defScope s_lap_of) := ⟨rfl, rfl, rfl, by decide +kernel, rfl, by decide +kernel, by decide +kernel⟩
abbrev s_need_kindlings : Stmt := topS 23
abbrev s_need_kindlings_N : List Str := ["net", "kindlings"]
theorem sc_need_kindlings : FnScope s_need_kindlings_N ["net", "kindlings"] (defScope s_need_kindlings) := ⟨rfl, rfl, rfl, by decide +kernel, rfl, by decide +kernel, by decide +kernel⟩
abbrev s_need_ring : Stmt := topS 24
abbrev s_need_ring_N : List Str := ["net", "lamp", "ahead", "_"]
theorem sc_need_ring : FnScope s_need_ring_N ["net", "lamp"] (defScope s_need_ring) := ⟨rfl, rfl, rfl, by decide +kernel, rfl, by decide +kernel, by decide +kernel⟩
abbrev s_lights_of : Stmt := topS 26
abbrev s_lights_of_N : List Str := ["net", "kindling", "beat", "lamp", "ahead", "ring", "lap", "lights", "at"]
theorem sc_lights_of : FnScope s_lights_of_N ["net", "kindling"] (defScope s_lights_of) := ⟨rfl, rfl, rfl, by decide +kernel, rfl, by decide +kernel, by decide +kernel⟩
abbrev s_clash_on_lamp : Stmt := topS 28
abbrev s_clash_on_lamp_N : List Str := ["length", "lap", "early", "late", "first", "one", "beat", "other", "gap"]
theorem sc_clash_on_lamp : FnScope s_clash_on_lamp_N ["length", "lap", "early", "late"] (defScope s_clash_on_lamp) := ⟨rfl, rfl, rfl, by decide +kernel, rfl, by decide +kernel, by decide +kernel⟩
abbrev s_first_clash : Stmt := topS 29
abbrev s_first_clash_N : List Str := ["net", "lights", "one", "other", "clashes", "lamp", "first", "lap", "early", "late", "clash", "beat", "lost", "robber"]
theorem sc_first_clash : FnScope s_first_clash_N ["net", "lights", "one", "other"] (defScope s_first_clash) := ⟨rfl, rfl, rfl, by decide +kernel, rfl, by decide +kernel, by decide +kernel⟩
abbrev s_first_clashes : Stmt := topS 30
abbrev s_first_clashes_N : List Str := ["net", "lights", "found", "other", "one", "clash"]
theorem sc_first_clashes : FnScope s_first_clashes_N ["net", "lights"] (defScope s_first_clashes) := ⟨rfl, rfl, rfl, by decide +kernel, rfl, by decide +kernel, by decide +kernel⟩
abbrev s_losses_by_lights : Stmt := topS 31
abbrev s_losses_by_lights_N : List Str := ["net", "lights", "lost", "rows", "beat", "lamp", "flame", "other"]
theorem sc_losses_by_lights : FnScope s_losses_by_lights_N ["net", "lights"] (defScope s_losses_by_lights) := ⟨rfl, rfl, rfl, by decide +kernel, rfl, by decide +kernel, by decide +kernel⟩
abbrev s_lights_of_all : Stmt := topS 32
abbrev s_lights_of_all_N : List Str := ["net", "kindlings", "kindling"]
theorem sc_lights_of_all : FnScope s_lights_of_all_N ["net", "kindlings"] (defScope s_lights_of_all) := ⟨rfl, rfl, rfl, by decide +kernel, rfl, by decide +kernel, by decide +kernel⟩
abbrev s_beats_of_losses : Stmt := topS 33
abbrev s_beats_of_losses_N : List Str := ["rows", "beat", "_", "flame"]
theorem sc_beats_of_losses : FnScope s_beats_of_losses_N ["rows"] (defScope s_beats_of_losses) := ⟨rfl, rfl, rfl, by decide +kernel, rfl, by decide +kernel, by decide +kernel⟩
abbrev s_fate_alone : Stmt := topS 34
abbrev s_fate_alone_N : List Str := ["net", "lights", "ring", "lamp", "_", "lap", "least", "last"]
theorem sc_fate_alone : FnScope s_fate_alone_N ["net", "lights"] (defScope s_fate_alone) := ⟨rfl, rfl, rfl, by decide +kernel, rfl, by decide +kernel, by decide +kernel⟩
abbrev s_fates : Stmt := topS 35
abbrev s_fates_N : List Str := ["net", "kindlings", "lights", "told", "own", "beat", "lamp", "flame", "other"]
theorem sc_fates : FnScope s_fates_N ["net", "kindlings"] (defScope s_fates) := ⟨rfl, rfl, rfl, by decide +kernel, rfl, by decide +kernel, by decide +kernel⟩
abbrev s_rests_from : Stmt := topS 37
abbrev s_rests_from_N : List Str := ["net", "kindling", "fate", "beat", "lamp", "ahead", "_"]
theorem sc_rests_from : FnScope s_rests_from_N ["net", "kindling", "fate"] (defScope s_rests_from) := ⟨rfl, rfl, rfl, by decide +kernel, rfl, by decide +kernel, by decide +kernel⟩
abbrev s_beats_on_ring : Stmt := topS 38
abbrev s_beats_on_ring_N : List Str := ["told", "ring", "least", "fate"]
theorem sc_beats_on_ring : FnScope s_beats_on_ring_N ["told", "ring"] (defScope s_beats_on_ring) := ⟨rfl, rfl, rfl, by decide +kernel, rfl, by decide +kernel, by decide +kernel⟩
abbrev s_gaps_of_beats : Stmt := topS 39
abbrev s_gaps_of_beats_N : List Str := ["beats", "lap", "behind", "at"]
theorem sc_gaps_of_beats : FnScope s_gaps_of_beats_N ["beats", "lap"] (defScope s_gaps_of_beats) := ⟨rfl, rfl, rfl, by decide +kernel, rfl, by decide +kernel, by decide +kernel⟩
abbrev s_round_of_gaps : Stmt := topS 40
abbrev s_round_of_gaps_N : List Str := ["between", "many"]
theorem sc_round_of_gaps : FnScope s_round_of_gaps_N ["between"] (defScope s_round_of_gaps) := ⟨rfl, rfl, rfl, by decide +kernel, rfl, by decide +kernel, by decide +kernel⟩
abbrev s_rest_of : Stmt := topS 41
abbrev s_rest_of_N : List Str := ["net", "kindlings", "told", "first", "kindling", "fate", "again"]
theorem sc_rest_of : FnScope s_rest_of_N ["net", "kindlings"] (defScope s_rest_of) := ⟨rfl, rfl, rfl, by decide +kernel, rfl, by decide +kernel, by decide +kernel⟩
abbrev s_round_of_lamps : Stmt := topS 42
abbrev s_round_of_lamps_N : List Str := ["net", "kindlings", "told", "again", "ring", "lap", "_"]
theorem sc_round_of_lamps : FnScope s_round_of_lamps_N ["net", "kindlings"] (defScope s_round_of_lamps) := ⟨rfl, rfl, rfl, by decide +kernel, rfl, by decide +kernel, by decide +kernel⟩
abbrev s_gaps : Stmt := topS 43
abbrev s_gaps_N : List Str := ["net", "kindlings", "lamp", "_", "ring", "lap"]
theorem sc_gaps : FnScope s_gaps_N ["net", "kindlings", "lamp"] (defScope s_gaps) := ⟨rfl, rfl, rfl, by decide +kernel, rfl, by decide +kernel, by decide +kernel⟩
abbrev s_burns_for_ever : Stmt := topS 44
abbrev s_burns_for_ever_N : List Str := ["net", "kindlings", "lamp", "ahead", "ring", "going"]
theorem sc_burns_for_ever : FnScope s_burns_for_ever_N ["net", "kindlings", "lamp"] (defScope s_burns_for_ever) := ⟨rfl, rfl, rfl, by decide +kernel, rfl, by decide +kernel, by decide +kernel⟩
abbrev s_spans_of_lightings : Stmt := topS 45
abbrev s_spans_of_lightings_N : List Str := ["net", "kindlings", "lamp", "lights", "lost_at", "flame", "own"]
theorem sc_spans_of_lightings : FnScope s_spans_of_lightings_N ["net", "kindlings", "lamp"] (defScope s_spans_of_lightings) := ⟨rfl, rfl, rfl, by decide +kernel, rfl, by decide +kernel, by decide +kernel⟩
abbrev s_is_lit_by : Stmt := topS 46
abbrev s_is_lit_by_N : List Str := ["spans", "length", "lap", "beat", "first", "lost"]
theorem sc_is_lit_by : FnScope s_is_lit_by_N ["spans", "length", "lap", "beat"] (defScope s_is_lit_by) := ⟨rfl, rfl, rfl, by decide +kernel, rfl, by decide +kernel, by decide +kernel⟩
abbrev s_burns_from : Stmt := topS 47
abbrev s_burns_from_N : List Str := ["net", "kindlings", "lamp", "length", "lap", "_", "spans", "maybe", "first", "beat"]
theorem sc_burns_from : FnScope s_burns_from_N ["net", "kindlings", "lamp"] (defScope s_burns_from) := ⟨rfl, rfl, rfl, by decide +kernel, rfl, by decide +kernel, by decide +kernel⟩
abbrev s_can_burn : Stmt := topS 48
abbrev s_can_burn_N : List Str := ["net", "lamp", "ahead", "_", "lap", "longest"]
theorem sc_can_burn : FnScope s_can_burn_N ["net", "lamp"] (defScope s_can_burn) := ⟨rfl, rfl, rfl, by decide +kernel, rfl, by decide +kernel, by decide +kernel⟩
abbrev s_law_mix : Stmt := topS 50
abbrev s_law_mix_N : List Str := ["bag", "one"]
theorem sc_law_mix : FnScope s_law_mix_N ["bag"] (defScope s_law_mix) := ⟨rfl, rfl, rfl, by decide +kernel, rfl, by decide +kernel, by decide +kernel⟩
abbrev s_law_bag : Stmt := topS 51
abbrev s_law_bag_N : List Str := ["cell", "bag"]
theorem sc_law_bag : FnScope s_law_bag_N ["cell"] (defScope s_law_bag) := ⟨rfl, rfl, rfl, by decide +kernel, rfl, by decide +kernel, by decide +kernel⟩
abbrev s_law_draw : Stmt := topS 52
abbrev s_law_draw_N : List Str := ["bag", "many", "digit"]
theorem sc_law_draw : FnScope s_law_draw_N ["bag", "many"] (defScope s_law_draw) := ⟨rfl, rfl, rfl, by decide +kernel, rfl, by decide +kernel, by decide +kernel⟩
abbrev s_law_some : Stmt := topS 53
abbrev s_law_some_N : List Str := ["bag", "rows"]
theorem sc_law_some : FnScope s_law_some_N ["bag", "rows"] (defScope s_law_some) := ⟨rfl, rfl, rfl, by decide +kernel, rfl, by decide +kernel, by decide +kernel⟩
abbrev s_law_net : Stmt := topS 54
abbrev s_law_net_N : List Str := ["bag", "most", "lengths", "many", "found", "spot", "way", "following"]
theorem sc_law_net : FnScope s_law_net_N ["bag", "most", "lengths"] (defScope s_law_net) := ⟨rfl, rfl, rfl, by decide +kernel, rfl, by decide +kernel, by decide +kernel⟩
abbrev s_law_ring : Stmt := topS 55
abbrev s_law_ring_N : List Str := ["lamps", "spot", "found", "turn", "following"]
theorem sc_law_ring : FnScope s_law_ring_N ["lamps", "spot"] (defScope s_law_ring) := ⟨rfl, rfl, rfl, by decide +kernel, rfl, by decide +kernel, by decide +kernel⟩
abbrev s_law_lap : Stmt := topS 56
abbrev s_law_lap_N : List Str := ["lamps", "spot", "lengths", "one"]
theorem sc_law_lap : FnScope s_law_lap_N ["lamps", "spot"] (defScope s_law_lap) := ⟨rfl, rfl, rfl, by decide +kernel, rfl, by decide +kernel, by decide +kernel⟩
abbrev s_law_rows : Stmt := topS 57
abbrev s_law_rows_N : List Str := ["bag", "lamps", "most", "late", "found", "turn", "spot", "lap", "longest", "begins", "spaced"]
theorem sc_law_rows : FnScope s_law_rows_N ["bag", "lamps", "most", "late"] (defScope s_law_rows) := ⟨rfl, rfl, rfl, by decide +kernel, rfl, by decide +kernel, by decide +kernel⟩
abbrev s_law_same : Stmt := topS 58
abbrev s_law_same_N : List Str := ["found", "due", "k"]
theorem sc_law_same : FnScope s_law_same_N ["found", "due"] (defScope s_law_same) := ⟨rfl, rfl, rfl, by decide +kernel, rfl, by decide +kernel, by decide +kernel⟩
abbrev s_law_told : Stmt := topS 59
abbrev s_law_told_N : List Str := ["lamps", "rows", "found", "turning", "spot"]
theorem sc_law_told : FnScope s_law_told_N ["lamps", "rows"] (defScope s_law_told) := ⟨rfl, rfl, rfl, by decide +kernel, rfl, by decide +kernel, by decide +kernel⟩
abbrev s_law_due : Stmt := topS 60
abbrev s_law_due_N : List Str := ["told", "times", "later", "any_lit", "rest", "length", "between", "begun", "able", "goes", "one", "rounds", "found", "gap"]
theorem sc_law_due : FnScope s_law_due_N ["told", "times", "later", "any_lit"] (defScope s_law_due) := ⟨rfl, rfl, rfl, by decide +kernel, rfl, by decide +kernel, by decide +kernel⟩
abbrev s_law : Stmt := topS 61
abbrev s_law_N : List Str := ["script", "cell", "bag", "lamps", "rows", "told", "times", "great", "length", "following", "far", "now", "spot", "late"]
theorem sc_law : FnScope s_law_N ["script"] (defScope s_law) := ⟨rfl, rfl, rfl, by decide +kernel, rfl, by decide +kernel, by decide +kernel⟩

structure Ad where
  a_is_whole : Addr
  f_is_whole : FuncData
  a_is_pair : Addr
  f_is_pair : FuncData
  a_is_number_of_many : Addr
  f_is_number_of_many : FuncData
  a_is_lamp_of_many : Addr
  f_is_lamp_of_many : FuncData
  a_is_net : Addr
  f_is_net : FuncData
  a_need_net : Addr
  f_need_net : FuncData
  a_need_lamp : Addr
  f_need_lamp : FuncData
  a_is_kindling_of_many : Addr
  f_is_kindling_of_many : FuncData
  a_are_kindlings : Addr
  f_are_kindlings : FuncData
  a_way_of : Addr
  f_way_of : FuncData
  a_rings : Addr
  f_rings : FuncData
  a_lap_of : Addr
  f_lap_of : FuncData
  a_need_kindlings : Addr
  f_need_kindlings : FuncData
  a_need_ring : Addr
  f_need_ring : FuncData
  a_lights_of : Addr
  f_lights_of : FuncData
  a_clash_on_lamp : Addr
  f_clash_on_lamp : FuncData
  a_first_clash : Addr
  f_first_clash : FuncData
  a_first_clashes : Addr
  f_first_clashes : FuncData
  a_losses_by_lights : Addr
  f_losses_by_lights : FuncData
  a_lights_of_all : Addr
  f_lights_of_all : FuncData
  a_beats_of_losses : Addr
  f_beats_of_losses : FuncData
  a_fate_alone : Addr
  f_fate_alone : FuncData
  a_fates : Addr
  f_fates : FuncData
  a_rests_from : Addr
  f_rests_from : FuncData
  a_beats_on_ring : Addr
  f_beats_on_ring : FuncData
  a_gaps_of_beats : Addr
  f_gaps_of_beats : FuncData
  a_round_of_gaps : Addr
  f_round_of_gaps : FuncData
  a_rest_of : Addr
  f_rest_of : FuncData
  a_round_of_lamps : Addr
  f_round_of_lamps : FuncData
  a_gaps : Addr
  f_gaps : FuncData
  a_burns_for_ever : Addr
  f_burns_for_ever : FuncData
  a_spans_of_lightings : Addr
  f_spans_of_lightings : FuncData
  a_is_lit_by : Addr
  f_is_lit_by : FuncData
  a_burns_from : Addr
  f_burns_from : FuncData
  a_can_burn : Addr
  f_can_burn : FuncData
  a_law_mix : Addr
  f_law_mix : FuncData
  a_law_bag : Addr
  f_law_bag : FuncData
  a_law_draw : Addr
  f_law_draw : FuncData
  a_law_some : Addr
  f_law_some : FuncData
  a_law_net : Addr
  f_law_net : FuncData
  a_law_ring : Addr
  f_law_ring : FuncData
  a_law_lap : Addr
  f_law_lap : FuncData
  a_law_rows : Addr
  f_law_rows : FuncData
  a_law_same : Addr
  f_law_same : FuncData
  a_law_told : Addr
  f_law_told : FuncData
  a_law_due : Addr
  f_law_due : FuncData
  a_law : Addr
  f_law : FuncData
  c_EmberError : Addr
  c_NoNet : Addr
  c_NoKindlings : Addr
  c_NoLamp : Addr
  c_NoRing : Addr
  cd_rests_from : Addr
  tb_rests_from : Addr
  cd_gaps_of_beats : Addr
  tb_gaps_of_beats : Addr
  cd_is_net : Addr
  tb_is_net : Addr
  cd_lights_of : Addr
  tb_lights_of : Addr
  cd_are_kindlings : Addr
  tb_are_kindlings : Addr
structure Tx (K : PySem.W.Frag) (mg : Str → Option Value) (a : Ad) : Prop where
  is_whole : Df K mg "is_whole" s_is_whole ["thing"] a.a_is_whole a.f_is_whole
  is_pair : Df K mg "is_pair" s_is_pair ["thing"] a.a_is_pair a.f_is_pair
  is_number_of_many : Df K mg "is_number_of_many" s_is_number_of_many ["thing", "many"] a.a_is_number_of_many a.f_is_number_of_many
  is_lamp_of_many : Df K mg "is_lamp_of_many" s_is_lamp_of_many ["thing", "many"] a.a_is_lamp_of_many a.f_is_lamp_of_many
  is_net : Df K mg "is_net" s_is_net ["thing"] a.a_is_net a.f_is_net
  need_net : Df K mg "need_net" s_need_net ["net"] a.a_need_net a.f_need_net
  need_lamp : Df K mg "need_lamp" s_need_lamp ["net", "lamp"] a.a_need_lamp a.f_need_lamp
  is_kindling_of_many : Df K mg "is_kindling_of_many" s_is_kindling_of_many ["thing", "many"] a.a_is_kindling_of_many a.f_is_kindling_of_many
  are_kindlings : Df K mg "are_kindlings" s_are_kindlings ["net", "thing"] a.a_are_kindlings a.f_are_kindlings
  way_of : Df K mg "way_of" s_way_of ["net", "lamp"] a.a_way_of a.f_way_of
  rings : Df K mg "rings" s_rings ["net"] a.a_rings a.f_rings
  lap_of : Df K mg "lap_of" s_lap_of ["net", "lamp"] a.a_lap_of a.f_lap_of
  need_kindlings : Df K mg "need_kindlings" s_need_kindlings ["net", "kindlings"] a.a_need_kindlings a.f_need_kindlings
  need_ring : Df K mg "need_ring" s_need_ring ["net", "lamp"] a.a_need_ring a.f_need_ring
  lights_of : Df K mg "lights_of" s_lights_of ["net", "kindling"] a.a_lights_of a.f_lights_of
  clash_on_lamp : Df K mg "clash_on_lamp" s_clash_on_lamp ["length", "lap", "early", "late"] a.a_clash_on_lamp a.f_clash_on_lamp
  first_clash : Df K mg "first_clash" s_first_clash ["net", "lights", "one", "other"] a.a_first_clash a.f_first_clash
  first_clashes : Df K mg "first_clashes" s_first_clashes ["net", "lights"] a.a_first_clashes a.f_first_clashes
  losses_by_lights : Df K mg "losses_by_lights" s_losses_by_lights ["net", "lights"] a.a_losses_by_lights a.f_losses_by_lights
  lights_of_all : Df K mg "lights_of_all" s_lights_of_all ["net", "kindlings"] a.a_lights_of_all a.f_lights_of_all
  beats_of_losses : Df K mg "beats_of_losses" s_beats_of_losses ["rows"] a.a_beats_of_losses a.f_beats_of_losses
  fate_alone : Df K mg "fate_alone" s_fate_alone ["net", "lights"] a.a_fate_alone a.f_fate_alone
  fates : Df K mg "fates" s_fates ["net", "kindlings"] a.a_fates a.f_fates
  rests_from : Df K mg "rests_from" s_rests_from ["net", "kindling", "fate"] a.a_rests_from a.f_rests_from
  beats_on_ring : Df K mg "beats_on_ring" s_beats_on_ring ["told", "ring"] a.a_beats_on_ring a.f_beats_on_ring
  gaps_of_beats : Df K mg "gaps_of_beats" s_gaps_of_beats ["beats", "lap"] a.a_gaps_of_beats a.f_gaps_of_beats
  round_of_gaps : Df K mg "round_of_gaps" s_round_of_gaps ["between"] a.a_round_of_gaps a.f_round_of_gaps
  rest_of : Df K mg "rest_of" s_rest_of ["net", "kindlings"] a.a_rest_of a.f_rest_of
  round_of_lamps : Df K mg "round_of_lamps" s_round_of_lamps ["net", "kindlings"] a.a_round_of_lamps a.f_round_of_lamps
  gaps : Df K mg "gaps" s_gaps ["net", "kindlings", "lamp"] a.a_gaps a.f_gaps
  burns_for_ever : Df K mg "burns_for_ever" s_burns_for_ever ["net", "kindlings", "lamp"] a.a_burns_for_ever a.f_burns_for_ever
  spans_of_lightings : Df K mg "spans_of_lightings" s_spans_of_lightings ["net", "kindlings", "lamp"] a.a_spans_of_lightings a.f_spans_of_lightings
  is_lit_by : Df K mg "is_lit_by" s_is_lit_by ["spans", "length", "lap", "beat"] a.a_is_lit_by a.f_is_lit_by
  burns_from : Df K mg "burns_from" s_burns_from ["net", "kindlings", "lamp"] a.a_burns_from a.f_burns_from
  can_burn : Df K mg "can_burn" s_can_burn ["net", "lamp"] a.a_can_burn a.f_can_burn
  law_mix : Df K mg "_law_mix" s_law_mix ["bag"] a.a_law_mix a.f_law_mix
  law_bag : Df K mg "_law_bag" s_law_bag ["cell"] a.a_law_bag a.f_law_bag
  law_draw : Df K mg "_law_draw" s_law_draw ["bag", "many"] a.a_law_draw a.f_law_draw
  law_some : Df K mg "_law_some" s_law_some ["bag", "rows"] a.a_law_some a.f_law_some
  law_net : Df K mg "_law_net" s_law_net ["bag", "most", "lengths"] a.a_law_net a.f_law_net
  law_ring : Df K mg "_law_ring" s_law_ring ["lamps", "spot"] a.a_law_ring a.f_law_ring
  law_lap : Df K mg "_law_lap" s_law_lap ["lamps", "spot"] a.a_law_lap a.f_law_lap
  law_rows : Df K mg "_law_rows" s_law_rows ["bag", "lamps", "most", "late"] a.a_law_rows a.f_law_rows
  law_same : Df K mg "_law_same" s_law_same ["found", "due"] a.a_law_same a.f_law_same
  law_told : Df K mg "_law_told" s_law_told ["lamps", "rows"] a.a_law_told a.f_law_told
  law_due : Df K mg "_law_due" s_law_due ["told", "times", "later", "any_lit"] a.a_law_due a.f_law_due
  law : Df K mg "law" s_law ["script"] a.a_law a.f_law
  n_all : mg "all" = none
  n_bool : mg "bool" = none
  n_enumerate : mg "enumerate" = none
  n_int : mg "int" = none
  n_isinstance : mg "isinstance" = none
  n_len : mg "len" = none
  n_list : mg "list" = none
  n_max : mg "max" = none
  n_min : mg "min" = none
  n_range : mg "range" = none
  n_sorted : mg "sorted" = none
  n_sum : mg "sum" = none
  n_tuple : mg "tuple" = none
  n_zip : mg "zip" = none
  n_lcm : mg "lcm" = some (.builtin "math.lcm")
  c_MOST_LAMPS : ∃ t, mg "MOST_LAMPS" = some (.int 12 t)
  c_MOST_KINDLINGS : ∃ t, mg "MOST_KINDLINGS" = some (.int 40 t)
  code_rests_from : CodeIs K a.a_rests_from a.cd_rests_from
  code_gaps_of_beats : CodeIs K a.a_gaps_of_beats a.cd_gaps_of_beats
  code_is_net : CodeIs K a.a_is_net a.cd_is_net
  code_lights_of : CodeIs K a.a_lights_of a.cd_lights_of
  code_are_kindlings : CodeIs K a.a_are_kindlings a.cd_are_kindlings
  g_EmberError : mg "EmberError" = some (.ref a.c_EmberError)
  g_NoNet : mg "NoNet" = some (.ref a.c_NoNet)
  g_NoKindlings : mg "NoKindlings" = some (.ref a.c_NoKindlings)
  g_NoLamp : mg "NoLamp" = some (.ref a.c_NoLamp)
  g_NoRing : mg "NoRing" = some (.ref a.c_NoRing)
def hex (K : PySem.W.Frag) : Bool := decide (PySem.W.nsIn K mainGlobals "lcm" = some (some (.builtin "math.lcm")))
def hd_is_whole : He.DefD := ⟨("is_whole", none), "is_whole", "is_whole", defArgs s_is_whole, defBody s_is_whole, defScope s_is_whole, [], []⟩
def hd_is_pair : He.DefD := ⟨("is_pair", none), "is_pair", "is_pair", defArgs s_is_pair, defBody s_is_pair, defScope s_is_pair, [], []⟩
def hd_is_number_of_many : He.DefD := ⟨("is_number_of_many", none), "is_number_of_many", "is_number_of_many", defArgs s_is_number_of_many, defBody s_is_number_of_many, defScope s_is_number_of_many, [], []⟩
def hd_is_lamp_of_many : He.DefD := ⟨("is_lamp_of_many", none), "is_lamp_of_many", "is_lamp_of_many", defArgs s_is_lamp_of_many, defBody s_is_lamp_of_many, defScope s_is_lamp_of_many, [], []⟩
def hd_is_net : He.DefD := ⟨("is_net", none), "is_net", "is_net", defArgs s_is_net, defBody s_is_net, defScope s_is_net, [], []⟩
def hd_need_net : He.DefD := ⟨("need_net", none), "need_net", "need_net", defArgs s_need_net, defBody s_need_net, defScope s_need_net, [], []⟩
def hd_need_lamp : He.DefD := ⟨("need_lamp", none), "need_lamp", "need_lamp", defArgs s_need_lamp, defBody s_need_lamp, defScope s_need_lamp, [], []⟩
def hd_is_kindling_of_many : He.DefD := ⟨("is_kindling_of_many", none), "is_kindling_of_many", "is_kindling_of_many", defArgs s_is_kindling_of_many, defBody s_is_kindling_of_many, defScope s_is_kindling_of_many, [], []⟩
def hd_are_kindlings : He.DefD := ⟨("are_kindlings", none), "are_kindlings", "are_kindlings", defArgs s_are_kindlings, defBody s_are_kindlings, defScope s_are_kindlings, [], []⟩
def hd_way_of : He.DefD := ⟨("way_of", none), "way_of", "way_of", defArgs s_way_of, defBody s_way_of, defScope s_way_of, [], []⟩
def hd_rings : He.DefD := ⟨("rings", none), "rings", "rings", defArgs s_rings, defBody s_rings, defScope s_rings, [], []⟩
def hd_lap_of : He.DefD := ⟨("lap_of", none), "lap_of", "lap_of", defArgs s_lap_of, defBody s_lap_of, defScope s_lap_of, [], []⟩
def hd_need_kindlings : He.DefD := ⟨("need_kindlings", none), "need_kindlings", "need_kindlings", defArgs s_need_kindlings, defBody s_need_kindlings, defScope s_need_kindlings, [], []⟩
def hd_need_ring : He.DefD := ⟨("need_ring", none), "need_ring", "need_ring", defArgs s_need_ring, defBody s_need_ring, defScope s_need_ring, [], []⟩
def hd_lights_of : He.DefD := ⟨("lights_of", none), "lights_of", "lights_of", defArgs s_lights_of, defBody s_lights_of, defScope s_lights_of, [], []⟩
def hd_clash_on_lamp : He.DefD := ⟨("clash_on_lamp", none), "clash_on_lamp", "clash_on_lamp", defArgs s_clash_on_lamp, defBody s_clash_on_lamp, defScope s_clash_on_lamp, [], []⟩
def hd_first_clash : He.DefD := ⟨("first_clash", none), "first_clash", "first_clash", defArgs s_first_clash, defBody s_first_clash, defScope s_first_clash, [], []⟩
def hd_first_clashes : He.DefD := ⟨("first_clashes", none), "first_clashes", "first_clashes", defArgs s_first_clashes, defBody s_first_clashes, defScope s_first_clashes, [], []⟩
def hd_losses_by_lights : He.DefD := ⟨("losses_by_lights", none), "losses_by_lights", "losses_by_lights", defArgs s_losses_by_lights, defBody s_losses_by_lights, defScope s_losses_by_lights, [], []⟩
def hd_lights_of_all : He.DefD := ⟨("lights_of_all", none), "lights_of_all", "lights_of_all", defArgs s_lights_of_all, defBody s_lights_of_all, defScope s_lights_of_all, [], []⟩
def hd_beats_of_losses : He.DefD := ⟨("beats_of_losses", none), "beats_of_losses", "beats_of_losses", defArgs s_beats_of_losses, defBody s_beats_of_losses, defScope s_beats_of_losses, [], []⟩
def hd_fate_alone : He.DefD := ⟨("fate_alone", none), "fate_alone", "fate_alone", defArgs s_fate_alone, defBody s_fate_alone, defScope s_fate_alone, [], []⟩
def hd_fates : He.DefD := ⟨("fates", none), "fates", "fates", defArgs s_fates, defBody s_fates, defScope s_fates, [], []⟩
def hd_rests_from : He.DefD := ⟨("rests_from", none), "rests_from", "rests_from", defArgs s_rests_from, defBody s_rests_from, defScope s_rests_from, [], []⟩
def hd_beats_on_ring : He.DefD := ⟨("beats_on_ring", none), "beats_on_ring", "beats_on_ring", defArgs s_beats_on_ring, defBody s_beats_on_ring, defScope s_beats_on_ring, [], []⟩
def hd_gaps_of_beats : He.DefD := ⟨("gaps_of_beats", none), "gaps_of_beats", "gaps_of_beats", defArgs s_gaps_of_beats, defBody s_gaps_of_beats, defScope s_gaps_of_beats, [], []⟩
def hd_round_of_gaps : He.DefD := ⟨("round_of_gaps", none), "round_of_gaps", "round_of_gaps", defArgs s_round_of_gaps, defBody s_round_of_gaps, defScope s_round_of_gaps, [], []⟩
def hd_rest_of : He.DefD := ⟨("rest_of", none), "rest_of", "rest_of", defArgs s_rest_of, defBody s_rest_of, defScope s_rest_of, [], []⟩
def hd_round_of_lamps : He.DefD := ⟨("round_of_lamps", none), "round_of_lamps", "round_of_lamps", defArgs s_round_of_lamps, defBody s_round_of_lamps, defScope s_round_of_lamps, [], []⟩
def hd_gaps : He.DefD := ⟨("gaps", none), "gaps", "gaps", defArgs s_gaps, defBody s_gaps, defScope s_gaps, [], []⟩
def hd_burns_for_ever : He.DefD := ⟨("burns_for_ever", none), "burns_for_ever", "burns_for_ever", defArgs s_burns_for_ever, defBody s_burns_for_ever, defScope s_burns_for_ever, [], []⟩
def hd_spans_of_lightings : He.DefD := ⟨("spans_of_lightings", none), "spans_of_lightings", "spans_of_lightings", defArgs s_spans_of_lightings, defBody s_spans_of_lightings, defScope s_spans_of_lightings, [], []⟩
def hd_is_lit_by : He.DefD := ⟨("is_lit_by", none), "is_lit_by", "is_lit_by", defArgs s_is_lit_by, defBody s_is_lit_by, defScope s_is_lit_by, [], []⟩
def hd_burns_from : He.DefD := ⟨("burns_from", none), "burns_from", "burns_from", defArgs s_burns_from, defBody s_burns_from, defScope s_burns_from, [], []⟩
def hd_can_burn : He.DefD := ⟨("can_burn", none), "can_burn", "can_burn", defArgs s_can_burn, defBody s_can_burn, defScope s_can_burn, [], []⟩
def hd_law_mix : He.DefD := ⟨("_law_mix", none), "_law_mix", "_law_mix", defArgs s_law_mix, defBody s_law_mix, defScope s_law_mix, [], []⟩
def hd_law_bag : He.DefD := ⟨("_law_bag", none), "_law_bag", "_law_bag", defArgs s_law_bag, defBody s_law_bag, defScope s_law_bag, [], []⟩
def hd_law_draw : He.DefD := ⟨("_law_draw", none), "_law_draw", "_law_draw", defArgs s_law_draw, defBody s_law_draw, defScope s_law_draw, [], []⟩
def hd_law_some : He.DefD := ⟨("_law_some", none), "_law_some", "_law_some", defArgs s_law_some, defBody s_law_some, defScope s_law_some, [], []⟩
def hd_law_net : He.DefD := ⟨("_law_net", none), "_law_net", "_law_net", defArgs s_law_net, defBody s_law_net, defScope s_law_net, [], []⟩
def hd_law_ring : He.DefD := ⟨("_law_ring", none), "_law_ring", "_law_ring", defArgs s_law_ring, defBody s_law_ring, defScope s_law_ring, [], []⟩
def hd_law_lap : He.DefD := ⟨("_law_lap", none), "_law_lap", "_law_lap", defArgs s_law_lap, defBody s_law_lap, defScope s_law_lap, [], []⟩
def hd_law_rows : He.DefD := ⟨("_law_rows", none), "_law_rows", "_law_rows", defArgs s_law_rows, defBody s_law_rows, defScope s_law_rows, [], []⟩
def hd_law_same : He.DefD := ⟨("_law_same", none), "_law_same", "_law_same", defArgs s_law_same, defBody s_law_same, defScope s_law_same, [], []⟩
def hd_law_told : He.DefD := ⟨("_law_told", none), "_law_told", "_law_told", defArgs s_law_told, defBody s_law_told, defScope s_law_told, [], []⟩
def hd_law_due : He.DefD := ⟨("_law_due", none), "_law_due", "_law_due", defArgs s_law_due, defBody s_law_due, defScope s_law_due, [], []⟩
def hd_law : He.DefD := ⟨("law", none), "law", "law", defArgs s_law, defBody s_law, defScope s_law, [], []⟩
def hfn : List He.DefD := [hd_is_whole, hd_is_pair, hd_is_number_of_many, hd_is_lamp_of_many, hd_is_net, hd_need_net, hd_need_lamp, hd_is_kindling_of_many, hd_are_kindlings, hd_way_of, hd_rings, hd_lap_of, hd_need_kindlings, hd_need_ring, hd_lights_of, hd_clash_on_lamp, hd_first_clash, hd_first_clashes, hd_losses_by_lights, hd_lights_of_all, hd_beats_of_losses, hd_fate_alone, hd_fates, hd_rests_from, hd_beats_on_ring, hd_gaps_of_beats, hd_round_of_gaps, hd_rest_of, hd_round_of_lamps, hd_gaps, hd_burns_for_ever, hd_spans_of_lightings, hd_is_lit_by, hd_burns_from, hd_can_burn, hd_law_mix, hd_law_bag, hd_law_draw, hd_law_some, hd_law_net, hd_law_ring, hd_law_lap, hd_law_rows, hd_law_same, hd_law_told, hd_law_due, hd_law]
def hfa : List He.Fa := [.glo "is_whole", .glo "is_pair", .glo "is_number_of_many", .glo "is_lamp_of_many", .glo "is_net", .glo "need_net", .glo "need_lamp", .glo "is_kindling_of_many", .glo "are_kindlings", .glo "way_of", .glo "rings", .glo "lap_of", .glo "need_kindlings", .glo "need_ring", .glo "lights_of", .glo "clash_on_lamp", .glo "first_clash", .glo "first_clashes", .glo "losses_by_lights", .glo "lights_of_all", .glo "beats_of_losses", .glo "fate_alone", .glo "fates", .glo "rests_from", .glo "beats_on_ring", .glo "gaps_of_beats", .glo "round_of_gaps", .glo "rest_of", .glo "round_of_lamps", .glo "gaps", .glo "burns_for_ever", .glo "spans_of_lightings", .glo "is_lit_by", .glo "burns_from", .glo "can_burn", .glo "_law_mix", .glo "_law_bag", .glo "_law_draw", .glo "_law_some", .glo "_law_net", .glo "_law_ring", .glo "_law_lap", .glo "_law_rows", .glo "_law_same", .glo "_law_told", .glo "_law_due", .glo "law", .free "all", .free "bool", .free "enumerate", .free "int", .free "isinstance", .free "len", .free "list", .free "max", .free "min", .free "range", .free "sorted", .free "sum", .free "tuple", .free "zip", .int "MOST_LAMPS" 12, .int "MOST_KINDLINGS" 40, .glo "EmberError", .glo "NoNet", .glo "NoKindlings", .glo "NoLamp", .glo "NoRing"]
def htf : List (Str × Option Str) := [("rests_from", none), ("gaps_of_beats", none), ("is_net", none), ("lights_of", none), ("are_kindlings", none)]
abbrev hR : PySem.W.OpenRow := PySem.W.OpenLaw.row PySem.Challenge.rw_emberlane_k65_whole_greater_and_later
abbrev hk : PySem.W.Hook := He.hookX 5 hfa hfn [] htf hex
def hob (s : PySem.W.SharedT) : He.AlX := He.obsX 5 hfa hfn [] htf hex (HandSHeadRun.getT s)
theorem hob_eq (s : PySem.W.SharedT) : hob s = hk.obs s.abs := He.obsX_eq (HandSHeadRun.getT_eq s)
def hloose : List PySem.Str := [("EmberError" : PySem.Str), ("MOST_KINDLINGS" : PySem.Str), ("MOST_LAMPS" : PySem.Str), ("NoKindlings" : PySem.Str), ("NoLamp" : PySem.Str), ("NoNet" : PySem.Str), ("NoRing" : PySem.Str), ("_law_bag" : PySem.Str), ("_law_draw" : PySem.Str), ("_law_due" : PySem.Str), ("_law_lap" : PySem.Str), ("_law_mix" : PySem.Str), ("_law_net" : PySem.Str), ("_law_ring" : PySem.Str), ("_law_rows" : PySem.Str), ("_law_same" : PySem.Str), ("_law_some" : PySem.Str), ("_law_told" : PySem.Str), ("are_kindlings" : PySem.Str), ("beats_of_losses" : PySem.Str), ("beats_on_ring" : PySem.Str), ("burns_for_ever" : PySem.Str), ("burns_from" : PySem.Str), ("can_burn" : PySem.Str), ("clash_on_lamp" : PySem.Str), ("fate_alone" : PySem.Str), ("fates" : PySem.Str), ("first_clash" : PySem.Str), ("first_clashes" : PySem.Str), ("gaps" : PySem.Str), ("gaps_of_beats" : PySem.Str), ("is_kindling_of_many" : PySem.Str), ("is_lamp_of_many" : PySem.Str), ("is_lit_by" : PySem.Str), ("is_net" : PySem.Str), ("is_number_of_many" : PySem.Str), ("is_pair" : PySem.Str), ("is_whole" : PySem.Str), ("lap_of" : PySem.Str), ("lcm" : PySem.Str), ("lights_of" : PySem.Str), ("lights_of_all" : PySem.Str), ("losses_by_lights" : PySem.Str), ("need_kindlings" : PySem.Str), ("need_lamp" : PySem.Str), ("need_net" : PySem.Str), ("need_ring" : PySem.Str), ("rest_of" : PySem.Str), ("rests_from" : PySem.Str), ("rings" : PySem.Str), ("round_of_gaps" : PySem.Str), ("round_of_lamps" : PySem.Str), ("spans_of_lightings" : PySem.Str), ("way_of" : PySem.Str)]
theorem hrun (w : World) : Em.RunImp hR (PySem.W.view hR.prog [61]) hk hob 40000 hloose w := by
  unfold Em.RunImp
  kernel_rfl
section
variable {c : Qc} {a : Ad} {S : List Addr} {v u : V} {d e : PyData}
theorem qf_is_whole (O : c.Ok) (T : Tx c.K c.mg a) (h : Dx S c.H v d) : QF c 1 a.a_is_whole a.f_is_whole ["thing"] [v] (.bl (isW d)) := by
  refine q_fun O T.is_whole.F sc_is_whole (by decide +kernel) rfl fun L cdv => ?_
  have e1 : isW d = (kindB d "int" && !kindB d "bool") := by cases d <;> rfl
  rw [e1]
  exact qb_ret (q_and2 (qe_isi (C := "int") O h (q_name rfl) rfl T.n_isinstance rfl T.n_int (by decide +kernel) (by decide)) fun _ => q_not (qe_isi (C := "bool") O h (q_name rfl) rfl T.n_isinstance rfl T.n_bool (by decide +kernel) (by decide)))
def pairB : PyData → Bool
  | .tuple ds => (ds.length : Int) == 2
  | _ => false
theorem qf_is_pair (O : c.Ok) (T : Tx c.K c.mg a) (h : Dx S c.H v d) : QF c 1 a.a_is_pair a.f_is_pair ["thing"] [v] (.bl (pairB d)) := by
  refine q_fun O T.is_pair.F sc_is_pair (by decide +kernel) rfl fun L cdv => ?_
  have h1 : ∀ {k p1 p2 p3 pos}, QE c k (envOfC "is_pair" (defScope s_is_pair) L a.a_is_pair cdv) [("thing", v)] (.Call (.Name "isinstance" p1) [.Name "thing" p2, .Name (Str.ofString "tuple") p3] [] pos) (.bl (kindB d "tuple")) :=
    qe_isi (C := "tuple") O h (q_name rfl) rfl T.n_isinstance rfl T.n_tuple (by decide +kernel) (by decide)
  have e1 : pairB d = (kindB d "tuple" && pairB d) := by cases d <;> rfl
  rw [e1]
  refine qb_ret (q_and2 h1 fun z => ?_)
  cases h with
  | tup n h r =>
    have := r.len
    show QE _ _ _ _ _ (.bl ((_ : Int) == 2))
    rw [← this]
    exact q_cmp qo_eq (q_callB O (qc_lenT (tupQ_of O h)) rfl T.n_len (by decide +kernel) (qa_cons (q_name rfl) qa_nil)) q_int rfl
  | non => cases z
  | bl b => cases z
  | int i => cases z
  | str y => cases z
  | lst n h r => cases z
  | dic n h => cases z
theorem qf_is_number_of_many {m : Nat} (O : c.Ok) (T : Tx c.K c.mg a) (h : Dx S c.H v d) : QF c 2 a.a_is_number_of_many a.f_is_number_of_many ["thing", "many"] [v, .int m] (.bl (numB m d)) := by
  refine q_fun O T.is_number_of_many.F sc_is_number_of_many (by decide +kernel) rfl fun L cdv => ?_
  have e1 : numB m d = (isW d && numB m d) := by cases d <;> rfl
  rw [e1]
  refine qb_ret (q_and2 (q_call O (qf_is_whole O T h) T.is_whole.b rfl rfl T.is_whole.g T.is_whole.F.kp (qa_cons (q_name rfl) qa_nil)) fun z => ?_)
  cases h with
  | int i => exact q_chain qo_le qo_lt q_int (q_name rfl) (q_name rfl)
  | non => cases z
  | bl b => cases z
  | tup n h r => cases z
  | str y => cases z
  | lst n h r => cases z
  | dic n h => cases z
theorem lampB_pair {m : Nat} (h : pairB d = false) : lampB m d = false := by
  cases d with
  | tuple ds =>
    match ds, h with
    | [], _ => rfl
    | [_], _ => rfl
    | [_, _], h => cases h
    | _ :: _ :: _ :: _, _ => rfl
  | _ => rfl
theorem qf_is_lamp_of_many {m : Nat} (O : c.Ok) (T : Tx c.K c.mg a) (h : Dx S c.H v d) : QF c 3 a.a_is_lamp_of_many a.f_is_lamp_of_many ["thing", "many"] [v, .int m] (.bl (lampB m d)) := by
  refine q_fun O T.is_lamp_of_many.F sc_is_lamp_of_many (by decide +kernel) rfl fun L cdv => ?_
  have hp : ∀ {N : Nm} {p1 p2 pos}, N.lookup ("thing" : Str) = some v → QE c 2 (envOfC "is_lamp_of_many" (defScope s_is_lamp_of_many) L a.a_is_lamp_of_many cdv) N (.Call (.Name "is_pair" p1) [.Name "thing" p2] [] pos) (.bl (pairB d)) := fun hN =>
    q_call O (fun A R args us s r => qf_is_pair O T h A R args us s (r.mono (by decide))) T.is_pair.b rfl rfl T.is_pair.g T.is_pair.F.kp (qa_cons (q_name hN) qa_nil)
  cases z : pairB d with
  | false =>
    rw [lampB_pair z]
    refine qb_ifT (qt_not (t := false) (qt_val ?_)) (qb_ret q_bool)
    rw [← z]
    exact hp rfl
  | true =>
    refine qb_ifF (qt_not (t := true) (qt_val ?_)) ?_
    · rw [← z]
      exact hp rfl
    cases h with
    | @tup ad xs ds n h r =>
      have hl : (ds.length : Int) = 2 := by simpa [pairB] using z
      match ds, r with
      | [d1, d2], .cons (v := v1) r1 (.cons (v := v2) r2 .nil) =>
        refine qb_two (q_name rfl) (tupQ_of O h) rfl rfl (fun y hy => ?_) ?_
        · by_cases e1 : y = "thing"
          · rw [e1]; rfl
          · by_cases e2 : y = "many"
            · rw [e2]; rfl
            · have q1 : (y == ("thing" : Str)) = false := by simpa using e1
              have q2 : (y == ("many" : Str)) = false := by simpa using e2
              simp [List.zip, List.zipWith, List.lookup, q1, q2] at hy
        · have hw : ∀ {N : Nm} {p1 p2 pos}, N.lookup ("length" : Str) = some v1 → QE c 2 (envOfC "is_lamp_of_many" (defScope s_is_lamp_of_many) L a.a_is_lamp_of_many cdv) N (.Call (.Name "is_whole" p1) [.Name "length" p2] [] pos) (.bl (isW d1)) := fun hN =>
            q_call O (fun A R args us s r => qf_is_whole O T r1 A R args us s (r.mono (by decide))) T.is_whole.b rfl rfl T.is_whole.g T.is_whole.F.kp (qa_cons (q_name hN) qa_nil)
          cases y1 : isW d1 with
          | false =>
            have e3 : lampB m (.tuple [d1, d2]) = false := by
              have : lenB d1 = false := by cases d1 <;> first | rfl | cases y1
              show (lenB d1 && _) = false
              rw [this]; rfl
            rw [e3]
            refine qb_ifT (qt_orT (qt_not (t := false) (qt_val ?_))) (qb_ret q_bool)
            rw [← y1]
            exact hw rfl
          | true =>
            cases r1 with
            | int i =>
              have h0 : ∀ {p1 p2 p3 p4}, QT c 2 (envOfC "is_lamp_of_many" (defScope s_is_lamp_of_many) L a.a_is_lamp_of_many cdv) (("onward", v2) :: ("length", .int i) :: [("thing", .ref ad), ("many", .int m)])
                  (.UnaryOp .Not (.Call (.Name "is_whole" p1) [.Name "length" p2] [] p3) p4) false := by
                refine qt_not (t := true) (qt_val ?_)
                exact hw rfl
              have e4 : lampB m (.tuple [.int i, d2]) = (!decide (i < 1) && nxB m d2) := rfl
              cases y2 : decide (i < 1) with
              | true =>
                rw [e4, y2]
                exact qb_ifT (qt_or2 h0 (y2 ▸ qt_cmp qo_lt (q_name rfl) q_int rfl)) (qb_ret q_bool)
              | false =>
                rw [e4, y2]
                refine qb_ifF (qt_or2 h0 (y2 ▸ qt_cmp qo_lt (q_name rfl) q_int rfl)) ?_
                have e5 : (!false && nxB m d2) = (decide (v2 = .non) || numB m d2) := by
                  cases r2 <;> first | rfl | (simp [nxB])
                rw [e5]
                refine qb_ret (q_or2 (q_isN (q_name rfl)) fun _ => ?_)
                exact q_call O (fun A R args us s r => qf_is_number_of_many O T r2 A R args us s (r.mono (by decide))) T.is_number_of_many.b rfl rfl T.is_number_of_many.g T.is_number_of_many.F.kp (qa_cons (q_name rfl) (qa_cons (q_name rfl) qa_nil))
            | non => cases y1
            | bl b => cases y1
            | tup n h r => cases y1
            | str y => cases y1
            | lst n h r => cases y1
            | dic n h => cases y1
    | non => cases z
    | bl b => cases z
    | int i => cases z
    | str y => cases z
    | lst n h r => cases z
    | dic n h => cases z
end
section
variable {P : Program} {w : World} {K : PySem.W.Frag} {mg : Str → Option Value} {base : Heap} {a : Ad}
/-- is_net(thing), thing any data -/
def spIsNet (TB : Addr) : Sp := fun vs H Q _ => ∃ (S : List Addr) (v : V) (d : PyData), vs = [v] ∧ Dx S H v d ∧ GxR.TabG H TB ∧ ∀ H', Kp [] H H' → Q (.bl (netB d)) H'
theorem ok_is_net (T : Tx K mg a) (TB : GxR.TabB base mg a.cd_is_net a.tb_is_net) : FnOk P w K mg base CX0 6 a.a_is_net a.f_is_net ["thing"] (spIsNet a.tb_is_net) := by
  refine okC T.is_net.F T.code_is_net sc_is_net (fun vs H Q E h => ?_) (fun A outer s H vs Q E hr h => ?_)
  · obtain ⟨S, v, d, rfl, _⟩ := h
    rfl
  obtain ⟨S, v, d, rfl, hd, ht, q⟩ := h
  refine ⟨_, (pss_cons (ps_if (pt_not (pt_val (pe_callB call_isi (by rfl) T.n_isinstance (by decide +kernel) (pa_cons (pv 0) (pa_cons (pe_bltn (v := .ty "tuple") (by rfl) T.n_tuple (by decide +kernel) rfl) pa_nil))))) (pss_one (ps_ret pe_bl)) pss_nil)
      (pss_cons (ps_set (i := 1) sc_is_net.nd rfl (by first | exact .inl rfl | exact .inr rfl) (pe_callB call_len_seq (by rfl) T.n_len (by decide +kernel) (pa_cons (pv 0) pa_nil)))
      (pss_cons (ps_if (PW.pt (pw_or (pt_cmpR op_lt (pv 1) pe_int (nomark _)) (pw_or1 (pt_cmpR op_gt (pv 1) (pe_glob (v := .int 12) rfl T.c_MOST_LAMPS.choose_spec ⟨_, rfl⟩) (nomark _))))) (pss_one (ps_ret pe_bl)) pss_nil)
      (pss_one (ps_ret (pe_allQ (k := 1) (hr.mono (by decide)) (by rfl) T.n_all TB rfl ⟨rfl, rfl, by decide +kernel, by decide +kernel, by decide +kernel, free_by (by decide +kernel)⟩ (pv 0) (fun _ => rfl))))))), ?_⟩
  have hk : PySem.W.kitOne K (.type (kname d)) (.type "tuple") = some (kindB d "tuple") := kit_data (by decide)
  refine ⟨v, rfl, v, .ty "tuple", _, _, _, rfl, .ty _, tyx_of hd, hk, _, rfl, ?_⟩
  cases z : kindB d "tuple" with
  | false =>
    refine iteT ?_
    have e : netB d = false := by cases d <;> first | rfl | cases z
    have := q H Kp.rfl'
    rw [e] at this
    exact this
  | true =>
    refine iteF ?_
    cases hd with
    | @tup ad xs ds n h r =>
      have hl : (xs.length : Int) = (ds.length : Int) := by rw [r.len]
      -- many = len(thing)
      refine ⟨.ref ad, rfl, ad, xs, rfl, .inr (SqT.of h), ?_⟩
      rw [hl]
      -- if many < 1 or many > MOST_LAMPS
      refine ⟨.int ds.length, rfl, _, _, rfl, rfl, _, rfl, ?_⟩
      have e0 : netB (.tuple ds) = (!decide ((ds.length : Int) < 1) && !decide ((12 : Int) < (ds.length : Int)) && (ds.map (lampB ds.length)).all id) := rfl
      cases z1 : decide ((ds.length : Int) < 1) with
      | true =>
        refine iteT (iteT ?_)
        have := q H Kp.rfl'
        rw [e0, z1] at this
        exact this
      | false =>
        refine iteF ⟨.int ds.length, rfl, _, _, rfl, rfl, _, rfl, ?_⟩
        cases z2 : decide ((12 : Int) < (ds.length : Int)) with
        | true =>
          refine iteT ?_
          have := q H Kp.rfl'
          rw [e0, z1, z2] at this
          exact this
        | false =>
          refine iteF ?_
          -- return all(..)
          refine ⟨.ref ad, rfl, ad, xs, ds.map (lampB ds.length), [("many", .int ds.length)], rfl, .inl (SqT.of h), ht, fun y vy hy => ?_, ⟨by rw [List.length_map, r.len], fun hd env OK hsc j xv b hx hb => ?_⟩, fun H2 hT => ?_⟩
          · by_cases ey : y = "many"
            · subst ey
              have e2 : V.int ds.length = vy := by simpa [List.lookup] using hy
              subst e2
              exact ⟨by decide, by decide +kernel, by decide +kernel, 1, rfl, rfl, (by decide +kernel : (defScope s_is_net).names.lookup _ = some .cell)⟩
            · have ey' : (y == ("many" : Str)) = false := by simpa using ey
              simp [List.lookup, ey'] at hy
          · obtain ⟨dj, hdj, hxv⟩ := r.get hx
            rw [List.getElem?_map, hdj] at hb
            cases hb
            have OT : Tx (Qc.mk P w K mg (wipe H a.tb_is_net) hd).K (Qc.mk P w K mg (wipe H a.tb_is_net) hd).mg a := T
            have hw : Dx S (wipe H a.tb_is_net) xv dj := hxv.wiped ht
            refine q_call OK (qf_is_lamp_of_many OK OT hw) T.is_lamp_of_many.b rfl ?_ T.is_lamp_of_many.g T.is_lamp_of_many.F.kp (qa_cons (q_name rfl) (qa_cons (q_name rfl) qa_nil))
            show env.scope.names.lookup _ = _
            rw [hsc]
            decide +kernel
          · have := q H2 (Kp.tabbed ht hT)
            rw [e0, z1, z2] at this
            exact this
    | non => cases z
    | bl b => cases z
    | int i => cases z
    | str y => cases z
    | lst n h r => cases z
    | dic n h => cases z
end

section
variable {P : Program} {w : World} {K : PySem.W.Frag} {mg : Str → Option Value} {base : Heap} {a : Ad}
def spNeedNet (TB : Addr) : Sp := fun vs H Q _ => ∃ (S : List Addr) (v : V) (N : Net), vs = [v] ∧ Dx S H v (netD N) ∧ NetOk N ∧ GxR.TabG H TB ∧ ∀ H', Kp [] H H' → Q .non H'
theorem ok_need_net (T : Tx K mg a) (TB : GxR.TabB base mg a.cd_is_net a.tb_is_net) : FnOk P w K mg base CX0 7 a.a_need_net a.f_need_net ["net"] (spNeedNet a.tb_is_net) := by
  have G_is_net := ok_is_net (P := P) (w := w) (base := base) T TB
  refine T.need_net.F.ok sc_need_net (fun vs H Q E h => ?_) (fun cdv A outer s H vs Q E hr h => ?_)
  · obtain ⟨S, v, N, rfl, _⟩ := h
    rfl
  obtain ⟨S, v, N, rfl, hd, ok, ht, q⟩ := h
  refine ⟨_, (pss_one (ps_if (pt_not (pt_val (pe_call G_is_net (hr.mono (by decide)) (by rfl) T.is_net.g T.is_net.F.kp T.is_net.b .nil pass0 (pa_cons (pv 0) pa_nil)))) (pss_one ps_never) pss_nil)), ?_⟩
  refine ⟨v, rfl, S, v, netD N, rfl, hd, ht, fun H' k => ⟨true, by rw [netB_of ok], ?_⟩⟩
  exact iteF (q H' k)
def spNeedLamp : Sp := fun vs H Q _ => ∃ (S : List Addr) (v : V) (N : Net) (x : Nat), vs = [v, .int x] ∧ Dx S H v (netD N) ∧ x < N.length ∧ Q .non H
theorem ok_need_lamp (T : Tx K mg a) : FnOk P w K mg base CX0 3 a.a_need_lamp a.f_need_lamp ["net", "lamp"] spNeedLamp := by
  have G_is_number_of_many : FnOk P w K mg base CX0 2 a.a_is_number_of_many a.f_is_number_of_many ["thing", "many"] (fun vs H Q _ => ∃ (x m : Nat), vs = [.int x, .int m] ∧ x < m ∧ Q (.bl true) H) := by
    refine fn_ofQ (fun vs H Q E h => ?_) fun vs H Q E h => ?_
    · obtain ⟨x, m, rfl, _⟩ := h
      rfl
    · obtain ⟨x, m, rfl, hx, q⟩ := h
      refine ⟨.bl true, q, fun hd OK => ?_⟩
      have OT : Tx (Qc.mk P w K mg H hd).K (Qc.mk P w K mg H hd).mg a := T
      have := qf_is_number_of_many (S := []) (m := m) OK OT (.int (x : Int))
      have e : numB m (.int (x : Int)) = true := by
        show (decide ((0 : Int) ≤ (x : Int)) && decide ((x : Int) < (m : Int))) = true
        rw [decide_eq_true (by omega), decide_eq_true (by omega)]
        rfl
      rw [e] at this
      exact fun A R args us s r => this A R args us s (r.mono (by decide))
  refine T.need_lamp.F.ok sc_need_lamp (fun vs H Q E h => ?_) (fun cdv A outer s H vs Q E hr h => ?_)
  · obtain ⟨S, v, N, x, rfl, _⟩ := h
    rfl
  obtain ⟨S, v, N, x, rfl, hd, hx, q⟩ := h
  refine ⟨_, (pss_one (ps_if (pt_not (pt_val (pe_call G_is_number_of_many (hr.mono (by decide)) (by rfl) T.is_number_of_many.g T.is_number_of_many.F.kp T.is_number_of_many.b .nil pass0 (pa_cons (pv 1) (pa_cons (pe_callB call_len_seq (by rfl) T.n_len (by decide +kernel) (pa_cons (pv 0) pa_nil)) pa_nil))))) (pss_one ps_never) pss_nil)), ?_⟩
  cases hd with
  | @tup ad xs ds n h r =>
    have e := r.len
    rw [List.length_map] at e
    refine ⟨.int x, rfl, .ref ad, rfl, ad, xs, rfl, .inr (SqT.of h), x, N.length, by rw [e]; rfl, hx, true, rfl, ?_⟩
    exact iteF q
end

section
variable {P : Program} {w : World} {K : PySem.W.Frag} {mg : Str → Option Value} {base : Heap} {a : Ad}
def spWayOf (TB : Addr) : Sp := fun vs H Q _ => ∃ (S : List Addr) (v : V) (N : Net) (x : Nat), vs = [v, .int x] ∧ Dx S H v (netD N) ∧ NetOk N ∧ x < N.length ∧ GxR.TabG H TB ∧ ∀ v' H', Kp [] H H' → Nw H H' v' (wayD N x) → Q v' H'
theorem ok_way_of (T : Tx K mg a) (TB : GxR.TabB base mg a.cd_is_net a.tb_is_net) : FnOk P w K mg base CX0 8 a.a_way_of a.f_way_of ["net", "lamp"] (spWayOf a.tb_is_net) := by
  have G_need_net := ok_need_net (P := P) (w := w) (base := base) T TB
  have G_need_lamp := ok_need_lamp (P := P) (w := w) (base := base) T
  refine T.way_of.F.ok sc_way_of (fun vs H Q E h => ?_) (fun cdv A outer s H vs Q E hr h => ?_)
  · obtain ⟨S, v, N, x, rfl, _⟩ := h
    rfl
  obtain ⟨S, v, N, x, rfl, hd, ok, hx, ht, q⟩ := h
  refine ⟨_, (pss_cons (ps_expr (pe_call G_need_net (hr.mono (by decide)) (by rfl) T.need_net.g T.need_net.F.kp T.need_net.b .nil pass0 (pa_cons (pv 0) pa_nil)))
      (pss_cons (ps_expr (pe_call G_need_lamp (hr.mono (by decide)) (by rfl) T.need_lamp.g T.need_lamp.F.kp T.need_lamp.b .nil pass0 (pa_cons (pv 0) (pa_cons (pv 1) pa_nil))))
      (pss_cons (ps_set (i := 2) sc_way_of.nd rfl (by first | exact .inl rfl | exact .inr rfl) (pe_lst pa_nil))
      (pss_cons (ps_set (i := 3) sc_way_of.nd rfl (by first | exact .inl rfl | exact .inr rfl) (pv 1))
      (pss_cons (ps_while PassesOwn.never (PW.pt (pw_and (pt_cmpR op_notN (pv 3) pe_non (nomark _)) (pw_and1 (pt_cmpR op_notIn_seq (pv 3) (pv 2) (by rfl))))) (pss_cons (ps_expr (pe_bm PySem.F.plainAttrs_list PySem.F.slot_list_append PySem.F.type_list_append mt_append (pv 2) (pa_cons (pv 3) pa_nil)))
      (pss_one (ps_set (i := 3) sc_way_of.nd rfl (by first | exact .inl rfl | exact .inr rfl) (pe_ix ix_tup (pe_ix ix_tup (pv 0) (pv 3) (fun _ _ => rfl)) pe_int (fun _ _ => rfl))))))
      (pss_cons (ps_if (pt_cmpR op_isN (pv 3) pe_non (nomark _)) (pss_one (ps_ret (pe_tup (pa_cons (pe_callTy call_tuple_of (by rfl) T.n_tuple (by decide +kernel) (pa_cons (pv 2) pa_nil)) (pa_cons (pe_tup pa_nil) pa_nil))))) pss_nil)
      (pss_cons (ps_set (i := 4) sc_way_of.nd rfl (by first | exact .inl rfl | exact .inr rfl) (pe_bm PySem.F.plainAttrs_list PySem.F.slot_list_index PySem.F.type_list_index mt_index (pv 2) (pa_cons (pv 3) pa_nil)))
      (pss_one (ps_ret (pe_tup (pa_cons (pe_callTy call_tuple_of (by rfl) T.n_tuple (by decide +kernel) (pa_cons (pe_slice sl_list (pv 2) po_none (po_some (pv 4))) pa_nil)) (pa_cons (pe_callTy call_tuple_of (by rfl) T.n_tuple (by decide +kernel) (pa_cons (pe_slice sl_list (pv 2) (po_some (pv 4)) po_none) pa_nil)) pa_nil)))))))))))), ?_⟩
  -- need_net(net), need_lamp(net, lamp)
  refine ⟨v, rfl, S, v, N, rfl, hd, ok, ht, fun Ha ka => ?_⟩
  have hda : Dx S Ha v (netD N) := hd.kp ka fun _ z => by cases z
  refine ⟨v, rfl, .int x, rfl, S, v, N, x, rfl, hda, hx, ?_⟩
  -- gone = [], at = lamp
  refine ⟨Nat.zero_le _, fun gp ng => ⟨.int x, rfl, ?_⟩⟩
  have hdl : ∀ l, Dx S (upd Ha gp (.lst l)) v (netD N) := fun l => hda.kp (Kp.new (S := []) ng) fun _ z => by cases z
  obtain ⟨I, hI⟩ : ∃ I : Nat → L2.St → Hp → Prop, I = fun m σ H3 => ∃ (g : List Nat) (at_ : V), σ = [some v, some (.int x), some (.ref gp), some at_, none] ∧ H3 = upd Ha gp (.lst (natV g)) ∧ ((g = [] ∧ at_ = .int x) ∨ ∃ i, Gone N x i g ∧ at_ = nxV (nxt N (lastOf g))) ∧ m + g.length = N.length + 1 := ⟨_, rfl⟩
  refine ⟨I, ⟨N.length + 1, by rw [hI]; exact ⟨[], _, rfl, rfl, .inl ⟨rfl, rfl⟩, rfl⟩⟩, fun m σ H3 hW => ?_⟩
  rw [hI] at hW
  obtain ⟨g, at_, rfl, rfl, hg, hm⟩ := hW
  have hdg := hdl (natV g)
  have hgp : (upd Ha gp (.lst (natV g))) gp = some (.lst (natV g)) := upd_same
  have kg : Kp [] H (upd Ha gp (.lst (natV g))) := ka.tr (Kp.new ng)
  have trg : ∀ b, H b ≠ none → (upd Ha gp (.lst (natV g))) b ≠ none := kg.tr_
  have hlen : g.length ≤ N.length := by
    rcases hg with ⟨e, _⟩ | ⟨i, gi, _⟩
    · rw [e]; exact Nat.zero_le _
    · exact gi.le
  have h12 := ok.hi
  have zl : (natV g).length < sizeLine := by rw [natV_len]; exact Nat.lt_of_le_of_lt (Nat.le_trans hlen h12) (by decide)
  have two : (∃ y : Nat, at_ = .int y ∧ y < N.length ∧ ((g = [] ∧ y = x) ∨ ∃ i, Gone N x i g ∧ nxt N (lastOf g) = some y)) ∨ (at_ = .non ∧ ∃ i, Gone N x i g ∧ nxt N (lastOf g) = none) := by
    rcases hg with ⟨e, e2⟩ | ⟨i, gi, e2⟩
    · exact .inl ⟨x, e2, hx, .inl ⟨e, rfl⟩⟩
    · cases z : nxt N (lastOf g) with
      | none => rw [z] at e2; exact .inr ⟨e2, i, gi, rfl⟩
      | some y => rw [z] at e2; exact .inl ⟨y, e2, nxt_lt ok z, .inr ⟨i, gi, rfl⟩⟩
  rcases two with ⟨y, rfl, hy, hst⟩ | ⟨rfl, i, gi, hnx⟩
  · -- a lamp is come to
    refine ⟨.int y, rfl, rfl, _, rfl, iteT ?_⟩
    refine ⟨.int y, rfl, .ref gp, rfl, gp, natV g, rfl, .inl (SqL.of hgp), rfl, natV_flat g, _, rfl, ?_⟩
    show if (!inV (.int (y : Int)) (natV g)) = true then _ else _
    rw [inV_natV]
    by_cases hn : y ∈ g
    · -- it was come by: the loop is over
      rw [decide_eq_true hn]
      refine iteF ?_
      rcases hst with ⟨e, _⟩ | ⟨i, gi, hnx⟩
      · rw [e] at hn; cases hn
      have hpa : path N x = g := gi.done (step_in hnx hn)
      have hcut : cutAt N (path N x) = g.idxOf y := by rw [hpa]; unfold cutAt; rw [hnx]
      have hix : g.idxOf y < g.length := List.idxOf_lt_length_iff.mpr hn
      have hge : g[g.idxOf y]? = some y := by rw [List.getElem?_eq_getElem hix, List.getElem_idxOf hix]
      -- if at is None
      refine ⟨.int y, rfl, rfl, _, rfl, iteF ?_⟩
      -- first = gone.index(at)
      refine ⟨.ref gp, rfl, .inl ⟨rfl, _, SqL.of hgp⟩, .int y, rfl, gp, natV g, .int y, g.idxOf y, .int y, rfl, rfl, SqL.of hgp, rfl, natV_flat g, natV_get hge, by show ((y : Int) == (y : Int)) = true; simp, fun j z hj hz => ?_, ?_⟩
      · obtain ⟨u, hu, rfl⟩ : ∃ u, g[j]? = some u ∧ z = .int (u : Int) := by
          unfold natV at hz
          rw [List.getElem?_map] at hz
          cases q1 : g[j]? with
          | none => rw [q1] at hz; cases hz
          | some u => rw [q1] at hz; exact ⟨u, rfl, (Option.some.inj hz).symm⟩
        show ((u : Int) == (y : Int)) = false
        have hne : u ≠ y := idx_ne hj hu
        simp only [beq_eq_false_iff_ne]
        omega
      -- return (tuple(gone[:first]), tuple(gone[first:]))
      refine ⟨.ref gp, rfl, .int (g.idxOf y : Nat), rfl, _, rfl, gp, natV g, rfl, SqL.of hgp, fun p1 n1 => ?_⟩
      obtain ⟨H1, e1⟩ : ∃ H1, H1 = upd (upd Ha gp (.lst (natV g))) p1 (.lst (cutV (natV g) none (some (g.idxOf y : Nat)))) := ⟨_, rfl⟩
      rw [← e1]
      have k1 : Kp [] (upd Ha gp (.lst (natV g))) H1 := e1 ▸ Kp.new n1
      refine ⟨p1, _, rfl, .inl ⟨SqL.of (by rw [e1]; exact upd_same), fun t1 nt1 => ?_⟩⟩
      rw [natV_cut0 (Nat.le_of_lt hix)]
      obtain ⟨H2, e2⟩ : ∃ H2, H2 = upd H1 t1 (.tup (natV (g.take (g.idxOf y)))) := ⟨_, rfl⟩
      rw [← e2]
      have k2 : Kp [] H1 H2 := e2 ▸ Kp.new nt1
      have w1 : Nw H H2 (.ref t1) (natsD (g.take (g.idxOf y))) := by
        rw [e2]
        exact Nw.tup (kg.tr k1).tr_ nt1 (nwA_natV _)
      have hgp2 : H2 gp = some (.lst (natV g)) := (k1.tr k2).lst (by simp) hgp
      refine ⟨.ref gp, rfl, .int (g.idxOf y : Nat), rfl, _, rfl, gp, natV g, rfl, SqL.of hgp2, fun p2 n2 => ?_⟩
      obtain ⟨H3, e3⟩ : ∃ H3, H3 = upd H2 p2 (.lst (cutV (natV g) (some (g.idxOf y : Nat)) none)) := ⟨_, rfl⟩
      rw [← e3]
      have k3 : Kp [] H2 H3 := e3 ▸ Kp.new n2
      refine ⟨p2, _, rfl, .inl ⟨SqL.of (by rw [e3]; exact upd_same), fun t2 nt2 => ?_⟩⟩
      rw [natV_cut1 (Nat.le_of_lt hix)]
      obtain ⟨H4, e4⟩ : ∃ H4, H4 = upd H3 t2 (.tup (natV (g.drop (g.idxOf y)))) := ⟨_, rfl⟩
      rw [← e4]
      have k4 : Kp [] H3 H4 := e4 ▸ Kp.new nt2
      have kh4 : Kp [] H H4 := kg.tr (k1.tr (k2.tr (k3.tr k4)))
      have w2 : Nw H H4 (.ref t2) (natsD (g.drop (g.idxOf y))) := by
        rw [e4]
        exact Nw.tup (kg.tr (k1.tr (k2.tr k3))).tr_ nt2 (nwA_natV _)
      refine ⟨by show 2 ≤ sizeLine; decide, fun t3 n3 => q _ _ (kh4.tr (Kp.new n3)) ?_⟩
      have e5 : wayD N x = .tuple [natsD (g.take (g.idxOf y)), natsD (g.drop (g.idxOf y))] := by
        unfold wayD wayA wayR
        rw [hcut, hpa]
      rw [e5]
      exact Nw.tup kh4.tr_ n3 (.cons (w1.kp (k3.tr k4)) (.cons w2 .nil))
    · rw [decide_eq_false hn]
      refine iteT ⟨fun σ' H' => ∃ m', m' < m ∧ I m' σ' H', fun _ _ h => h, ?_⟩
      obtain ⟨p, hp⟩ : ∃ p, N[y]? = some p := ⟨N[y], List.getElem?_eq_getElem hy⟩
      -- gone.append(at)
      refine ⟨.ref gp, rfl, .inl ⟨rfl, _, SqL.of hgp⟩, .int y, rfl, gp, natV g, .int y, rfl, rfl, hgp, zl, ?_⟩
      rw [upd_upd]
      -- at = net[at][1]
      obtain ⟨ad, xs, rfl, _, h1, hl1, hat⟩ := net_at (hdl (natV g ++ [.int (y : Int)]))
      obtain ⟨la, hxl, _, h2⟩ := hat y p hp
      refine ⟨.ref ad, rfl, .int y, rfl, ad, xs, y, .ref la, rfl, rfl, SqT.of h1, atI_nat hxl, la, _, 1, nxV p.2, rfl, rfl, SqT.of h2, atI_nat (j := 1) rfl, ?_⟩
      rw [hI]
      have hyg : Gone N x (g.length) (g ++ [y]) := by
        rcases hst with ⟨e, e2⟩ | ⟨i, gi, hnx⟩
        · subst e; subst e2; exact Gone.start hx
        · have := gi.more ok hnx hn
          rwa [← gi.len] at this
      have hgl := hyg.le
      rw [List.length_append] at hgl
      refine ⟨m - 1, by simp at hgl; omega, g ++ [y], nxV p.2, rfl, by rw [natV_app], .inr ⟨_, hyg, by rw [last_app, nxt_get hp]⟩, ?_⟩
      rw [List.length_append]
      simp at hgl ⊢
      omega
  · -- the way is over
    refine ⟨.non, rfl, rfl, _, rfl, iteF ?_⟩
    refine ⟨.non, rfl, rfl, _, rfl, iteT ?_⟩
    have hpa : path N x = g := gi.done (step_none hnx)
    have hcut : cutAt N (path N x) = g.length := by rw [hpa]; unfold cutAt; rw [hnx]
    refine ⟨.ref gp, rfl, gp, natV g, rfl, .inl ⟨SqL.of hgp, fun t1 nt1 => ?_⟩⟩
    obtain ⟨H2, e2⟩ : ∃ H2, H2 = upd (upd Ha gp (.lst (natV g))) t1 (.tup (natV g)) := ⟨_, rfl⟩
    rw [← e2]
    have k2 : Kp [] (upd Ha gp (.lst (natV g))) H2 := e2 ▸ Kp.new nt1
    have w1 : Nw H H2 (.ref t1) (natsD g) := by
      rw [e2]
      exact Nw.tup kg.tr_ nt1 (nwA_natV _)
    refine ⟨Nat.zero_le _, fun t2 nt2 => ?_⟩
    obtain ⟨H4, e4⟩ : ∃ H4, H4 = upd H2 t2 (.tup []) := ⟨_, rfl⟩
    rw [← e4]
    have k4 : Kp [] H2 H4 := e4 ▸ Kp.new nt2
    have kh4 : Kp [] H H4 := kg.tr (k2.tr k4)
    have w2 : Nw H H4 (.ref t2) (natsD []) := by
      rw [e4]
      exact Nw.tup (kg.tr k2).tr_ nt2 .nil
    refine ⟨by show 2 ≤ sizeLine; decide, fun t3 n3 => q _ _ (kh4.tr (Kp.new n3)) ?_⟩
    have e5 : wayD N x = .tuple [natsD g, natsD []] := by
      unfold wayD wayA wayR
      rw [hcut, hpa, List.take_length, List.drop_length]
    rw [e5]
    exact Nw.tup kh4.tr_ n3 (.cons (w1.kp k4) (.cons w2 .nil))
end

section
variable {c : Qc} {a : Ad} {S : List Addr} {v u : V} {d e : PyData}
theorem sparkB_pair {m : Nat} (h : pairB d = false) : sparkB m d = false := by
  cases d with
  | tuple ds =>
    match ds, h with
    | [], _ => rfl
    | [_], _ => rfl
    | [_, _], h => cases h
    | _ :: _ :: _ :: _, _ => rfl
  | _ => rfl
theorem qf_is_kindling_of_many {m : Nat} (O : c.Ok) (T : Tx c.K c.mg a) (h : Dx S c.H v d) : QF c 3 a.a_is_kindling_of_many a.f_is_kindling_of_many ["thing", "many"] [v, .int m] (.bl (sparkB m d)) := by
  refine q_fun O T.is_kindling_of_many.F sc_is_kindling_of_many (by decide +kernel) rfl fun L cdv => ?_
  have hp : ∀ {N : Nm} {p1 p2 pos}, N.lookup ("thing" : Str) = some v → QE c 2 (envOfC "is_kindling_of_many" (defScope s_is_kindling_of_many) L a.a_is_kindling_of_many cdv) N (.Call (.Name "is_pair" p1) [.Name "thing" p2] [] pos) (.bl (pairB d)) := fun hN =>
    q_call O (fun A R args us s r => qf_is_pair O T h A R args us s (r.mono (by decide))) T.is_pair.b rfl rfl T.is_pair.g T.is_pair.F.kp (qa_cons (q_name hN) qa_nil)
  cases z : pairB d with
  | false =>
    rw [sparkB_pair z]
    refine qb_ifT (qt_not (t := false) (qt_val ?_)) (qb_ret q_bool)
    rw [← z]
    exact hp rfl
  | true =>
    refine qb_ifF (qt_not (t := true) (qt_val ?_)) ?_
    · rw [← z]
      exact hp rfl
    cases h with
    | @tup ad xs ds n h r =>
      have hl : (ds.length : Int) = 2 := by simpa [pairB] using z
      match ds, r with
      | [d1, d2], .cons (v := v1) r1 (.cons (v := v2) r2 .nil) =>
        refine qb_two (q_name rfl) (tupQ_of O h) rfl rfl (fun y hy => ?_) ?_
        · by_cases e1 : y = "thing"
          · rw [e1]; rfl
          · by_cases e2 : y = "many"
            · rw [e2]; rfl
            · have q1 : (y == ("thing" : Str)) = false := by simpa using e1
              have q2 : (y == ("many" : Str)) = false := by simpa using e2
              simp [List.zip, List.zipWith, List.lookup, q1, q2] at hy
        · have hw : ∀ {N : Nm} {p1 p2 pos}, N.lookup ("beat" : Str) = some v1 → QE c 2 (envOfC "is_kindling_of_many" (defScope s_is_kindling_of_many) L a.a_is_kindling_of_many cdv) N (.Call (.Name "is_whole" p1) [.Name "beat" p2] [] pos) (.bl (isW d1)) := fun hN =>
            q_call O (fun A R args us s r => qf_is_whole O T r1 A R args us s (r.mono (by decide))) T.is_whole.b rfl rfl T.is_whole.g T.is_whole.F.kp (qa_cons (q_name hN) qa_nil)
          cases y1 : isW d1 with
          | false =>
            have e3 : sparkB m (.tuple [d1, d2]) = false := by
              have : beatB d1 = false := by cases d1 <;> first | rfl | cases y1
              show (beatB d1 && _) = false
              rw [this]; rfl
            rw [e3]
            refine qb_ifT (qt_orT (qt_not (t := false) (qt_val ?_))) (qb_ret q_bool)
            rw [← y1]
            exact hw rfl
          | true =>
            cases r1 with
            | int i =>
              have h0 : ∀ {p1 p2 p3 p4}, QT c 2 (envOfC "is_kindling_of_many" (defScope s_is_kindling_of_many) L a.a_is_kindling_of_many cdv) (("lamp", v2) :: ("beat", .int i) :: [("thing", .ref ad), ("many", .int m)])
                  (.UnaryOp .Not (.Call (.Name "is_whole" p1) [.Name "beat" p2] [] p3) p4) false := by
                refine qt_not (t := true) (qt_val ?_)
                exact hw rfl
              have e4 : sparkB m (.tuple [.int i, d2]) = (!decide (i < 0) && numB m d2) := rfl
              cases y2 : decide (i < 0) with
              | true =>
                rw [e4, y2]
                exact qb_ifT (qt_or2 h0 (y2 ▸ qt_cmp qo_lt (q_name rfl) q_int rfl)) (qb_ret q_bool)
              | false =>
                rw [e4, y2]
                refine qb_ifF (qt_or2 h0 (y2 ▸ qt_cmp qo_lt (q_name rfl) q_int rfl)) ?_
                have e5 : (!false && numB m d2) = numB m d2 := rfl
                rw [e5]
                exact qb_ret (q_call O (fun A R args us s r => qf_is_number_of_many O T r2 A R args us s (r.mono (by decide))) T.is_number_of_many.b rfl rfl T.is_number_of_many.g T.is_number_of_many.F.kp (qa_cons (q_name rfl) (qa_cons (q_name rfl) qa_nil)))
            | non => cases y1
            | bl b => cases y1
            | tup n h r => cases y1
            | str y => cases y1
            | lst n h r => cases y1
            | dic n h => cases y1
    | non => cases z
    | bl b => cases z
    | int i => cases z
    | str y => cases z
    | lst n h r => cases z
    | dic n h => cases z
end

section
variable {P : Program} {w : World} {K : PySem.W.Frag} {mg : Str → Option Value} {base : Heap} {a : Ad}
def sparkD (b : Int) (x : Nat) : PyData := .tuple [.int b, .int x]
theorem spark_at {H : Hp} {v : V} {b : Int} {x : Nat} (h : Tu H v (sparkD b x)) : ∃ q : Addr, v = .ref q ∧ H q = some (.tup [.int b, .int x]) := by
  cases h with
  | @tup q xs ds h t =>
    cases t with
    | cons t1 t =>
      cases t1
      cases t with
      | cons t2 t =>
        cases t
        cases t2
        exact ⟨q, rfl, h⟩
theorem spark_ok {m x : Nat} {b : Int} (h0 : 0 ≤ b) (hx : x < m) : sparkB m (sparkD b x) = true := by
  show (!decide (b < 0) && (decide ((0 : Int) ≤ (x : Int)) && decide ((x : Int) < (m : Int)))) = true
  rw [decide_eq_false (by omega), decide_eq_true (by omega), decide_eq_true (by omega)]
  rfl
/-- the lights told -/
def spLights (TB TB2 : Addr) : Sp := fun vs H Q _ => ∃ (v u : V) (N : Net) (b : Int) (x : Nat), vs = [v, u] ∧ Tu H v (netD N) ∧ NetOk N ∧ Tu H u (sparkD b x) ∧ x < N.length ∧ GxR.TabG H TB ∧ GxR.TabG H TB2 ∧
  ∀ d r H', H d = none → H' d = some (.dK r) → LtA H' r (lightsL N b x) → Kp [] H H' → Q (.ref d) H'
theorem ok_lights_of (T : Tx K mg a) (TB : GxR.TabB base mg a.cd_is_net a.tb_is_net) (TB2 : GxR.TabB base mg a.cd_lights_of a.tb_lights_of) : FnOk P w K mg base CX0 11 a.a_lights_of a.f_lights_of ["net", "kindling"] (spLights a.tb_is_net a.tb_lights_of) := by
  have G_way_of := ok_way_of (P := P) (w := w) (base := base) T TB
  refine okC T.lights_of.F T.code_lights_of sc_lights_of (fun vs H Q E h => ?_) (fun A outer s H vs Q E hr h => ?_)
  · obtain ⟨v, u, N, b, x, rfl, _⟩ := h
    rfl
  obtain ⟨v, u, N, b, x, rfl, hn, ok, hu0, hx, ht, ht2, q⟩ := h
  have hu := hu_of hr
  obtain ⟨kq, rfl, hkq⟩ := spark_at hu0
  refine ⟨_, (pss_cons (ps_asg (pv 1) (pg_tup (by rfl) (pgs_cons (pg_name (i := 2) sc_lights_of.nd rfl (by first | exact .inl rfl | exact .inr rfl)) (pgs_cons (pg_name (i := 3) sc_lights_of.nd rfl (by first | exact .inl rfl | exact .inr rfl)) pgs_nil))))
      (pss_cons (ps_asg (pe_call G_way_of (hr.mono (by decide)) (by rfl) T.way_of.g T.way_of.F.kp T.way_of.b .nil pass0 (pa_cons (pv 0) (pa_cons (pv 3) pa_nil))) (pg_tup (by rfl) (pgs_cons (pg_name (i := 4) sc_lights_of.nd rfl (by first | exact .inl rfl | exact .inr rfl)) (pgs_cons (pg_name (i := 5) sc_lights_of.nd rfl (by first | exact .inl rfl | exact .inr rfl)) pgs_nil))))
      (pss_cons (ps_set (i := 6) sc_lights_of.nd rfl (by first | exact .inl rfl | exact .inr rfl) (pe_sumQ (k := 1) (hr.mono (by decide)) (by rfl) T.n_sum TB2 rfl ⟨rfl, rfl, by decide +kernel, by decide +kernel, by decide +kernel, free_by (by decide +kernel)⟩ (pv 5) (fun _ => rfl)))
      (pss_cons (ps_set (i := 7) sc_lights_of.nd rfl (by first | exact .inl rfl | exact .inr rfl) pe_dnewK)
      (pss_cons (ps_for PassesOwn.never rfl (pi_tup (pv 4)) (pg_name (i := 8) sc_lights_of.nd rfl (by first | exact .inl rfl | exact .inr rfl)) (pss_cons (ps_dput hu (pv 7) (pv 8) (pe_tup (pa_cons (pv 2) (pa_cons pe_non pa_nil))) rfl)
      (pss_one (ps_aug (i := 2) sc_lights_of.nd rfl (by first | exact .inl rfl | exact .inr rfl) (pe_ix ix_tup (pe_ix ix_tup (pv 0) (pv 8) (fun _ _ => rfl)) pe_int (fun _ _ => rfl)) ip_add))))
      (pss_cons (ps_for PassesOwn.never rfl (pi_tup (pv 5)) (pg_name (i := 8) sc_lights_of.nd rfl (by first | exact .inl rfl | exact .inr rfl)) (pss_cons (ps_dput hu (pv 7) (pv 8) (pe_tup (pa_cons (pv 2) (pa_cons (pv 6) pa_nil))) rfl)
      (pss_one (ps_aug (i := 2) sc_lights_of.nd rfl (by first | exact .inl rfl | exact .inr rfl) (pe_ix ix_tup (pe_ix ix_tup (pv 0) (pv 8) (fun _ _ => rfl)) pe_int (fun _ _ => rfl)) ip_add))))
      (pss_one (ps_ret (pv 7))))))))), ?_⟩
  -- beat, lamp = kindling
  refine ⟨.ref kq, rfl, kq, _, rfl, SqT.of hkq, rfl, _, _, rfl, _, _, rfl, rfl, ?_⟩
  -- ahead, ring = way_of(net, lamp)
  refine ⟨v, rfl, .int x, rfl, [], v, N, x, rfl, hn.dx0, ok, hx, ht, fun v1 H1 k1 nw => ?_⟩
  obtain ⟨wa, pa, pr, rfl, _, hwa, hpa, hpr, _, _⟩ := way_at (nw [] fun s z => by cases z)
  refine ⟨wa, _, rfl, SqT.of hwa, rfl, _, _, rfl, _, _, rfl, rfl, ?_⟩
  have hn1 := hn.kt k1.kt0
  have ht1 := k1.tab _ ht
  have ht21 := k1.tab _ ht2
  obtain ⟨ad, xs, rfl, hx1, hl1, hat⟩ := tnet_at hn1
  -- lap = sum(..)
  refine ⟨.ref pr, rfl, pr, natV (wayR N x), ((wayR N x).map (burnOf N)).map V.int, [("net", .ref ad)], rfl, .inl (SqT.of hpr), ht21, fun y vy hy => ?_, ⟨by rw [List.length_map, List.length_map, natV_len], fun hd env OK hsc j xv bv hxj hbj => ?_⟩, (wayR N x).map (burnOf N), rfl, fun H2 hT => ?_⟩
  · by_cases ey : y = "net"
    · subst ey
      have e2 : V.ref ad = vy := by simpa [List.lookup] using hy
      subst e2
      exact ⟨by decide, by decide +kernel, by decide +kernel, 0, rfl, rfl, (by decide +kernel : (defScope s_lights_of).names.lookup _ = some .cell)⟩
    · have ey' : (y == ("net" : Str)) = false := by simpa using ey
      simp [List.lookup, ey'] at hy
  · obtain ⟨yy, hyy, rfl⟩ : ∃ f : Nat, (wayR N x)[j]? = some f ∧ xv = .int (f : Int) := by
      unfold natV at hxj
      rw [List.getElem?_map] at hxj
      cases q1 : (wayR N x)[j]? with
      | none => rw [q1] at hxj; cases hxj
      | some u => rw [q1] at hxj; exact ⟨u, rfl, (Option.some.inj hxj).symm⟩
    rw [List.getElem?_map, List.getElem?_map, hyy] at hbj
    obtain rfl : V.int (burnOf N yy) = bv := Option.some.inj hbj
    have hyl := way_sub ok hx yy (List.mem_of_getElem? hyy)
    obtain ⟨la, hxl, hla⟩ := hat yy _ (List.getElem?_eq_getElem hyl)
    have w1 : wipe H1 a.tb_lights_of ad = some (.tup xs) := wiped_tup ht21 hx1
    have w2 : wipe H1 a.tb_lights_of la = some (.tup [V.int (N[yy]'hyl).1, nxV (N[yy]'hyl).2]) := wiped_tup ht21 hla
    refine q_ixT (j := 0) (q_ixT (j := yy) (q_name rfl) (q_name rfl) (tupQ_of OK w1) hxl) q_int (tupQ_of OK w2) ?_
    rw [burnOf_get (List.getElem?_eq_getElem hyl)]
    rfl
  obtain ⟨lap, elap⟩ : ∃ lap, lap = lapOf N x := ⟨_, rfl⟩
  have es : ((wayR N x).map (burnOf N)).sum = lap := elap.symm
  rw [es]
  have k2 : Kp [] H1 H2 := Kp.tabbed ht21 hT
  have hx2 := k2.kt0 _ _ hx1
  have hpa2 := k2.kt0 _ _ hpa
  have hpr2 := k2.kt0 _ _ hpr
  have hat2 : ∀ (i : Nat) (p : Int × Option Nat), N[i]? = some p → ∃ l, xs[i]? = some (V.ref l) ∧ H2 l = some (.tup [V.int p.1, nxV p.2]) := fun i p hp => let ⟨l, h1, h2⟩ := hat i p hp; ⟨l, h1, k2.kt0 _ _ h2⟩
  clear hat hx1 hpa hpr hn1
  have hpl := path_been ok hx
  have hcat := way_cat N x
  have hnd : (wayA N x ++ wayR N x).Nodup := by rw [hcat]; exact hpl.nd
  have hltA : ∀ y ∈ wayA N x ++ wayR N x, y < N.length := fun y hy => hpl.lt y (by rw [← hcat]; exact hy)
  have hle : (wayA N x).length + (wayR N x).length ≤ 12 := by
    have h1 := hpl.le
    have h2 := ok.hi
    rw [← hcat, List.length_append] at h1
    omega
  -- lights = {}
  refine fun d nd => ?_
  have k3 : Kp [] H2 (upd H2 d (.dK [])) := Kp.new nd
  -- one row of the lights
  have step : ∀ (A R : List Nat) (lp : Option Int) (lv : V) (b0 : Int) (y : Nat) (H3 : Hp) (r : List (Key × V)) (L0 : List Lgt) (QQ : Int → Hp → Prop), H3 d = some (.dK r) → LtA H3 r (L0 ++ lts N lp b0 A) → (y ∉ (L0 ++ lts N lp b0 A).map (·.1)) → L0.length + A.length < 12 → Kp [] H2 H3 → Tu H3 lv (match lp with | none => .none | some l => .int l) → y < N.length →
      (∀ r' H4, H4 d = some (.dK r') → LtA H4 r' (L0 ++ lts N lp b0 (A ++ [y])) → Kp [] H2 H4 → QQ (b0 + sumB N (A ++ [y])) H4) →
      ∀ t, H3 t = none → ∃ (Hx : Hp), DPut (upd H3 t (.tup [.int (b0 + sumB N A), lv])) d (.int y) (.ref t) Hx ∧ ∃ (la : Addr), xs[y]? = some (V.ref la) ∧ Hx ad = some (.tup xs) ∧ (∃ ov, Hx la = some (.tup [V.int (burnOf N y), ov])) ∧ QQ (b0 + sumB N A + burnOf N y) Hx := by
    intro A R lp lv b0 y H3 r L0 QQ hd3 hl3 hny hlen k23 hlv hyl fin t nt
    have k34 : Kp [] H3 (upd H3 t (.tup [.int (b0 + sumB N A), lv])) := Kp.new nt
    have hd4 : upd H3 t (.tup [.int (b0 + sumB N A), lv]) d = some (.dK r) := by rw [upd_ne (ne_of_none hd3 nt)]; exact hd3
    have hl4 := hl3.kt k34.kt0
    have hrl : r.length < 12 := by
      rw [hl3.len, List.length_append, lts_len]; exact hlen
    have hv : valV r (Sum.inl (y : Int) : Key) = none := by
      rcases hl4.val (y := y) with ⟨_, e⟩ | ⟨w, v, e, _⟩
      · exact e
      · rw [look_none hny] at e; cases e
    have htv : Tu (upd H3 t (.tup [.int (b0 + sumB N A), lv])) (.ref t) (lgtD (b0 + sumB N A, lp)) := .tup upd_same (.cons (.int _) (.cons (hlv.kt k34.kt0) .nil))
    obtain ⟨H5, e5⟩ : ∃ H5, H5 = upd (upd H3 t (.tup [.int (b0 + sumB N A), lv])) d (.dK (r ++ [((Sum.inl (y : Int) : Key), .ref t)])) := ⟨_, rfl⟩
    have k45 : Kt (upd H3 t (.tup [.int (b0 + sumB N A), lv])) H5 := by
      rw [e5]; exact Kt.put hd4 fun _ z => by cases z
    have k25 : Kp [] H2 H5 := by
      refine Kp.drop nd ?_
      rw [e5]
      exact (k23.tr k34).of0.tr (Kp.put (by simp) hd4 fun _ z => by cases z)
    obtain ⟨la, hxl, hla⟩ := hat2 y _ (List.getElem?_eq_getElem hyl)
    refine ⟨H5, ?_, la, hxl, k25.kt0 _ _ hx2, ⟨nxV (N[y]'hyl).2, ?_⟩, ?_⟩
    · rw [e5, ← putK_new (V.ref t) hv]
      exact DPut.k (k := Sum.inl (y : Int)) hd4 (Nat.lt_of_lt_of_le hrl (by decide))
    · rw [burnOf_get (List.getElem?_eq_getElem hyl)]
      exact k25.kt0 _ _ hla
    · have e6 : b0 + sumB N A + burnOf N y = b0 + sumB N (A ++ [y]) := by rw [sumB_app, sumB_one]; omega
      rw [e6]
      refine fin _ H5 (by rw [e5]; exact upd_same) ?_ k25
      rw [lts_snoc, ← List.append_assoc]
      exact (hl4.kt k45).snoc (htv.kt k45)
  -- for at in ahead
  refine ⟨.ref pa, rfl, pa, rfl, ⟨_, SqT.of (k3.kt0 _ _ hpa2)⟩, for_tup (xs := natV (wayA N x)) (fun i σ H' => ∃ (o8 : Option V) (r : List (Key × V)), σ = [some (.ref ad), some (.ref kq), some (.int (b + sumB N ((wayA N x).take i))), some (.int x), some (.ref pa), some (.ref pr), some (.int lap), some (.ref d), o8] ∧
      H' d = some (.dK r) ∧ LtA H' r ([] ++ lts N none b ((wayA N x).take i)) ∧ Kp [] H2 H') ⟨none, [], by rw [List.take_zero, sumB_nil, Int.add_zero]; rfl, upd_same, .nil, k3⟩ (fun i σ H' _ hP => ?_) (fun i z σ H3 hz hP => ?_) (fun σ H3 hP => ?_)⟩
  · obtain ⟨_, _, _, _, _, k⟩ := hP
    exact SqT.of (k.kt0 _ _ hpa2)
  · obtain ⟨o8, r, rfl, hd3, hl3, k23⟩ := hP
    obtain ⟨y, hy, rfl⟩ : ∃ f : Nat, (wayA N x)[i]? = some f ∧ z = .int (f : Int) := by
      unfold natV at hz
      rw [List.getElem?_map] at hz
      cases q1 : (wayA N x)[i]? with
      | none => rw [q1] at hz; cases hz
      | some u => rw [q1] at hz; exact ⟨u, rfl, (Option.some.inj hz).symm⟩
    have hi := (List.getElem?_eq_some_iff.mp hy).1
    have etk : (wayA N x).take (i + 1) = (wayA N x).take i ++ [y] := by rw [List.take_add_one, hy]; rfl
    refine ⟨.int _, rfl, by show 2 ≤ sizeLine; decide, fun t nt => ?_⟩
    obtain ⟨H5, hput, la, hxl, hx5, ⟨ov, hla⟩, hfin⟩ := step ((wayA N x).take i) [] none .non b y H3 r [] (fun n H' => ∃ (r : List (Key × V)), n = b + sumB N ((wayA N x).take (i + 1)) ∧ H' d = some (.dK r) ∧ LtA H' r ([] ++ lts N none b ((wayA N x).take (i + 1))) ∧ Kp [] H2 H') hd3 hl3 (by
      rw [List.nil_append, lts_fst]
      intro hm
      have := (List.nodup_append.mp hnd).1
      exact nd_take this hy hm) (by rw [List.length_take]; simp; omega) k23 .non (hltA y (List.mem_append_left _ (List.mem_of_getElem? hy))) (fun r' H4 a1 a2 a3 => ⟨r', by rw [etk], a1, by rw [etk]; exact a2, a3⟩) t nt
    refine ⟨.ref d, rfl, .int y, rfl, d, H5, rfl, hput, ?_⟩
    refine ⟨_, rfl, .ref ad, rfl, .int y, rfl, ad, xs, y, .ref la, rfl, rfl, SqT.of hx5, atI_nat hxl, la, _, 0, .int (burnOf N y), rfl, rfl, SqT.of hla, atI_nat (j := 0) rfl, _, _, rfl, rfl, ?_⟩
    obtain ⟨r', en, a1, a2, a3⟩ := hfin
    refine ⟨some (.int y), r', ?_, a1, a2, a3⟩
    rw [← en]
    rfl
  obtain ⟨o8, r, rfl, hd3, hl3, k23⟩ := hP
  rw [natV_len, List.take_length] at hl3 ⊢
  -- for at in ring
  refine ⟨.ref pr, rfl, pr, rfl, ⟨_, SqT.of (k23.kt0 _ _ hpr2)⟩, for_tup (xs := natV (wayR N x)) (fun i σ H' => ∃ (o8 : Option V) (r : List (Key × V)), σ = [some (.ref ad), some (.ref kq), some (.int (b + sumB N (wayA N x) + sumB N ((wayR N x).take i))), some (.int x), some (.ref pa), some (.ref pr), some (.int lap), some (.ref d), o8] ∧
      H' d = some (.dK r) ∧ LtA H' r (lts N none b (wayA N x) ++ lts N (some lap) (b + sumB N (wayA N x)) ((wayR N x).take i)) ∧ Kp [] H2 H') ⟨o8, r, by rw [List.take_zero, sumB_nil, Int.add_zero], hd3, by rw [List.take_zero, lts, List.append_nil]; exact hl3, k23⟩ (fun i σ H' _ hP => ?_) (fun i z σ H3 hz hP => ?_) (fun σ H3 hP => ?_)⟩
  · obtain ⟨_, _, _, _, _, k⟩ := hP
    exact SqT.of (k.kt0 _ _ hpr2)
  · obtain ⟨o8, r, rfl, hd3, hl3, k23⟩ := hP
    obtain ⟨y, hy, rfl⟩ : ∃ f : Nat, (wayR N x)[i]? = some f ∧ z = .int (f : Int) := by
      unfold natV at hz
      rw [List.getElem?_map] at hz
      cases q1 : (wayR N x)[i]? with
      | none => rw [q1] at hz; cases hz
      | some u => rw [q1] at hz; exact ⟨u, rfl, (Option.some.inj hz).symm⟩
    have hi := (List.getElem?_eq_some_iff.mp hy).1
    have etk : (wayR N x).take (i + 1) = (wayR N x).take i ++ [y] := by rw [List.take_add_one, hy]; rfl
    refine ⟨.int _, rfl, .int lap, rfl, by show 2 ≤ sizeLine; decide, fun t nt => ?_⟩
    obtain ⟨H5, hput, la, hxl, hx5, ⟨ov, hla⟩, hfin⟩ := step ((wayR N x).take i) [] (some lap) (.int lap) (b + sumB N (wayA N x)) y H3 r (lts N none b (wayA N x)) (fun n H' => ∃ (r : List (Key × V)), n = b + sumB N (wayA N x) + sumB N ((wayR N x).take (i + 1)) ∧ H' d = some (.dK r) ∧ LtA H' r (lts N none b (wayA N x) ++ lts N (some lap) (b + sumB N (wayA N x)) ((wayR N x).take (i + 1))) ∧ Kp [] H2 H') hd3 hl3 (by
      rw [List.map_append, lts_fst, lts_fst]
      intro hm
      obtain ⟨_, n2, n3⟩ := List.nodup_append.mp hnd
      rcases List.mem_append.mp hm with hm | hm
      · exact n3 y hm y (List.mem_of_getElem? hy) rfl
      · exact nd_take n2 hy hm) (by rw [lts_len, List.length_take]; omega) k23 (.int _) (hltA y (List.mem_append_right _ (List.mem_of_getElem? hy))) (fun r' H4 a1 a2 a3 => ⟨r', by rw [etk], a1, by rw [etk]; exact a2, a3⟩) t nt
    refine ⟨.ref d, rfl, .int y, rfl, d, H5, rfl, hput, ?_⟩
    refine ⟨_, rfl, .ref ad, rfl, .int y, rfl, ad, xs, y, .ref la, rfl, rfl, SqT.of hx5, atI_nat hxl, la, _, 0, .int (burnOf N y), rfl, rfl, SqT.of hla, atI_nat (j := 0) rfl, _, _, rfl, rfl, ?_⟩
    obtain ⟨r', en, a1, a2, a3⟩ := hfin
    refine ⟨some (.int y), r', ?_, a1, a2, a3⟩
    rw [← en]
    rfl
  · obtain ⟨o8, r, rfl, hd3, hl3, k23⟩ := hP
    rw [natV_len, List.take_length, elap] at hl3
    have k02 : Kp [] H H3 := k1.tr (k2.tr k23)
    refine ⟨.ref d, rfl, q d r H3 ?_ hd3 hl3 k02⟩
    cases z : H d with
    | none => rfl
    | some o => exact absurd nd ((k1.tr k2).tr_ d (by rw [z]; exact fun y => by cases y))
end
section
theorem lights_ok {N : Net} (o : NetOk N) {x : Nat} (hx : x < N.length) (b : Int) : ∀ z ∈ lightsL N b x, z.1 < N.length ∧ ∀ l, z.2.2 = some l → 0 < l := by
  intro z hz
  obtain ⟨j, hj, e⟩ := List.getElem_of_mem hz
  have hl : (lightsL N b x).length = (path N x).length := by rw [← lights_fst N b x, List.length_map]
  have hyj : (path N x)[j]? = some ((path N x)[j]'(by omega)) := List.getElem?_eq_getElem _
  have hz2 := lights_get o hx b hyj
  rw [List.getElem?_eq_getElem hj, e] at hz2
  have hz3 := Option.some.inj hz2
  rw [hz3]
  refine ⟨(path_been o hx).lt _ (List.getElem_mem _), fun l el => ?_⟩
  have el2 : (if j < cutN N x then none else some (lapOf N x)) = some l := el
  by_cases hjc : j < cutN N x
  · rw [if_pos hjc] at el2; cases el2
  · rw [if_neg hjc] at el2
    obtain rfl := Option.some.inj el2
    have lp := lap_frst o hx b
    have g := frst_gap o hx b hyj (show j < (path N x).length by omega)
    have hm := sum_mono o (path_been o hx).lt (show cutN N x ≤ j by omega)
    have bp := burn_pos o ((path_been o hx).lt _ (List.getElem_mem (l := path N x) (n := j) (by omega)))
    unfold frst at lp g
    omega
end

section
variable {P : Program} {w : World} {K : PySem.W.Frag} {mg : Str → Option Value} {base : Heap} {a : Ad}
def spAreK (TB TB2 : Addr) : Sp := fun vs H Q _ => ∃ (S : List Addr) (v u : V) (N : Net) (d : PyData), vs = [v, u] ∧ Dx S H v (netD N) ∧ NetOk N ∧ Dx S H u d ∧ GxR.TabG H TB ∧ GxR.TabG H TB2 ∧ ∀ H', Kp [] H H' → Q (.bl (sparksB N.length d)) H'
theorem ok_are_kindlings (T : Tx K mg a) (TB : GxR.TabB base mg a.cd_is_net a.tb_is_net) (TB2 : GxR.TabB base mg a.cd_are_kindlings a.tb_are_kindlings) : FnOk P w K mg base CX0 10 a.a_are_kindlings a.f_are_kindlings ["net", "thing"] (spAreK a.tb_is_net a.tb_are_kindlings) := by
  have G_need_net := ok_need_net (P := P) (w := w) (base := base) T TB
  refine okC T.are_kindlings.F T.code_are_kindlings sc_are_kindlings (fun vs H Q E h => ?_) (fun A outer s H vs Q E hr h => ?_)
  · obtain ⟨S, v, u, N, d, rfl, _⟩ := h
    rfl
  obtain ⟨S, v, u, N, d, rfl, hn, ok, hd, ht, ht2, q⟩ := h
  refine ⟨_, (pss_cons (ps_expr (pe_call G_need_net (hr.mono (by decide)) (by rfl) T.need_net.g T.need_net.F.kp T.need_net.b .nil pass0 (pa_cons (pv 0) pa_nil)))
      (pss_cons (ps_if (PW.pt (pw_or (pt_not (pt_val (pe_callB call_isi (by rfl) T.n_isinstance (by decide +kernel) (pa_cons (pv 1) (pa_cons (pe_bltn (v := .ty "list") (by rfl) T.n_list (by decide +kernel) rfl) pa_nil))))) (pw_or1 (pt_cmpR op_gt (pe_callB call_len_seq (by rfl) T.n_len (by decide +kernel) (pa_cons (pv 1) pa_nil)) (pe_glob (v := .int 40) rfl T.c_MOST_KINDLINGS.choose_spec ⟨_, rfl⟩) (nomark _))))) (pss_one (ps_ret pe_bl)) pss_nil)
      (pss_cons (ps_set (i := 2) sc_are_kindlings.nd rfl (by first | exact .inl rfl | exact .inr rfl) (pe_callB call_len_seq (by rfl) T.n_len (by decide +kernel) (pa_cons (pv 0) pa_nil)))
      (pss_one (ps_ret (pe_allQ (k := 1) (hr.mono (by decide)) (by rfl) T.n_all TB2 rfl ⟨rfl, rfl, by decide +kernel, by decide +kernel, by decide +kernel, free_by (by decide +kernel)⟩ (pv 1) (fun _ => rfl))))))), ?_⟩
  refine ⟨v, rfl, S, v, N, rfl, hn, ok, ht, fun Ha ka => ?_⟩
  have noS : ∀ {x : Addr}, x ∈ ([] : List Addr) → x ∈ S := fun z => by cases z
  have hna := hn.kp ka fun _ => noS
  have hda := hd.kp ka fun _ => noS
  have ht2a := ka.tab _ ht2
  obtain ⟨ad, xs0, rfl, _, hx0, hl0, _⟩ := net_at hna
  have hk : PySem.W.kitOne K (.type (kname d)) (.type "list") = some (kindB d "list") := kit_data (by decide)
  refine ⟨u, rfl, u, .ty "list", _, _, _, rfl, .ty _, tyx_of hda, hk, _, rfl, ?_⟩
  cases z : kindB d "list" with
  | false =>
    have e : sparksB N.length d = false := by cases d <;> first | rfl | cases z
    have := q Ha ka
    rw [e] at this
    exact iteT (iteT this)
  | true =>
    refine iteF ?_
    cases hda with
    | @lst la xs ds n h r =>
      have hl : (xs.length : Int) = (ds.length : Int) := by rw [r.len]
      have e0 : sparksB N.length (.list ds) = (!decide ((40 : Int) < (ds.length : Int)) && (ds.map (sparkB N.length)).all id) := rfl
      refine ⟨.ref la, rfl, la, xs, rfl, .inl (SqL.of h), ?_⟩
      rw [hl]
      refine ⟨_, _, rfl, rfl, _, rfl, ?_⟩
      cases z2 : decide ((40 : Int) < (ds.length : Int)) with
      | true =>
        have := q Ha ka
        rw [e0, z2] at this
        exact iteT this
      | false =>
        refine iteF ⟨.ref ad, rfl, ad, xs0, rfl, .inr (SqT.of hx0), ?_⟩
        rw [show (xs0.length : Int) = (N.length : Int) by rw [hl0]]
        refine ⟨.ref la, rfl, la, xs, ds.map (sparkB N.length), [("many", .int N.length)], rfl, .inr (SqL.of h), ht2a, fun y vy hy => ?_, ⟨by rw [List.length_map, r.len], fun hd env OK hsc j xv b hx hb => ?_⟩, fun H2 hT => ?_⟩
        · by_cases ey : y = "many"
          · subst ey
            have e2 : V.int N.length = vy := by simpa [List.lookup] using hy
            subst e2
            exact ⟨by decide, by decide +kernel, by decide +kernel, 2, rfl, rfl, (by decide +kernel : (defScope s_are_kindlings).names.lookup _ = some .cell)⟩
          · have ey' : (y == ("many" : Str)) = false := by simpa using ey
            simp [List.lookup, ey'] at hy
        · obtain ⟨dj, hdj, hxv⟩ := r.get hx
          rw [List.getElem?_map, hdj] at hb
          cases hb
          have OT : Tx (Qc.mk P w K mg (wipe Ha a.tb_are_kindlings) hd).K (Qc.mk P w K mg (wipe Ha a.tb_are_kindlings) hd).mg a := T
          have hw : Dx S (wipe Ha a.tb_are_kindlings) xv dj := hxv.wiped ht2a
          refine q_call OK (qf_is_kindling_of_many OK OT hw) T.is_kindling_of_many.b rfl ?_ T.is_kindling_of_many.g T.is_kindling_of_many.F.kp (qa_cons (q_name rfl) (qa_cons (q_name rfl) qa_nil))
          show env.scope.names.lookup _ = _
          rw [hsc]
          decide +kernel
        · have := q H2 (ka.tr (Kp.tabbed ht2a hT))
          rw [e0, z2] at this
          exact this
    | non => cases z
    | bl b => cases z
    | int i => cases z
    | str y => cases z
    | tup n h r => cases z
    | dic n h => cases z
end

section
variable {P : Program} {w : World} {K : PySem.W.Frag} {mg : Str → Option Value} {base : Heap} {a : Ad}
theorem kds_right {N : Net} {ks : Kds} (hk : KdsOk N ks) (h40 : ks.length ≤ 40) : sparksB N.length (.list (ks.map kdD)) = true := by
  show (!decide ((40 : Int) < ((ks.map kdD).length : Int)) && ((ks.map kdD).map (sparkB N.length)).all id) = true
  rw [List.length_map, decide_eq_false (by omega), List.map_map]
  simp only [Bool.not_false, Bool.true_and, List.all_eq_true]
  intro b hb
  obtain ⟨p, hp, rfl⟩ := List.mem_map.mp hb
  exact spark_ok (b := (p.1 : Int)) (by omega) (hk p hp)
/-- kindlings in a list -/
def spNeedKs (TB TB3 : Addr) : Sp := fun vs H Q _ => ∃ (v : V) (N : Net) (kl : Addr) (us : List V) (ks : Kds), vs = [v, .ref kl] ∧ Tu H v (netD N) ∧ NetOk N ∧ H kl = some (.lst us) ∧ TuA H us (ks.map kdD) ∧ KdsOk N ks ∧ ks.length ≤ 40 ∧ GxR.TabG H TB ∧ GxR.TabG H TB3 ∧ ∀ H', Kp [] H H' → Q .non H'
theorem ok_need_kindlings (T : Tx K mg a) (TB : GxR.TabB base mg a.cd_is_net a.tb_is_net) (TB3 : GxR.TabB base mg a.cd_are_kindlings a.tb_are_kindlings) : FnOk P w K mg base CX0 11 a.a_need_kindlings a.f_need_kindlings ["net", "kindlings"] (spNeedKs a.tb_is_net a.tb_are_kindlings) := by
  have G_are_kindlings := ok_are_kindlings (P := P) (w := w) (base := base) T TB TB3
  refine T.need_kindlings.F.ok sc_need_kindlings (fun vs H Q E h => ?_) (fun cdv A outer s H vs Q E hr h => ?_)
  · obtain ⟨v, N, kl, us, ks, rfl, _⟩ := h
    rfl
  obtain ⟨v, N, kl, us, ks, rfl, hn, ok, hkl, hus, hk, h40, ht, ht3, q⟩ := h
  refine ⟨_, (pss_one (ps_if (pt_not (pt_val (pe_call G_are_kindlings (hr.mono (by decide)) (by rfl) T.are_kindlings.g T.are_kindlings.F.kp T.are_kindlings.b .nil pass0 (pa_cons (pv 0) (pa_cons (pv 1) pa_nil))))) (pss_one ps_never) pss_nil)), ?_⟩
  refine ⟨v, rfl, .ref kl, rfl, [], v, .ref kl, N, _, rfl, hn.dx0, ok, .lst (by simp) hkl hus.dx0, ht, ht3, fun H' k => ⟨true, by rw [kds_right hk h40], ?_⟩⟩
  exact iteF (q H' k)
def spLightsAll (TB TB2 : Addr) : Sp := fun vs H Q _ => ∃ (v : V) (N : Net) (kl : Addr) (us : List V) (ks : Kds), vs = [v, .ref kl] ∧ Tu H v (netD N) ∧ NetOk N ∧ H kl = some (.lst us) ∧ TuA H us (ks.map kdD) ∧ KdsOk N ks ∧ ks.length ≤ 40 ∧ GxR.TabG H TB ∧ GxR.TabG H TB2 ∧
  ∀ c ds H', LtsNew H c ds (lightsK N ks) H' → Q (.ref c) H'
theorem ok_lights_of_all (T : Tx K mg a) (TB : GxR.TabB base mg a.cd_is_net a.tb_is_net) (TB2 : GxR.TabB base mg a.cd_lights_of a.tb_lights_of) : FnOk P w K mg base CX0 12 a.a_lights_of_all a.f_lights_of_all ["net", "kindlings"] (spLightsAll a.tb_is_net a.tb_lights_of) := by
  have G_lights_of := ok_lights_of (P := P) (w := w) (base := base) T TB TB2
  refine T.lights_of_all.F.ok sc_lights_of_all (fun vs H Q E h => ?_) (fun cdv A outer s H vs Q E hr h => ?_)
  · obtain ⟨v, N, kl, us, ks, rfl, _⟩ := h
    rfl
  obtain ⟨v, N, kl, us, ks, rfl, hn, ok, hkl, hus, hk, h40, ht, ht2, q⟩ := h
  refine ⟨_, (pss_one (ps_ret (pe_lc (own := [("kindling", 2)]) (g := gName 2) (by rfl) sc_lights_of_all.nd (pi_list (pv 1)) (blkOk_by (own := [("kindling", 2)]) (N := s_lights_of_all_N) (sc := defScope s_lights_of_all) (by decide +kernel)) (fun _ _ _ _ _ => (pg_name (i := 2) sc_lights_of_all.nd rfl (by first | exact .inl rfl | exact .inr rfl))) (fun _ _ _ _ _ => pts_nil) (fun _ _ _ _ _ => (pe_call G_lights_of (hr.mono (by decide)) (by rfl) T.lights_of.g T.lights_of.F.kp T.lights_of.b .nil pass0 (pa_cons (pv 0) (pa_cons (pv 2) pa_nil))))))), ?_⟩
  have hul : us.length = ks.length := by rw [hus.len, List.length_map]
  refine ⟨.ref kl, rfl, kl, rfl, ⟨_, SqL.of hkl⟩, fun D nD => lc_list (xs := us) (fun i H' => ∃ ds, LtsNew H D ds (lightsK N (ks.take i)) H') ⟨[], by rw [List.take_zero]; exact LtsNew.start nD⟩ (fun i H' _ hP => ?_) (fun i x H' hx hP => ?_) (fun H' hP => ?_)⟩
  · obtain ⟨ds, h⟩ := hP
    exact SqL.of (h.kp.lst (by simp) hkl)
  · obtain ⟨ds, h⟩ := hP
    obtain ⟨d, hd1, hd2⟩ := hus.get hx
    obtain ⟨p, hp, rfl⟩ : ∃ p, ks[i]? = some p ∧ d = kdD p := by
      rw [List.getElem?_map] at hd1
      cases q1 : ks[i]? with
      | none => rw [q1] at hd1; cases hd1
      | some u => rw [q1] at hd1; exact ⟨u, rfl, (Option.some.inj hd1).symm⟩
    refine ⟨rfl, v, rfl, x, rfl, v, x, N, p.1, p.2, rfl, hn.kt h.kp.kt0, ok, hd2.kt h.kp.kt0, hk p (List.mem_of_getElem? hp), h.kp.tab _ ht, h.kp.tab _ ht2, fun d r H4 nd hd hl k4 => ?_⟩
    obtain ⟨s1, s2⟩ := h.step nd k4 hd hl
    refine ⟨_, s1, ?_, ds ++ [d], ?_⟩
    · rw [List.length_map, h.lts.len]
      unfold lightsK
      rw [List.length_map, List.length_take]
      exact Nat.lt_of_le_of_lt (show _ ≤ 40 by omega) (by decide)
    · have e : lightsK N (ks.take (i + 1)) = lightsK N (ks.take i) ++ [lightsL N p.1 p.2] := by
        unfold lightsK
        rw [List.take_add_one, hp, List.map_append]
        rfl
      rw [e]
      exact s2
  · obtain ⟨ds, h⟩ := hP
    rw [hul, List.take_length] at h
    exact q D ds H' h
def lapV : Option Int → V
  | none => .non
  | some l => .int l
def clD : Option (Int × Nat × Nat) → PyData
  | none => .none
  | some c => tupI [c.1, c.2.1, c.2.2]
def spClash : Sp := fun vs H Q _ => ∃ (len : Int) (lap : Option Int) (ve vl : V) (e l : Int × Nat), vs = [.int len, lapV lap, ve, vl] ∧ Tu H ve (tupI [e.1, e.2]) ∧ Tu H vl (tupI [l.1, l.2]) ∧ (∀ L, lap = some L → 0 < L) ∧
  ∀ v' H', Tu H' v' (clD (clashL len lap e l)) → Kp [] H H' → Q v' H'
theorem ok_clash_on_lamp (T : Tx K mg a) : FnOk P w K mg base CX0 1 a.a_clash_on_lamp a.f_clash_on_lamp ["length", "lap", "early", "late"] spClash := by
  refine T.clash_on_lamp.F.ok sc_clash_on_lamp (fun vs H Q E h => ?_) (fun cdv A outer s H vs Q E hr h => ?_)
  · obtain ⟨len, lap, ve, vl, e, l, rfl, _⟩ := h
    rfl
  obtain ⟨len, lap, ve, vl, ⟨fe, ue⟩, ⟨fl, ul⟩, rfl, he, hl, hpos, q⟩ := h
  obtain ⟨te, rfl, hte⟩ := tupI_at he
  obtain ⟨tl, rfl, htl⟩ := tupI_at hl
  refine ⟨_, (pss_cons (ps_asg (pv 2) (pg_tup (by rfl) (pgs_cons (pg_name (i := 4) sc_clash_on_lamp.nd rfl (by first | exact .inl rfl | exact .inr rfl)) (pgs_cons (pg_name (i := 5) sc_clash_on_lamp.nd rfl (by first | exact .inl rfl | exact .inr rfl)) pgs_nil))))
      (pss_cons (ps_asg (pv 3) (pg_tup (by rfl) (pgs_cons (pg_name (i := 6) sc_clash_on_lamp.nd rfl (by first | exact .inl rfl | exact .inr rfl)) (pgs_cons (pg_name (i := 7) sc_clash_on_lamp.nd rfl (by first | exact .inl rfl | exact .inr rfl)) pgs_nil))))
      (pss_cons (ps_set (i := 8) sc_clash_on_lamp.nd rfl (by first | exact .inl rfl | exact .inr rfl) (pe_op op_sub (pv 6) (pv 4)))
      (pss_cons (ps_if (pt_cmpR op_notN (pv 1) pe_non (nomark _)) (pss_one (ps_set (i := 8) sc_clash_on_lamp.nd rfl (by first | exact .inl rfl | exact .inr rfl) (pe_op op_mod (pv 8) (pv 1)))) pss_nil)
      (pss_cons (ps_if (pt_cmpR op_eq (pv 8) pe_int (nomark _)) (pss_one (ps_ret (pe_tup (pa_cons (pv 6) (pa_cons (pe_callB (call_max2 rfl) (by rfl) T.n_max (by decide +kernel) (pa_cons (pv 5) (pa_cons (pv 7) pa_nil))) (pa_cons (pe_callB (call_min2 rfl) (by rfl) T.n_min (by decide +kernel) (pa_cons (pv 5) (pa_cons (pv 7) pa_nil))) pa_nil)))))) pss_nil)
      (pss_cons (ps_if (pt_cmpR op_lt (pv 8) (pv 0) (nomark _)) (pss_one (ps_ret (pe_tup (pa_cons (pv 6) (pa_cons (pv 7) (pa_cons (pv 5) pa_nil)))))) pss_nil)
      (pss_cons (ps_if (PW.pt (pw_and (pt_cmpR op_notN (pv 1) pe_non (nomark _)) (pw_and1 (pt_cmpR op_lt (pe_op op_sub (pv 1) (pv 8)) (pv 0) (nomark _))))) (pss_one (ps_ret (pe_tup (pa_cons (pe_op op_sub (pe_op op_add (pv 6) (pv 1)) (pv 8)) (pa_cons (pv 5) (pa_cons (pv 7) pa_nil)))))) pss_nil)
      (pss_one (ps_ret pe_non))))))))), ?_⟩
  refine ⟨.ref te, rfl, te, _, rfl, SqT.of hte, rfl, _, _, rfl, _, _, rfl, rfl, ?_⟩
  refine ⟨.ref tl, rfl, tl, _, rfl, SqT.of htl, rfl, _, _, rfl, _, _, rfl, rfl, ?_⟩
  refine ⟨.int fl, rfl, .int fe, rfl, _, _, rfl, rfl, ?_⟩
  -- a told clash
  have tell : ∀ (b : Int) (u v : Nat) (t : Addr), H t = none → clashL len lap (fe, ue) (fl, ul) = some (b, u, v) → Q (.ref t) (upd H t (.tup [.int b, .int u, .int v])) := fun b u v t nt ec =>
    q _ _ (by rw [ec]; exact tupI_of (ns := [b, u, v]) upd_same) (Kp.new nt)
  have tell2 : ∀ t : Addr, H t = none → clashL len lap (fe, ue) (fl, ul) = some (fl, max ue ul, min ue ul) → Q (.ref t) (upd H t (.tup [.int fl, .int (if (ul : Int) > (ue : Int) then (ul : Int) else (ue : Int)), .int (if (ul : Int) < (ue : Int) then (ul : Int) else (ue : Int))])) := fun t nt ec => by
    have e1 : (if (ul : Int) > (ue : Int) then (ul : Int) else (ue : Int)) = ((max ue ul : Nat) : Int) := by split <;> omega
    have e2 : (if (ul : Int) < (ue : Int) then (ul : Int) else (ue : Int)) = ((min ue ul : Nat) : Int) := by split <;> omega
    rw [e1, e2]
    exact tell _ _ _ t nt ec
  cases lap with
  | none =>
    have e0 : clashL len none (fe, ue) (fl, ul) = if fl - fe = 0 then some (fl, max ue ul, min ue ul) else if fl - fe < len then some (fl, ul, ue) else none := rfl
    refine ⟨.non, rfl, rfl, _, rfl, iteF ?_⟩
    refine ⟨.int (fl - fe), rfl, rfl, _, rfl, ?_⟩
    by_cases g0 : fl - fe = 0
    · rw [decide_eq_true (by rw [g0])]
      rw [if_pos g0] at e0
      refine iteT ⟨.int fl, rfl, .int ue, rfl, .int ul, rfl, _, _, rfl, .int ue, rfl, .int ul, rfl, _, _, rfl, by show 3 ≤ sizeLine; decide, fun t nt => ?_⟩
      exact tell2 t nt e0
    · rw [decide_eq_false (fun z => g0 (V.int.inj z))]
      rw [if_neg g0] at e0
      refine iteF ⟨.int (fl - fe), rfl, .int len, rfl, _, _, rfl, rfl, _, rfl, ?_⟩
      by_cases g1 : fl - fe < len
      · rw [decide_eq_true g1]
        rw [if_pos g1] at e0
        exact iteT ⟨.int fl, rfl, .int ul, rfl, .int ue, rfl, by show 3 ≤ sizeLine; decide, fun t nt => tell _ _ _ t nt e0⟩
      · rw [decide_eq_false g1]
        rw [if_neg g1] at e0
        refine iteF ⟨.non, rfl, rfl, _, rfl, iteF (iteF ?_)⟩
        exact q _ _ (by rw [e0]; exact .non) .rfl'
  | some L =>
    have hL := hpos L rfl
    have e0 : clashL len (some L) (fe, ue) (fl, ul) = if (fl - fe) % L = 0 then some (fl, max ue ul, min ue ul) else if (fl - fe) % L < len then some (fl, ul, ue) else if L - (fl - fe) % L < len then some (fl + L - (fl - fe) % L, ue, ul) else none := rfl
    refine ⟨.int L, rfl, rfl, _, rfl, iteT ⟨.int (fl - fe), rfl, .int L, rfl, _, _, rfl, rfl, hL, ?_⟩⟩
    refine ⟨.int ((fl - fe) % L), rfl, rfl, _, rfl, ?_⟩
    by_cases g0 : (fl - fe) % L = 0
    · rw [decide_eq_true (by rw [g0])]
      rw [if_pos g0] at e0
      refine iteT ⟨.int fl, rfl, .int ue, rfl, .int ul, rfl, _, _, rfl, .int ue, rfl, .int ul, rfl, _, _, rfl, by show 3 ≤ sizeLine; decide, fun t nt => ?_⟩
      exact tell2 t nt e0
    · rw [decide_eq_false (fun z => g0 (V.int.inj z))]
      rw [if_neg g0] at e0
      refine iteF ⟨.int ((fl - fe) % L), rfl, .int len, rfl, _, _, rfl, rfl, _, rfl, ?_⟩
      by_cases g1 : (fl - fe) % L < len
      · rw [decide_eq_true g1]
        rw [if_pos g1] at e0
        exact iteT ⟨.int fl, rfl, .int ul, rfl, .int ue, rfl, by show 3 ≤ sizeLine; decide, fun t nt => tell _ _ _ t nt e0⟩
      · rw [decide_eq_false g1]
        rw [if_neg g1] at e0
        refine iteF ⟨.int L, rfl, rfl, _, rfl, iteT ⟨.int L, rfl, .int ((fl - fe) % L), rfl, _, _, rfl, rfl, .int len, rfl, _, _, rfl, rfl, _, rfl, ?_⟩⟩
        by_cases g2 : L - (fl - fe) % L < len
        · rw [decide_eq_true g2]
          rw [if_pos g2] at e0
          exact iteT ⟨.int fl, rfl, .int L, rfl, _, _, rfl, rfl, .int ((fl - fe) % L), rfl, _, _, rfl, rfl, .int ue, rfl, .int ul, rfl, by show 3 ≤ sizeLine; decide, fun t nt => tell _ _ _ t nt e0⟩
        · rw [decide_eq_false g2]
          rw [if_neg g2] at e0
          refine iteF ?_
          exact q _ _ (by rw [e0]; exact .non) .rfl'
def spFirst : Sp := fun vs H Q _ => ∃ (v : V) (N : Net) (c : Addr) (ds : List Addr) (ks : Kds) (one other : Nat), vs = [v, .ref c, .int one, .int other] ∧ Tu H v (netD N) ∧ NetOk N ∧ KdsOk N ks ∧ Lts H c ds (lightsK N ks) ∧ one < ks.length ∧ other < ks.length ∧ one ≠ other ∧
  ∀ r v' H', FstC N ks one other r → Tu H' v' (ocD r) → Kp [] H H' → Q v' H'
theorem ok_first_clash (T : Tx K mg a) : FnOk P w K mg base CX0 2 a.a_first_clash a.f_first_clash ["net", "lights", "one", "other"] spFirst := by
  have G_clash_on_lamp := ok_clash_on_lamp (P := P) (w := w) (base := base) T
  refine T.first_clash.F.ok sc_first_clash (fun vs H Q E h => ?_) (fun cdv A outer s H vs Q E hr h => ?_)
  · obtain ⟨v, N, c, ds, ks, one, other, rfl, _⟩ := h
    rfl
  obtain ⟨v, N, c, ds, ks, one, other, rfl, hn, ok, hk, hl, h1, h2, hne, q⟩ := h
  have hu := hu_of hr
  obtain ⟨p, hp⟩ : ∃ p, ks[one]? = some p := ⟨_, List.getElem?_eq_getElem h1⟩
  obtain ⟨p', hp'⟩ : ∃ p, ks[other]? = some p := ⟨_, List.getElem?_eq_getElem h2⟩
  have hx := hk p (List.mem_of_getElem? hp)
  have hx' := hk p' (List.mem_of_getElem? hp')
  refine ⟨_, (pss_cons (ps_set (i := 4) sc_first_clash.nd rfl (by first | exact .inl rfl | exact .inr rfl) (pe_lst pa_nil))
      (pss_cons (ps_lock (ps_for PassesOwn.never rfl (pi_items (pe_ix ix_list (pv 1) (pv 2) (fun _ _ => rfl))) (pg_tup (by rfl) (pgs_cons (pg_name (i := 5) sc_first_clash.nd rfl (by first | exact .inl rfl | exact .inr rfl)) (pgs_cons (pg_tup (by rfl) (pgs_cons (pg_name (i := 6) sc_first_clash.nd rfl (by first | exact .inl rfl | exact .inr rfl)) (pgs_cons (pg_name (i := 7) sc_first_clash.nd rfl (by first | exact .inl rfl | exact .inr rfl)) pgs_nil))) pgs_nil))) (pss_cons (ps_if (pt_cmp (pc_dnotin hu (pv 5) (pe_ix ix_list (pv 1) (pv 3) (fun _ _ => rfl)))) (pss_one ps_continue) pss_nil)
      (pss_cons (ps_asg (pe_callB cr_sortedN (by rfl) T.n_sorted (by decide +kernel) (pa_cons (pe_lst (pa_cons (pe_tup (pa_cons (pv 6) (pa_cons (pv 2) pa_nil))) (pa_cons (pe_tup (pa_cons (pe_ix ix_tup (pe_dget hu (pe_ix ix_list (pv 1) (pv 3) (fun _ _ => rfl)) (pv 5) (fun _ _ => rfl)) pe_int (fun _ _ => rfl)) (pa_cons (pv 3) pa_nil))) pa_nil))) pa_nil)) (pg_lst (by rfl) (pgs_cons (pg_name (i := 8) sc_first_clash.nd rfl (by first | exact .inl rfl | exact .inr rfl)) (pgs_cons (pg_name (i := 9) sc_first_clash.nd rfl (by first | exact .inl rfl | exact .inr rfl)) pgs_nil))))
      (pss_cons (ps_set (i := 10) sc_first_clash.nd rfl (by first | exact .inl rfl | exact .inr rfl) (pe_call G_clash_on_lamp (hr.mono (by decide)) (by rfl) T.clash_on_lamp.g T.clash_on_lamp.F.kp T.clash_on_lamp.b .nil pass0 (pa_cons (pe_ix ix_tup (pe_ix ix_tup (pv 0) (pv 5) (fun _ _ => rfl)) pe_int (fun _ _ => rfl)) (pa_cons (pv 7) (pa_cons (pv 8) (pa_cons (pv 9) pa_nil))))))
      (pss_one (ps_if (pt_cmpR op_notN (pv 10) pe_non (nomark _)) (pss_cons (ps_asg (pv 10) (pg_tup (by rfl) (pgs_cons (pg_name (i := 11) sc_first_clash.nd rfl (by first | exact .inl rfl | exact .inr rfl)) (pgs_cons (pg_name (i := 12) sc_first_clash.nd rfl (by first | exact .inl rfl | exact .inr rfl)) (pgs_cons (pg_name (i := 13) sc_first_clash.nd rfl (by first | exact .inl rfl | exact .inr rfl)) pgs_nil)))))
      (pss_one (ps_expr (pe_bm PySem.F.plainAttrs_list PySem.F.slot_list_append PySem.F.type_list_append mt_append (pv 4) (pa_cons (pe_tup (pa_cons (pv 11) (pa_cons (pv 5) (pa_cons (pv 12) (pa_cons (pv 13) pa_nil))))) pa_nil))))) pss_nil)))))))
      (pss_one (ps_ret (pe_callBK (cr_minD rfl (hu1_of hr)) (by rfl) T.n_min (by decide +kernel) (pa_cons (pv 4) pa_nil) (pk_cons pe_non pk_nil)))))), ?_⟩
  -- clashes = []
  refine ⟨Nat.zero_le _, fun cp nc => ?_⟩
  obtain ⟨H1, e1⟩ : ∃ H1, H1 = upd H cp (.lst []) := ⟨_, rfl⟩
  rw [← e1]
  have k1 : Kp [] H H1 := e1 ▸ Kp.new nc
  have hcp : H1 cp = some (.lst []) := by rw [e1]; exact upd_same
  have hl1 := hl.kp0 k1
  obtain ⟨d1, r1, hd1, hv1, hD1, hL1⟩ := hl1.get hp
  obtain ⟨d2, r2, hd2, hv2, hD2, hL2⟩ := hl1.get hp'
  have ne12 : d2 ≠ d1 := fun e => by
    rw [e] at hd2
    obtain ⟨a1, b1⟩ := List.getElem?_eq_some_iff.mp hd1
    obtain ⟨a2, b2⟩ := List.getElem?_eq_some_iff.mp hd2
    exact hne ((List.getElem_inj (h₀ := a1) (h₁ := a2) hl1.nd).mp (b1.trans b2.symm))
  have ncd : cp ≠ d1 := fun e => by rw [e, hD1] at hcp; cases hcp
  obtain ⟨L1, eL1⟩ : ∃ L, L = lightsL N p.1 p.2 := ⟨_, rfl⟩
  obtain ⟨L2, eL2⟩ : ∃ L, L = lightsL N p'.1 p'.2 := ⟨_, rfl⟩
  have hndL : (L1.map (·.1)).Nodup := by rw [eL1]; exact lights_nd ok hx p.1
  have hok1 := lights_ok ok hx (p.1 : Int)
  rw [← eL1] at hL1 hok1
  rw [← eL2] at hL2
  obtain ⟨pm1, pm2⟩ := pair_mem ok hk hp hp' hne
  have pmn := fun c hc => pair_min ok hk hp hp' hne (c := c) hc
  rw [← eL1, ← eL2] at pm1 pm2 pmn
  obtain ⟨ad, xs, rfl, hx0, hln, hat⟩ := tnet_at (hn.kt k1.kt0)
  have hc1 := hl1.top
  -- for lamp, (first, lap) in lights[one].items()
  refine ⟨d1, .dK r1, hD1, trivial, fun od => ?_⟩
  obtain ⟨Hf, ef⟩ : ∃ Hf, Hf = upd H1 d1 (.frz od (.dK r1)) := ⟨_, rfl⟩
  rw [← ef]
  have kf : Kp [d1] H1 Hf := ef ▸ Kp.put (by simp) hD1 fun ps z => by cases z
  have tf : Kt H1 Hf := kf.kt fun s z ys e => by
    rw [List.mem_singleton.mp z, hD1] at e
    cases e
  have hfd : Hf d1 = some (.frz od (.dK r1)) := by rw [ef]; exact upd_same
  have hfd2 : Hf d2 = some (.dK r2) := by rw [ef, upd_ne ne12]; exact hD2
  have hfc : Hf c = some (.lst (ds.map V.ref)) := kf.lst (by simpa using fun e => by rw [e, hD1] at hc1; cases hc1) hc1
  have hfcp : Hf cp = some (.lst []) := kf.lst (by simpa using ncd) hcp
  have ne2c : d2 ≠ cp := fun e => by rw [e, hcp] at hD2; cases hD2
  have necc : c ≠ cp := fun e => by
    have := hl.top
    rw [e, nc] at this
    cases this
  -- back to the open dict
  have back : ∀ H', Kp [cp] Hf H' → H' d1 = some (.frz od (.dK r1)) ∧ Kp [] H (upd H' d1 (.dK r1)) ∧ Kt H' (upd H' d1 (.dK r1)) := fun H' k => by
    have e : H' d1 = some (.frz od (.dK r1)) := k.at_ d1 _ (by simpa using Ne.symm ncd) hfd fun ps z => by cases z
    refine ⟨e, ?_, Kt.put e fun _ z => by cases z⟩
    have kk : Kp [d1, cp] H1 (upd H' d1 (.dK r1)) := (kf.wk (by simp)).tr ((k.wk (by simp)).tr (Kp.put (by simp) e fun ps z => by cases z))
    have kk2 : Kp [cp] H1 (upd H' d1 (.dK r1)) := Kp.same kk hD1 upd_same
    exact Kp.drop nc (k1.of0.tr kk2)
  refine ⟨.ref c, rfl, .int one, rfl, c, _, one, .ref d1, rfl, rfl, SqL.of hfc, atI_nat hv1, d1, od, r1, rfl, hfd, ?_⟩
  refine for_it walk_items (fun i σ H' => ∃ (o5 o6 o7 o8 o9 o10 o11 o12 o13 : Option V) (ws : List V), σ = [some (.ref ad), some (.ref c), some (.int one), some (.int other), some (.ref cp), o5, o6, o7, o8, o9, o10, o11, o12, o13] ∧ H' cp = some (.lst ws) ∧ TuA H' ws (((L1.take i).filterMap (pairC N L2 one other)).map c4D) ∧ Kp [cp] Hf H') ⟨none, none, none, none, none, none, none, none, none, [], rfl, hfcp, .nil, .rfl'⟩ (fun i σ H' _ hP => ?_) (fun i z σ H6 H7 hi hP hY => ?_) (fun σ H' hP => ?_)
  · obtain ⟨_, _, _, _, _, _, _, _, _, _, _, _, _, k⟩ := hP
    exact (back H' k).1
  · obtain ⟨o5, o6, o7, o8, o9, o10, o11, o12, o13, ws, rfl, hw6, hws, k6⟩ := hP
    obtain ⟨Tq, y1, y2, rfl, nT, rfl, g1, g2⟩ := hY
    have hiL : i < L1.length := by rw [← hL1.len]; exact hi
    obtain ⟨lg, hlg⟩ : ∃ lg, L1[i]? = some lg := ⟨L1[i], List.getElem?_eq_getElem hiL⟩
    obtain ⟨vz, hr1, hvz⟩ := hL1.get hlg
    replace g1 : r1[i]?.map (fun kv => kV kv.1) = some y1 := g1
    replace g2 : r1[i]?.map Prod.snd = some y2 := g2
    rw [hr1] at g1 g2
    obtain rfl : V.int (lg.1 : Int) = y1 := Option.some.inj g1
    obtain rfl : vz = y2 := Option.some.inj g2
    obtain ⟨y, fb, lp⟩ := lg
    have htk : L1.take (i + 1) = L1.take i ++ [(y, fb, lp)] := by rw [List.take_add_one, hlg]; rfl
    obtain ⟨hyl, hpos⟩ := hok1 _ (List.mem_of_getElem? hlg)
    obtain ⟨H7, e7⟩ : ∃ H7, H7 = upd H6 Tq (.tup [.int (y : Int), vz]) := ⟨_, rfl⟩
    rw [← e7]
    have k67 : Kp [] H6 H7 := e7 ▸ Kp.new nT
    have kf7 : Kp [cp] Hf H7 := k6.tr k67.of0
    have t67 := k67.kt0
    have cpn : ∀ s ∈ [cp], ∀ ys, Hf s ≠ some (.tup ys) := fun s z ys e => by
      rw [List.mem_singleton.mp z, hfcp] at e
      cases e
    have tf7 : Kt Hf H7 := kf7.kt cpn
    have hT7 : H7 Tq = some (.tup [.int (y : Int), vz]) := by rw [e7]; exact upd_same
    obtain ⟨ta, rfl, hta⟩ := lgt_at (hvz.kt (tf.tr tf7))
    have hx7 := (tf.tr tf7) _ _ hx0
    obtain ⟨la, hxl, hla⟩ := hat y _ (List.getElem?_eq_getElem hyl)
    have hla7 : H7 la = some (.tup [V.int (burnOf N y), nxV (N[y]'hyl).2]) := by
      rw [burnOf_get (List.getElem?_eq_getElem hyl)]
      exact (tf.tr tf7) _ _ hla
    have hd27 : H7 d2 = some (.dK r2) := kf7.at_ d2 _ (by simpa using ne2c) hfd2 fun _ z => by cases z
    have hc7 : H7 c = some (.lst (ds.map V.ref)) := kf7.lst (by simpa using necc) hfc
    have hw7 := k67.lst (by simp) hw6
    have hws7 := hws.kt t67
    -- lamp, (first, lap)
    refine ⟨Tq, _, rfl, SqT.of hT7, rfl, _, _, rfl, _, _, rfl, ta, _, rfl, SqT.of hta, rfl, _, _, rfl, _, _, rfl, rfl, rfl, ?_⟩
    -- if lamp not in lights[other]: continue
    refine ⟨.int (y : Int), rfl, .ref c, rfl, .int other, rfl, c, _, other, .ref d2, rfl, rfl, SqL.of hc7, atI_nat hv2, d2, _, rfl, DGet.k (k := Sum.inl (y : Int)) hd27, _, rfl, ?_⟩
    have hL27 := hL2.kt (tf.tr tf7)
    rcases hL27.val (y := y) with ⟨e1', e2'⟩ | ⟨w, vw, e1', e2', e3'⟩
    · rw [e2']
      refine iteT ⟨_, _, _, _, _, _, _, _, _, ws, rfl, hw7, ?_, kf7⟩
      rw [htk, List.filterMap_append]
      have : pairC N L2 one other (y, fb, lp) = none := by
        show (lookL y L2).bind _ = none
        rw [e1']
        rfl
      rw [show [(y, fb, lp)].filterMap (pairC N L2 one other) = [] by rw [List.filterMap_cons, this]; rfl, List.append_nil]
      exact hws7
    rw [e2']
    refine iteF ?_
    obtain ⟨w1, w2⟩ := w
    obtain ⟨tb, rfl, htb⟩ := lgt_at e3'
    have dg : DGet H7 d2 (.int (y : Int)) (some (.ref tb)) := by
      have := DGet.k (k := (Sum.inl (y : Int) : Key)) hd27
      rw [e2'] at this
      exact this
    -- early, late = sorted(..)
    refine ⟨.int fb, rfl, .int one, rfl, by show 2 ≤ sizeLine; decide, fun t1 nt1 => ?_⟩
    obtain ⟨Ha, ea⟩ : ∃ Ha, Ha = upd H7 t1 (.tup [.int fb, .int (one : Nat)]) := ⟨_, rfl⟩
    rw [← ea]
    have k7a : Kp [] H7 Ha := ea ▸ Kp.new nt1
    have dga : DGet Ha d2 (.int (y : Int)) (some (.ref tb)) := by
      have := DGet.k (k := (Sum.inl (y : Int) : Key)) (k7a.at_ d2 _ (by simp) hd27 fun _ z => by cases z)
      rw [e2'] at this
      exact this
    refine ⟨.ref c, rfl, .int other, rfl, c, _, other, .ref d2, rfl, rfl, SqL.of (k7a.lst (by simp) hc7), atI_nat hv2, .int (y : Int), rfl, d2, .ref tb, rfl, dga, tb, _, 0, .int w1, rfl, rfl, SqT.of (k7a.kt0 _ _ htb), atI_nat (j := 0) rfl, .int other, rfl, by show 2 ≤ sizeLine; decide, fun t2 nt2 => ?_⟩
    obtain ⟨Hb, eb⟩ : ∃ Hb, Hb = upd Ha t2 (.tup [.int w1, .int (other : Nat)]) := ⟨_, rfl⟩
    rw [← eb]
    have kab : Kp [] Ha Hb := eb ▸ Kp.new nt2
    refine ⟨by show 2 ≤ sizeLine; decide, fun l nl => ?_⟩
    obtain ⟨Hc, ec⟩ : ∃ Hc, Hc = upd Hb l (.lst [.ref t1, .ref t2]) := ⟨_, rfl⟩
    rw [← ec]
    have kbc : Kp [] Hb Hc := ec ▸ Kp.new nl
    have ht1c : Hc t1 = some (.tup [.int fb, .int (one : Nat)]) := (kab.tr kbc).kt0 _ _ (by rw [ea]; exact upd_same)
    have ht2c : Hc t2 = some (.tup [.int w1, .int (other : Nat)]) := kbc.kt0 _ _ (by rw [eb]; exact upd_same)
    have key1 : keyH Hc (.ref t1) = [fb, (one : Int)] := keyH_at (ns := [fb, (one : Int)]) ht1c
    have key2 : keyH Hc (.ref t2) = [w1, (other : Int)] := keyH_at (ns := [w1, (other : Int)]) ht2c
    refine ⟨l, [.ref t1, .ref t2], keyH Hc, rfl, SqL.of (by rw [ec]; exact upd_same), fun x hx => ?_, fun ys sp hs hb nsp => ?_⟩
    · rcases List.mem_cons.mp hx with rfl | hx
      · exact ⟨by rw [key1]; simp, t1, rfl, by rw [key1]; exact ht1c⟩
      · rw [List.mem_singleton.mp hx]
        exact ⟨by rw [key2]; simp, t2, rfl, by rw [key2]; exact ht2c⟩
    obtain ⟨te, tl, rfl, hte, htl⟩ := srt2_ys (a := (fb, one)) (b := (w1, other)) hne ht1c ht2c hs hb.perm
    obtain ⟨Hd, ed⟩ : ∃ Hd, Hd = upd Hc sp (.lst [.ref te, .ref tl]) := ⟨_, rfl⟩
    rw [← ed]
    have kcd : Kp [] Hc Hd := ed ▸ Kp.new nsp
    have k7d : Kp [] H7 Hd := k7a.tr (kab.tr (kbc.tr kcd))
    refine ⟨sp, _, rfl, SqL.of (by rw [ed]; exact upd_same), rfl, _, _, rfl, _, _, rfl, rfl, ?_⟩
    -- clash = clash_on_lamp(..)
    refine ⟨.ref ad, rfl, .int y, rfl, ad, xs, y, .ref la, rfl, rfl, SqT.of (k7d.kt0 _ _ hx7), atI_nat hxl, la, _, 0, .int (burnOf N y), rfl, rfl, SqT.of (k7d.kt0 _ _ hla7), atI_nat (j := 0) rfl, lapV lp, ?_, .ref te, rfl, .ref tl, rfl, burnOf N y, lp, .ref te, .ref tl, _, _, rfl, hte.kt kcd.kt0, htl.kt kcd.kt0, hpos, fun v' He hv' kde => ?_⟩
    · cases lp <;> rfl
    have k7e := k7d.tr kde
    have kfe : Kp [cp] Hf He := kf7.tr k7e.of0
    have hwe := k7e.lst (by simp) hw7
    have hwse := hws7.kt k7e.kt0
    have epc : pairC N L2 one other (y, fb, lp) = (clashL (burnOf N y) lp (srt2 (fb, one) (w1, other)).1 (srt2 (fb, one) (w1, other)).2).map fun d => (d.1, y, d.2.1, d.2.2) := by
      show (lookL y L2).bind _ = _
      rw [e1']
      rfl
    have hil : ((L1.take i).filterMap (pairC N L2 one other)).length ≤ 12 := by
      refine Nat.le_trans (List.length_filterMap_le _ _) ?_
      rw [List.length_take]
      have e1 : L1.length = (path N p.2).length := by rw [eL1, ← lights_fst N (p.1 : Int) p.2, List.length_map]
      have e2 := (path_been ok hx).le
      have e3 := ok.hi
      omega
    cases ecl : clashL (burnOf N y) lp (srt2 (fb, one) (w1, other)).1 (srt2 (fb, one) (w1, other)).2 with
    | none =>
      rw [ecl] at hv' epc
      have : v' = .non := by
        cases hv'
        rfl
      subst this
      refine ⟨.non, rfl, rfl, _, rfl, iteF ⟨_, _, _, _, _, _, _, _, _, ws, rfl, hwe, ?_, kfe⟩⟩
      rw [htk, List.filterMap_append, show [(y, fb, lp)].filterMap (pairC N L2 one other) = [] by rw [List.filterMap_cons, epc]; rfl, List.append_nil]
      exact hwse
    | some d =>
      obtain ⟨b, lo, ro⟩ := d
      rw [ecl] at hv' epc
      obtain ⟨tv, rfl, htv⟩ := tupI_at hv'
      refine ⟨.ref tv, rfl, rfl, _, rfl, iteT ?_⟩
      refine ⟨.ref tv, rfl, tv, _, rfl, SqT.of htv, rfl, _, _, rfl, _, _, rfl, _, _, rfl, rfl, ?_⟩
      refine ⟨.ref cp, rfl, .inl ⟨rfl, _, SqL.of hwe⟩, .int b, rfl, .int y, rfl, .int lo, rfl, .int ro, rfl, by show 4 ≤ sizeLine; decide, fun tn ntn => ?_⟩
      obtain ⟨Hg, eg⟩ : ∃ Hg, Hg = upd He tn (.tup [.int b, .int (y : Nat), .int (lo : Nat), .int (ro : Nat)]) := ⟨_, rfl⟩
      have keg : Kp [] He Hg := eg ▸ Kp.new ntn
      have hwg := keg.lst (by simp) hwe
      have hwsl : ws.length ≤ 12 := by
        have := hwse.len
        rw [List.length_map] at this
        omega
      refine ⟨cp, ws, .ref tn, rfl, rfl, by rw [← eg]; exact hwg, Nat.lt_of_le_of_lt hwsl (by decide), ?_⟩
      rw [← eg]
      have tput : Kt Hg (upd Hg cp (.lst (ws ++ [.ref tn]))) := Kt.put hwg fun _ z => by cases z
      refine ⟨_, _, _, _, _, _, _, _, _, ws ++ [.ref tn], rfl, upd_same, ?_, kfe.tr (keg.of0.tr (Kp.put (by simp) hwg fun _ z => by cases z))⟩
      rw [htk, List.filterMap_append, show [(y, fb, lp)].filterMap (pairC N L2 one other) = [(b, y, lo, ro)] by rw [List.filterMap_cons, epc]; rfl, List.map_append]
      refine ((hwse.kt keg.kt0).kt tput).app (.cons ?_ .nil)
      exact tupI_of (ns := [b, (y : Int), (lo : Int), (ro : Int)]) (tput _ _ (by rw [eg]; exact upd_same))
  · obtain ⟨o5, o6, o7, o8, o9, o10, o11, o12, o13, ws, rfl, hw6, hws, k6⟩ := hP
    obtain ⟨b1, b2, b3⟩ := back H' k6
    refine ⟨b1, ?_⟩
    rw [hL1.len, List.take_length] at hws
    obtain ⟨H8, e8⟩ : ∃ H8, H8 = upd H' d1 (.dK r1) := ⟨_, rfl⟩
    rw [← e8] at b2 b3 ⊢
    have hw8 : H8 cp = some (.lst ws) := by rw [e8, upd_ne ncd]; exact hw6
    have hws8 := hws.kt b3
    have hws9 : TuA H8 ws (((pairL N L1 L2 one other).map c4L).map tupI) := by rw [List.map_map]; exact hws8
    obtain ⟨kk1, kk2⟩ := tups_keys hws9
    -- min(clashes, default=None)
    refine ⟨.ref cp, rfl, cp, ws, keyH H8, .non, rfl, rfl, SqL.of hw8, kk2, fun e => ?_, fun x hx hmin => ?_⟩
    · have e0 : pairL N L1 L2 one other = [] := by
        have := hws9.len
        rw [e] at this
        simpa using this.symm
      refine q none _ _ ?_ .non b2
      intro b x
      refine ⟨fun z => ?_, fun z => ?_⟩
      · obtain ⟨d, hd, _⟩ := pm2 b x (.inl z)
        rw [e0] at hd
        cases hd
      · obtain ⟨d, hd, _⟩ := pm2 b x (.inr z)
        rw [e0] at hd
        cases hd
    · have hm : keyH H8 x ∈ (pairL N L1 L2 one other).map c4L := by rw [← kk1]; exact List.mem_map.mpr ⟨x, hx, rfl⟩
      obtain ⟨cc, hcc, ecc⟩ := List.mem_map.mp hm
      obtain ⟨t, rfl, ht⟩ := kk2 x hx
      refine q (some cc) _ _ ⟨pmn cc hcc fun d hd => ?_, (pm1 cc hcc).2⟩ ?_ b2
      · have hmd : c4L d ∈ ws.map (keyH H8) := by rw [kk1]; exact List.mem_map.mpr ⟨d, hd, rfl⟩
        obtain ⟨y, hy, ey⟩ := List.mem_map.mp hmd
        have := hmin y hy
        rw [← ecc, ey] at this
        exact this
      · show Tu H8 (.ref t) (tupI (c4L cc))
        rw [ecc]
        exact tupI_of ht
def spFirsts : Sp := fun vs H Q _ => ∃ (v : V) (N : Net) (c : Addr) (ds : List Addr) (ks : Kds), vs = [v, .ref c] ∧ Tu H v (netD N) ∧ NetOk N ∧ KdsOk N ks ∧ ks.length ≤ 40 ∧ Lts H c ds (lightsK N ks) ∧
  ∀ C l ws H', AllC N ks C → C.length ≤ 1600 → H l = none → H' l = some (.lst ws) → TuA H' ws (C.map c4D) → Kp [] H H' → Q (.ref l) H'
theorem ok_first_clashes (T : Tx K mg a) : FnOk P w K mg base CX0 3 a.a_first_clashes a.f_first_clashes ["net", "lights"] spFirsts := by
  have G_first_clash := ok_first_clash (P := P) (w := w) (base := base) T
  refine T.first_clashes.F.ok sc_first_clashes (fun vs H Q E h => ?_) (fun cdv A outer s H vs Q E hr h => ?_)
  · obtain ⟨v, N, c, ds, ks, rfl, _⟩ := h
    rfl
  obtain ⟨v, N, c, ds, ks, rfl, hn, ok, hk, h40, hl, q⟩ := h
  have hdl : ds.length = ks.length := by rw [hl.len]; exact List.length_map _
  refine ⟨_, (pss_cons (ps_set (i := 2) sc_first_clashes.nd rfl (by first | exact .inl rfl | exact .inr rfl) (pe_lst pa_nil))
      (pss_cons (ps_for PassesOwn.never rfl (pi_range1 (by rfl) T.n_range (pa_cons (pe_callB call_len_seq (by rfl) T.n_len (by decide +kernel) (pa_cons (pv 1) pa_nil)) pa_nil)) (pg_name (i := 3) sc_first_clashes.nd rfl (by first | exact .inl rfl | exact .inr rfl)) (pss_one (ps_for PassesOwn.never rfl (pi_range1 (by rfl) T.n_range (pa_cons (pv 3) pa_nil)) (pg_name (i := 4) sc_first_clashes.nd rfl (by first | exact .inl rfl | exact .inr rfl)) (pss_cons (ps_set (i := 5) sc_first_clashes.nd rfl (by first | exact .inl rfl | exact .inr rfl) (pe_call G_first_clash (hr.mono (by decide)) (by rfl) T.first_clash.g T.first_clash.F.kp T.first_clash.b .nil pass0 (pa_cons (pv 0) (pa_cons (pv 1) (pa_cons (pv 4) (pa_cons (pv 3) pa_nil))))))
      (pss_one (ps_if (pt_cmpR op_notN (pv 5) pe_non (nomark _)) (pss_one (ps_expr (pe_bm PySem.F.plainAttrs_list PySem.F.slot_list_append PySem.F.type_list_append mt_append (pv 2) (pa_cons (pv 5) pa_nil)))) pss_nil))))))
      (pss_one (ps_ret (pe_callB cr_sortedN (by rfl) T.n_sorted (by decide +kernel) (pa_cons (pv 2) pa_nil)))))), ?_⟩
  -- found = []
  refine ⟨Nat.zero_le _, fun fp nf => ?_⟩
  obtain ⟨H1, e1⟩ : ∃ H1, H1 = upd H fp (.lst []) := ⟨_, rfl⟩
  rw [← e1]
  have k1 : Kp [] H H1 := e1 ▸ Kp.new nf
  have hfp : H1 fp = some (.lst []) := by rw [e1]; exact upd_same
  have hl1 := hl.kp0 k1
  have ncf : c ≠ fp := fun e => by
    have := hl.top
    rw [e, nf] at this
    cases this
  have fpn : ∀ s ∈ [fp], ∀ ys, H1 s ≠ some (.tup ys) := fun s z ys e => by
    rw [List.mem_singleton.mp z, hfp] at e
    cases e
  have hdf : ∀ d ∈ ds, d ∉ [fp] := fun d hd z => by
    rw [List.mem_singleton.mp z] at hd
    obtain ⟨i, hi, e⟩ := List.getElem_of_mem hd
    obtain ⟨r, q, _⟩ := hl1.at_ i fp _ (by rw [List.getElem?_eq_getElem hi, e]) (List.getElem?_eq_getElem (by rw [← hl1.len]; exact hi))
    rw [hfp] at q
    cases q
  have hl2 : ∀ H', Kp [fp] H1 H' → Lts H' c ds (lightsK N ks) := fun H' k => hl1.kp k (k.kt fpn) (by simpa using ncf) hdf
  -- for other in range(len(lights))
  refine ⟨.ref c, rfl, c, _, rfl, .inl (SqL.of hl1.top), ks.length, by rw [List.length_map, hdl], by omega, by omega, for_range (n := ks.length) (fun i σ H' => ∃ (o4 o5 o6 : Option V) (ws : List V) (L : List C4), σ = [some v, some (.ref c), some (.ref fp), o4, o5, o6] ∧ H' fp = some (.lst ws) ∧ TuA H' ws (L.map c4D) ∧ Found N ks (fun u w => w < i) L ∧ L.length ≤ 40 * i ∧ Kp [fp] H1 H') ⟨none, none, none, [], [], rfl, hfp, .nil, Found.start fun u w _ => Nat.not_lt_zero w, Nat.zero_le _, .rfl'⟩ (fun i σ H2 hi hP => ?_) (fun σ H2 hP => ?_)⟩
  · obtain ⟨o4, o5, o6, ws, L, rfl, hw2, hws, hF, hL, k2⟩ := hP
    rw [show (0 + (i : Int)) = (i : Int) by omega]
    -- for one in range(other)
    refine ⟨.int i, rfl, i, rfl, by omega, by omega, for_range (n := i) (fun j σ H' => ∃ (o5 o6 : Option V) (ws : List V) (L : List C4), σ = [some v, some (.ref c), some (.ref fp), some (.int i), o5, o6] ∧ H' fp = some (.lst ws) ∧ TuA H' ws (L.map c4D) ∧ Found N ks (fun u w => w < i ∨ (w = i ∧ u < j)) L ∧ L.length ≤ 40 * i + j ∧ Kp [fp] H1 H') ⟨o5, o6, ws, L, rfl, hw2, hws, ⟨hF.nd, fun c hc => ?_, fun c hc h => ?_⟩, by omega, k2⟩ (fun j σ H3 hj hP => ?_) (fun σ H3 hP => ?_)⟩
    · obtain ⟨a1, u, w, a2, a3⟩ := hF.fc c hc
      exact ⟨a1, u, w, .inl a2, a3⟩
    · obtain ⟨u, w, a2, a3⟩ := h
      refine hF.all c hc ⟨u, w, ?_, a3⟩
      rcases a2 with z | ⟨_, z⟩
      · exact z
      · exact absurd z (Nat.not_lt_zero _)
    · obtain ⟨o5, o6, ws, L, rfl, hw3, hws3, hF3, hL3, k3⟩ := hP
      rw [show (0 + (j : Int)) = (j : Int) by omega]
      have hlt := hl2 H3 k3
      refine ⟨v, rfl, .ref c, rfl, .int j, rfl, .int i, rfl, v, N, c, ds, ks, j, i, rfl, (hn.kt k1.kt0).kt (k3.kt fpn), ok, hk, hlt, by omega, hi, by omega, fun r v' H4 hr4 hv' k4 => ?_⟩
      have hmore := hF3.more ok hk (P' := fun u w => w < i ∨ (w = i ∧ u < j + 1)) hj (by omega) (fun a b => by
        constructor
        · rintro (z | ⟨z1, z2⟩)
          · exact .inl (.inl z)
          · by_cases e : a = j
            · exact .inr ⟨e, z1⟩
            · exact .inl (.inr ⟨z1, by omega⟩)
        · rintro ((z | ⟨z1, z2⟩) | ⟨z1, z2⟩)
          · exact .inl z
          · exact .inr ⟨z1, by omega⟩
          · exact .inr ⟨z2, by omega⟩) hr4
      have hw4 := k4.lst (by simp) hw3
      have hws4 := hws3.kt k4.kt0
      have k34 : Kp [fp] H1 H4 := k3.tr k4.of0
      cases r with
      | none =>
        have : v' = .non := by cases hv'; rfl
        subst this
        rw [Option.toList_none, List.append_nil] at hmore
        exact ⟨.non, rfl, rfl, _, rfl, iteF ⟨_, _, ws, L, rfl, hw4, hws4, hmore, by omega, k34⟩⟩
      | some cc =>
        obtain ⟨tv, rfl, htv⟩ := tupI_at (show Tu H4 v' (tupI (c4L cc)) from hv')
        rw [Option.toList_some] at hmore
        have hwl : ws.length = L.length := by rw [hws4.len, List.length_map]
        refine ⟨.ref tv, rfl, rfl, _, rfl, iteT ⟨.ref fp, rfl, .inl ⟨rfl, _, SqL.of hw4⟩, .ref tv, rfl, fp, ws, .ref tv, rfl, rfl, hw4, Nat.lt_of_le_of_lt (show ws.length ≤ 2000 by omega) (by decide), ?_⟩⟩
        have tput : Kt H4 (upd H4 fp (.lst (ws ++ [.ref tv]))) := Kt.put hw4 fun _ z => by cases z
        refine ⟨_, _, ws ++ [.ref tv], L ++ [cc], rfl, upd_same, ?_, hmore, by rw [List.length_append]; simp; omega, k34.tr (Kp.put (by simp) hw4 fun ps z => by cases z)⟩
        rw [List.map_append]
        exact (hws4.kt tput).app (.cons (hv'.kt tput) .nil)
    · obtain ⟨o5, o6, ws, L, rfl, hw3, hws3, hF3, hL3, k3⟩ := hP
      refine ⟨_, _, _, ws, L, rfl, hw3, hws3, ⟨hF3.nd, fun c hc => ?_, fun c hc h => ?_⟩, by omega, k3⟩
      · obtain ⟨a1, u, w, a2, a3, a4⟩ := hF3.fc c hc
        exact ⟨a1, u, w, by omega, a3, a4⟩
      · obtain ⟨u, w, a2, a3, a4⟩ := h
        exact hF3.all c hc ⟨u, w, by omega, a3, a4⟩
  · obtain ⟨o4, o5, o6, ws, L, rfl, hw2, hws, hF, hL, k2⟩ := hP
    -- return sorted(found)
    have hws9 : TuA H2 ws ((L.map c4L).map tupI) := by rw [List.map_map]; exact hws
    obtain ⟨kk1, kk2⟩ := tups_keys hws9
    refine ⟨.ref fp, rfl, fp, ws, keyH H2, rfl, SqL.of hw2, fun x hx => ⟨?_, kk2 x hx⟩, fun ys p hs hb np => ?_⟩
    · have hm : keyH H2 x ∈ L.map c4L := by rw [← kk1]; exact List.mem_map.mpr ⟨x, hx, rfl⟩
      obtain ⟨cc, _, ecc⟩ := List.mem_map.mp hm
      rw [← ecc]
      exact fun z => by cases z
    · obtain ⟨C, c1, c2, c3⟩ := sorted_tups (f := c4L) (g := c4B) (fun c _ => c4B_L c) hws hs hb.perm
      have kn : Kp [] H2 (upd H2 p (.lst ys)) := Kp.new np
      refine q C p ys _ (hF.all_ ok hk (fun u w h1 h2 => h2) c1 c3) (by rw [c1.length_eq]; omega) ?_ upd_same (c2.kt kn.kt0) ?_
      · cases z : H p with
        | none => rfl
        | some o => exact absurd np (k2.tr_ p (k1.tr_ p (by rw [z]; exact fun y => by cases y)))
      exact Kp.drop nf ((k1.of0.tr k2).tr kn.of0)
def spLosses : Sp := fun vs H Q _ => ∃ (v : V) (N : Net) (c : Addr) (ds : List Addr) (ks : Kds), vs = [v, .ref c] ∧ Tu H v (netD N) ∧ NetOk N ∧ KdsOk N ks ∧ ks.length ≤ 40 ∧ Lts H c ds (lightsK N ks) ∧
  ∀ R l ws H', Losses N ks R → R.length ≤ 1600 → H l = none → H' l = some (.lst ws) → TuA H' ws (R.map c4D) → Kp [] H H' → Q (.ref l) H'
theorem ok_losses_by_lights (T : Tx K mg a) : FnOk P w K mg base CX0 4 a.a_losses_by_lights a.f_losses_by_lights ["net", "lights"] spLosses := by
  have G_first_clashes := ok_first_clashes (P := P) (w := w) (base := base) T
  refine T.losses_by_lights.F.ok sc_losses_by_lights (fun vs H Q E h => ?_) (fun cdv A outer s H vs Q E hr h => ?_)
  · obtain ⟨v, N, c, ds, ks, rfl, _⟩ := h
    rfl
  obtain ⟨v, N, c, ds, ks, rfl, hn, ok, hk, h40, hl, q⟩ := h
  have hu := hu_of hr
  refine ⟨_, (pss_cons (ps_set (i := 2) sc_losses_by_lights.nd rfl (by first | exact .inl rfl | exact .inr rfl) pe_dnewK)
      (pss_cons (ps_set (i := 3) sc_losses_by_lights.nd rfl (by first | exact .inl rfl | exact .inr rfl) (pe_lst pa_nil))
      (pss_cons (ps_for PassesOwn.never rfl (pi_list (pe_call G_first_clashes (hr.mono (by decide)) (by rfl) T.first_clashes.g T.first_clashes.F.kp T.first_clashes.b .nil pass0 (pa_cons (pv 0) (pa_cons (pv 1) pa_nil)))) (pg_tup (by rfl) (pgs_cons (pg_name (i := 4) sc_losses_by_lights.nd rfl (by first | exact .inl rfl | exact .inr rfl)) (pgs_cons (pg_name (i := 5) sc_losses_by_lights.nd rfl (by first | exact .inl rfl | exact .inr rfl)) (pgs_cons (pg_name (i := 6) sc_losses_by_lights.nd rfl (by first | exact .inl rfl | exact .inr rfl)) (pgs_cons (pg_name (i := 7) sc_losses_by_lights.nd rfl (by first | exact .inl rfl | exact .inr rfl)) pgs_nil))))) (pss_one (ps_if (PW.pt (pw_and (pt_cmp (pc_dnotin hu (pv 6) (pv 2))) (pw_and1 (pt_cmp (pc_dnotin hu (pv 7) (pv 2)))))) (pss_cons (ps_dput hu (pv 2) (pv 6) pe_bl rfl)
      (pss_one (ps_expr (pe_bm PySem.F.plainAttrs_list PySem.F.slot_list_append PySem.F.type_list_append mt_append (pv 3) (pa_cons (pe_tup (pa_cons (pv 4) (pa_cons (pv 5) (pa_cons (pv 6) (pa_cons (pv 7) pa_nil))))) pa_nil))))) pss_nil)))
      (pss_one (ps_ret (pv 3)))))), ?_⟩
  -- lost = {}; rows = []
  refine fun dk nd => ⟨Nat.zero_le _, fun rp nr => ?_⟩
  obtain ⟨H1, e1⟩ : ∃ H1, H1 = upd (upd H dk (.dK [])) rp (.lst []) := ⟨_, rfl⟩
  rw [← e1]
  have ndr : dk ≠ rp := fun e => by rw [← e, upd_same] at nr; cases nr
  have nrH : H rp = none := by rw [upd_ne (Ne.symm ndr)] at nr; exact nr
  have k1 : Kp [] H H1 := e1 ▸ (Kp.new nd).tr (Kp.new nr)
  have hrp : H1 rp = some (.lst []) := by rw [e1]; exact upd_same
  have hdk : H1 dk = some (.dK []) := by rw [e1, upd_ne ndr]; exact upd_same
  -- for beat, lamp, flame, other in first_clashes(net, lights)
  refine ⟨v, rfl, .ref c, rfl, v, N, c, ds, ks, rfl, hn.kt k1.kt0, ok, hk, h40, hl.kp0 k1, fun C l ws H2 hC hCl nl hl2 hws2 k2 => ?_⟩
  have hrp2 := k2.lst (by simp) hrp
  have hdk2 := k2.at_ dk _ (by simp) hdk fun _ z => by cases z
  have nlr : l ≠ rp := fun e => by rw [e, hrp] at nl; cases nl
  have k12 := k1.tr k2
  have wsl : ws.length = C.length := by rw [hws2.len, List.length_map]
  have sp2 : ∀ s ∈ [dk, rp], ∀ ys, H2 s ≠ some (.tup ys) := fun s z ys e => by
    rcases List.mem_cons.mp z with z | z
    · rw [z, hdk2] at e; cases e
    · rw [List.mem_singleton.mp z, hrp2] at e; cases e
  refine ⟨l, rfl, ⟨_, SqL.of hl2⟩, for_list (xs := ws) (fun i σ H' => ∃ (o4 o5 o6 o7 : Option V) (rs : List V), σ = [some v, some (.ref c), some (.ref dk), some (.ref rp), o4, o5, o6, o7] ∧ H' dk = some (.dK (lostK ((C.take i).foldl grd []))) ∧ H' rp = some (.lst rs) ∧ TuA H' rs (((C.take i).foldl grd []).map c4D) ∧ Kp [dk, rp] H2 H') ⟨none, none, none, none, [], rfl, hdk2, hrp2, .nil, .rfl'⟩ (fun i σ H' _ hP => ?_) (fun i z σ H3 hz hP => ?_) (fun σ H3 hP => ?_)⟩
  · obtain ⟨_, _, _, _, _, _, _, _, _, k⟩ := hP
    refine SqL.of (k.lst ?_ hl2)
    simp only [List.mem_cons, List.not_mem_nil, or_false, not_or]
    exact ⟨(fun e => by rw [e, hdk2] at hl2; cases hl2), nlr⟩
  · obtain ⟨o4, o5, o6, o7, rs, rfl, hd3, hr3, hrs, k3⟩ := hP
    obtain ⟨d, g1, g2⟩ := hws2.get hz
    obtain ⟨cc, hcc, rfl⟩ : ∃ cc, C[i]? = some cc ∧ d = c4D cc := by
      rw [List.getElem?_map] at g1
      cases q1 : C[i]? with
      | none => rw [q1] at g1; cases g1
      | some u => rw [q1] at g1; exact ⟨u, rfl, (Option.some.inj g1).symm⟩
    obtain ⟨b, x, f, g⟩ := cc
    have t23 := k3.kt sp2
    obtain ⟨tz, rfl, htz⟩ := tupI_at (g2.kt t23)
    obtain ⟨R, eR⟩ : ∃ R, R = (C.take i).foldl grd [] := ⟨_, rfl⟩
    rw [← eR] at hd3 hrs
    have eR1 : (C.take (i + 1)).foldl grd [] = grd R (b, x, f, g) := by
      rw [List.take_add_one, hcc, Option.toList_some, fold_app, ← eR]
    have hRl : R.length ≤ 1600 := by
      have := grd_len (C.take i) []
      rw [← eR, List.length_take] at this
      simp at this
      omega
    refine ⟨tz, _, rfl, SqT.of htz, rfl, _, _, rfl, _, _, rfl, _, _, rfl, _, _, rfl, rfl, ?_⟩
    -- if flame not in lost and other not in lost
    refine ⟨.int f, rfl, .ref dk, rfl, dk, _, rfl, DGet.k (k := Sum.inl (f : Int)) hd3, _, rfl, ?_⟩
    have skip : f ∈ R.map (·.2.2.1) ∨ g ∈ R.map (·.2.2.1) → ∃ (o4 o5 o6 o7 : Option V) (rs' : List V), [some v, some (.ref c), some (.ref dk), some (.ref rp), some (.int b), some (.int (x : Nat)), some (.int (f : Nat)), some (V.int (g : Nat))] = [some v, some (.ref c), some (.ref dk), some (.ref rp), o4, o5, o6, o7] ∧ H3 dk = some (.dK (lostK ((C.take (i + 1)).foldl grd []))) ∧ H3 rp = some (.lst rs') ∧ TuA H3 rs' (((C.take (i + 1)).foldl grd []).map c4D) ∧ Kp [dk, rp] H2 H3 := fun h => by
      have : grd R (b, x, f, g) = R := by unfold grd; rw [if_pos h]
      rw [eR1, this]
      exact ⟨_, _, _, _, rs, rfl, hd3, hr3, hrs, k3⟩
    rcases lostK_val f R with ⟨m1, m2⟩ | ⟨m1, m2⟩
    · rw [m2]
      exact iteF (iteF (skip (.inl m1)))
    rw [m2]
    refine iteT ⟨.int g, rfl, .ref dk, rfl, dk, _, rfl, DGet.k (k := Sum.inl (g : Int)) hd3, _, rfl, ?_⟩
    rcases lostK_val g R with ⟨n1, n2⟩ | ⟨n1, n2⟩
    · rw [n2]
      exact iteF (skip (.inr n1))
    rw [n2]
    refine iteT ?_
    have e2 : grd R (b, x, f, g) = R ++ [(b, x, f, g)] := by
      unfold grd
      rw [if_neg]
      rintro (z | z)
      · exact m1 z
      · exact n1 z
    -- lost[flame] = True
    have hkl : (lostK R).length = R.length := List.length_map _
    refine ⟨.ref dk, rfl, .int f, rfl, dk, _, rfl, DPut.k (k := Sum.inl (f : Int)) hd3 (by rw [hkl]; exact Nat.lt_of_le_of_lt hRl (by decide)), ?_⟩
    rw [putK_new (V.bl true) m2]
    obtain ⟨H4, e4⟩ : ∃ H4, H4 = upd H3 dk (.dK (lostK R ++ [((Sum.inl (f : Int) : Key), V.bl true)])) := ⟨_, rfl⟩
    rw [← e4]
    have k34 : Kp [dk, rp] H3 H4 := e4 ▸ Kp.put (by simp) hd3 fun ps z => by cases z
    have t34 : Kt H3 H4 := by rw [e4]; exact Kt.put hd3 fun _ z => by cases z
    have hr4 : H4 rp = some (.lst rs) := by rw [e4, upd_ne (Ne.symm ndr)]; exact hr3
    -- rows.append(..)
    have hrl : rs.length = R.length := by rw [hrs.len, List.length_map]
    refine ⟨.ref rp, rfl, .inl ⟨rfl, _, SqL.of hr4⟩, .int b, rfl, .int x, rfl, .int f, rfl, .int g, rfl, by show 4 ≤ sizeLine; decide, fun tn ntn => ?_⟩
    obtain ⟨H5, e5⟩ : ∃ H5, H5 = upd H4 tn (.tup [.int b, .int (x : Nat), .int (f : Nat), .int (g : Nat)]) := ⟨_, rfl⟩
    have k45 : Kp [] H4 H5 := e5 ▸ Kp.new ntn
    have hr5 := k45.lst (by simp) hr4
    refine ⟨rp, rs, .ref tn, rfl, rfl, by rw [← e5]; exact hr5, Nat.lt_of_le_of_lt (show rs.length ≤ 1600 by omega) (by decide), ?_⟩
    rw [← e5]
    have t56 : Kt H5 (upd H5 rp (.lst (rs ++ [.ref tn]))) := Kt.put hr5 fun _ z => by cases z
    rw [eR1, e2]
    refine ⟨_, _, _, _, rs ++ [.ref tn], rfl, ?_, upd_same, ?_, k3.tr (k34.tr (k45.of0.tr (Kp.put (by simp) hr5 fun ps z => by cases z)))⟩
    · rw [upd_ne ndr]
      have : H4 dk = some (.dK (lostK (R ++ [(b, x, f, g)]))) := by
        rw [e4, upd_same]
        unfold lostK
        rw [List.map_append]
        rfl
      exact k45.at_ dk _ (by simp) this fun _ z => by cases z
    · rw [List.map_append]
      refine (((hrs.kt t34).kt k45.kt0).kt t56).app (.cons ?_ .nil)
      exact tupI_of (ns := [b, (x : Int), (f : Int), (g : Int)]) (t56 _ _ (by rw [e5]; exact upd_same))
  · obtain ⟨o4, o5, o6, o7, rs, rfl, hd3, hr3, hrs, k3⟩ := hP
    rw [wsl, List.take_length] at hrs
    have hRl : (grdA C).length ≤ 1600 := by
      have := grd_len C []
      simp at this
      unfold grdA
      omega
    refine ⟨.ref rp, rfl, q (grdA C) rp rs H3 (losses_of ok hk hC) hRl nrH hr3 hrs ?_⟩
    refine Kp.drop nd (Kp.drop nrH ?_)
    exact (k12.of0.tr k3).wk (by simp)
end

section
variable {P : Program} {w : World} {K : PySem.W.Frag} {mg : Str → Option Value} {base : Heap} {a : Ad}
def spFateA : Sp := fun vs H Q _ => ∃ (v : V) (N : Net) (d : Addr) (r : List (Key × V)) (p : Nat × Nat), vs = [v, .ref d] ∧ Tu H v (netD N) ∧ NetOk N ∧ p.2 < N.length ∧ H d = some (.dK r) ∧ LtA H r (lightsL N p.1 p.2) ∧
  ∀ v' H', Tu H' v' (fateD (fateA N p)) → Kp [] H H' → Q v' H'
theorem ok_fate_alone (T : Tx K mg a) : FnOk P w K mg base CX0 1 a.a_fate_alone a.f_fate_alone ["net", "lights"] spFateA := by
  refine T.fate_alone.F.ok sc_fate_alone (fun vs H Q E h => ?_) (fun cdv A outer s H vs Q E hr h => ?_)
  · obtain ⟨v, N, d, r, p, rfl, _⟩ := h
    rfl
  obtain ⟨v, N, d, r, ⟨b, x⟩, rfl, hn, ok, hx, hd, hl, q⟩ := h
  simp only at hx
  have hu := hu_of hr
  refine ⟨_, (pss_cons (ps_lock (ps_setLc (i := 2) (own := [("lamp", 3), ("_", 4), ("lap", 5)]) (g := gTup K 2 (gCons (gName 3) (gCons (gTup K 2 (gCons (gName 4) (gCons (gName 5) (gNil)))) (gNil)))) (by rfl) sc_fate_alone.nd rfl rfl (sw_true rfl rfl rfl (by decide +kernel)) (pi_items (pv 1)) (blkOk_by (own := [("lamp", 3), ("_", 4), ("lap", 5)]) (N := s_fate_alone_N) (sc := defScope s_fate_alone) (by decide +kernel)) (fun _ _ _ _ _ => (pg_tupK (K := K) rfl (by rfl) (pgs_cons (pg_name (i := 3) sc_fate_alone.nd rfl (by first | exact .inl rfl | exact .inr rfl)) (pgs_cons (pg_tupK (K := K) rfl (by rfl) (pgs_cons (pg_name (i := 4) sc_fate_alone.nd rfl (by first | exact .inl rfl | exact .inr rfl)) (pgs_cons (pg_name (i := 5) sc_fate_alone.nd rfl (by first | exact .inl rfl | exact .inr rfl)) pgs_nil))) pgs_nil)))) (fun _ _ _ _ _ => (pts_one (pt_cmpR op_notN (pv 5) pe_non (nomark _)))) (fun _ _ _ _ _ => (pv 3))))
      (pss_cons (ps_if (pt_truth (pv 2) (by intro _; rfl)) (pss_cons (ps_set (i := 6) sc_fate_alone.nd rfl (by first | exact .inl rfl | exact .inr rfl) (pe_callB (cr_min rfl) (by rfl) T.n_min (by decide +kernel) (pa_cons (pv 2) pa_nil)))
      (pss_one (ps_ret (pe_tup (pa_cons pe_str (pa_cons (pv 6) (pa_cons (pe_ix ix_tup (pe_dget hu (pv 1) (pv 6) (fun _ _ => rfl)) pe_int (fun _ _ => rfl)) pa_nil))))))) pss_nil)
      (pss_cons (ps_set (i := 7) sc_fate_alone.nd rfl (by first | exact .inl rfl | exact .inr rfl) (pe_ix ix_list (pe_callTy (call_list_dK rfl) (by rfl) T.n_list (by decide +kernel) (pa_cons (pv 1) pa_nil)) (pe_un un_neg pe_int) (fun _ _ => rfl)))
      (pss_one (ps_ret (pe_tup (pa_cons pe_str (pa_cons (pe_op op_add (pe_ix ix_tup (pe_dget hu (pv 1) (pv 7) (fun _ _ => rfl)) pe_int (fun _ _ => rfl)) (pe_ix ix_tup (pe_ix ix_tup (pv 0) (pv 7) (fun _ _ => rfl)) pe_int (fun _ _ => rfl))) (pa_cons (pv 7) pa_nil))))))))), ?_⟩
  obtain ⟨L, eL⟩ : ∃ L, L = lightsL N (b : Int) x := ⟨_, rfl⟩
  have hl0 : LtA H r (lightsL N (b : Int) x) := hl
  rw [← eL] at hl0
  have hrp : L.map (·.1) = path N x := by rw [eL]; exact lights_fst N b x
  have hrl : r.length = (path N x).length := by rw [hl0.len, ← hrp, List.length_map]
  have hlap : (L.filter fun z => z.2.2.isSome).map (·.1) = wayR N x := by rw [eL]; exact rings_lap ok hx b
  have hpl := path_been ok hx
  have hle := hpl.le
  have h12 := ok.hi
  -- ring = [lamp for lamp, (_, lap) in lights.items() if lap is not None]
  refine ⟨d, .dK r, hd, trivial, fun od => ⟨.ref d, rfl, d, od, r, rfl, upd_same, fun D nD => ?_⟩⟩
  obtain ⟨Hf, ef⟩ : ∃ Hf, Hf = upd H d (.frz od (.dK r)) := ⟨_, rfl⟩
  rw [← ef] at nD ⊢
  have kf : Kp [d] H Hf := ef ▸ Kp.put (by simp) hd fun ps z => by cases z
  have tf : Kt H Hf := kf.kt fun s z ys e => by
    rw [List.mem_singleton.mp z, hd] at e
    cases e
  have hfd : Hf d = some (.frz od (.dK r)) := by rw [ef]; exact upd_same
  have ndD : D ≠ d := fun e => by rw [e, hfd] at nD; cases nD
  have nDH : H D = none := by
    cases z : H D with
    | none => rfl
    | some o => exact absurd nD (kf.tr_ D (by rw [z]; exact fun y => by cases y))
  refine lc_it walk_items (fun i H' => H' D = some (.lst (natV (((L.take i).filter fun z => z.2.2.isSome).map (·.1)))) ∧ Kp [] Hf H') ⟨by rw [List.take_zero]; exact upd_same, Kp.new nD⟩ (fun i H' _ hP => ?_) (fun i z H6 H7 hi hP hY => ?_) (fun H' hP => ?_)
  · exact hP.2.at_ d _ (by simp) hfd fun _ z => by cases z
  · obtain ⟨hD6, k6⟩ := hP
    obtain ⟨Tq, y1, y2, rfl, nT, rfl, g1, g2⟩ := hY
    have hiL : i < L.length := by rw [← hl0.len]; exact hi
    obtain ⟨lg, hlg⟩ : ∃ lg, L[i]? = some lg := ⟨L[i], List.getElem?_eq_getElem hiL⟩
    obtain ⟨vz, hr1, hvz⟩ := hl0.get hlg
    replace g1 : r[i]?.map (fun kv => kV kv.1) = some y1 := g1
    replace g2 : r[i]?.map Prod.snd = some y2 := g2
    rw [hr1] at g1 g2
    obtain rfl : V.int (lg.1 : Int) = y1 := Option.some.inj g1
    obtain rfl : vz = y2 := Option.some.inj g2
    obtain ⟨y, fb, lp⟩ := lg
    have htk : L.take (i + 1) = L.take i ++ [(y, fb, lp)] := by rw [List.take_add_one, hlg]; rfl
    obtain ⟨H7, e7⟩ : ∃ H7, H7 = upd H6 Tq (.tup [.int (y : Int), vz]) := ⟨_, rfl⟩
    rw [← e7]
    have k67 : Kp [] H6 H7 := e7 ▸ Kp.new nT
    have kf7 : Kp [] Hf H7 := k6.tr k67
    have hT7 : H7 Tq = some (.tup [.int (y : Int), vz]) := by rw [e7]; exact upd_same
    obtain ⟨ta, rfl, hta⟩ := lgt_at (hvz.kt (tf.tr kf7.kt0))
    have hD7 := k67.lst (by simp) hD6
    have hil : ((L.take i).filter fun z => z.2.2.isSome).length ≤ 12 := by
      refine Nat.le_trans (List.length_filter_le _ _) ?_
      rw [List.length_take, ← hl0.len, hrl]
      omega
    refine ⟨Tq, _, rfl, SqT.of hT7, rfl, _, _, rfl, _, _, rfl, ta, _, rfl, SqT.of hta, rfl, _, _, rfl, _, _, rfl, rfl, rfl, rfl, ?_⟩
    cases lp with
    | none =>
      refine ⟨.non, rfl, rfl, _, rfl, iteF ⟨?_, kf7⟩⟩
      rw [htk, List.filter_append, List.filter_cons_of_neg (by simp), List.filter_nil, List.append_nil]
      exact hD7
    | some l =>
      refine ⟨.int l, rfl, rfl, _, rfl, iteT ⟨.int (y : Int), rfl, _, hD7, ?_, ?_, ?_⟩⟩
      · rw [natV_len, List.length_map]
        exact Nat.lt_of_le_of_lt hil (by decide)
      · rw [htk, List.filter_append, List.filter_cons_of_pos (by simp), List.filter_nil, List.map_append, upd_same]
        exact congrArg (fun z => some (HO.lst z)) (natV_app _ y).symm
      · exact Kp.drop nD (kf7.of0.tr (Kp.put (by simp) hD7 fun ps z => by cases z))
  · obtain ⟨hD6, k6⟩ := hP
    rw [hl0.len, List.take_length, hlap] at hD6
    have hd6 : H' d = some (.frz od (.dK r)) := k6.at_ d _ (by simp) hfd fun _ z => by cases z
    refine ⟨hd6, ?_⟩
    obtain ⟨H1, e1⟩ : ∃ H1, H1 = upd H' d (.dK r) := ⟨_, rfl⟩
    rw [← e1]
    have k1 : Kp [] H H1 := by
      refine Kp.same ?_ hd (by rw [e1]; exact upd_same)
      rw [e1]
      exact kf.tr (k6.of0.tr (Kp.put (by simp) hd6 fun ps z => by cases z))
    have hD1 : H1 D = some (.lst (natV (wayR N x))) := by rw [e1, upd_ne ndD]; exact hD6
    have hd1 : H1 d = some (.dK r) := by rw [e1]; exact upd_same
    have hl1 := hl0.kt k1.kt0
    obtain ⟨ad, xs, rfl, hx1, hln, hat⟩ := tnet_at (hn.kt k1.kt0)
    -- the light of a lamp of the way
    have look : ∀ Hx : Hp, Hx d = some (.dK r) → LtA Hx r L → ∀ y, y ∈ path N x → ∃ t, DGet Hx d (.int (y : Int)) (some (.ref t)) ∧ ∃ o, Hx t = some (.tup [.int (frstOf N b x y), o]) := fun Hx hdx hlx y hy => by
      rcases hlx.val (y := y) with ⟨e2, e3⟩ | ⟨w, vw, e2, e3, e4⟩
      · rw [eL, look_lap ok hx (b : Int) hy] at e2
        cases e2
      · rw [eL, look_lap ok hx (b : Int) hy] at e2
        cases e2
        obtain ⟨t, rfl, ht⟩ := lgt_at e4
        refine ⟨t, ?_, _, ht⟩
        have := DGet.k (k := (Sum.inl (y : Int) : Key)) hdx
        rw [e3] at this
        exact this
    by_cases hr0 : wayR N x = []
    · -- it ends
      have ef : fateA N (b, x) = .ended (frst N b x (path N x).length) (lastOf (path N x)) := by
        unfold fateA
        rw [if_pos hr0]
      rw [hr0] at hD1
      refine ⟨.ref D, rfl, false, .inl ⟨_, SqL.of hD1, rfl⟩, iteF ?_⟩
      -- last = list(lights)[-1]
      have hkeys : (r.map fun kv => kV kv.1) = natV (path N x) := by
        rw [← hrp]
        unfold natV
        rw [List.map_map]
        refine List.ext_getElem? fun i => ?_
        rw [List.getElem?_map, List.getElem?_map]
        cases e : L[i]? with
        | none => rw [List.getElem?_eq_none (by rw [hl0.len]; exact List.getElem?_eq_none_iff.mp e)]; rfl
        | some z =>
          obtain ⟨vz, h1, _⟩ := hl0.get e
          rw [h1]
          rfl
      refine ⟨.ref d, rfl, d, r, rfl, hd1, fun lp nl => ?_⟩
      rw [hkeys]
      obtain ⟨H2, e2⟩ : ∃ H2, H2 = upd H1 lp (.lst (natV (path N x))) := ⟨_, rfl⟩
      rw [← e2]
      have k2 : Kp [] H1 H2 := e2 ▸ Kp.new nl
      have hlast := (last_at ok hx).2
      refine ⟨_, rfl, lp, _, -1, _, rfl, rfl, SqL.of (by rw [e2]; exact upd_same), natV_last hpl, ?_⟩
      obtain ⟨t, hg2, o, ht⟩ := look H2 (k2.at_ d _ (by simp) hd1 fun _ y => by cases y) (hl1.kt k2.kt0) _ hlast
      obtain ⟨la, hxl, hla⟩ := hat _ _ (List.getElem?_eq_getElem (hpl.lt _ hlast))
      have hla2 : H2 la = some (.tup [V.int (burnOf N (lastOf (path N x))), nxV (N[lastOf (path N x)]'(hpl.lt _ hlast)).2]) := by
        rw [burnOf_get (List.getElem?_eq_getElem (hpl.lt _ hlast))]
        exact k2.kt0 _ _ hla
      refine ⟨.ref d, rfl, .int (lastOf (path N x) : Nat), rfl, d, .ref t, rfl, hg2, t, _, 0, .int _, rfl, rfl, SqT.of ht, atI_nat (j := 0) rfl, .ref ad, rfl, .int (lastOf (path N x) : Nat), rfl, ad, xs, lastOf (path N x), .ref la, rfl, rfl, SqT.of (k2.kt0 _ _ hx1), atI_nat hxl, la, _, 0, .int _, rfl, rfl, SqT.of hla2, atI_nat (j := 0) rfl, _, _, rfl, rfl, .int (lastOf (path N x) : Nat), rfl, by show 3 ≤ sizeLine; decide, fun tp ntp => q _ _ ?_ (k1.tr (k2.tr (Kp.new ntp)))⟩
      rw [ef, ← frst_last ok hx]
      exact .tup upd_same (.cons (.str _) (.cons (.int _) (.cons (.int _) .nil)))
    · -- it goes on
      have ef : fateA N (b, x) = .goes (minN (wayR N x)) (frstOf N b x (minN (wayR N x))) := by
        unfold fateA
        rw [if_neg hr0]
      obtain ⟨m1, m2⟩ := minN_mem hr0
      have hmp : minN (wayR N x) ∈ path N x := by rw [← way_cat]; exact List.mem_append_right _ m1
      have hne : false = (natV (wayR N x)).isEmpty := by
        cases e : wayR N x with
        | nil => exact absurd e hr0
        | cons y g => rfl
      refine ⟨.ref D, rfl, true, .inl ⟨_, SqL.of hD1, by rw [← hne]; rfl⟩, iteT ?_⟩
      rw [natV_ints] at hD1
      refine ⟨.ref D, rfl, D, _, rfl, SqL.of hD1, ?_, fun m hm hle2 => ?_⟩
      · rw [List.length_map]
        exact List.length_pos_iff.mpr hr0
      have em := minN_of hm hle2
      subst em
      obtain ⟨t, hg, o, ht⟩ := look H1 hd1 hl1 _ hmp
      refine ⟨.int (minN (wayR N x) : Nat), rfl, .ref d, rfl, .int (minN (wayR N x) : Nat), rfl, d, .ref t, rfl, hg, t, _, 0, .int _, rfl, rfl, SqT.of ht, atI_nat (j := 0) rfl, by show 3 ≤ sizeLine; decide, fun tp ntp => q _ _ ?_ (k1.tr (Kp.new ntp))⟩
      rw [ef]
      exact .tup upd_same (.cons (.str _) (.cons (.int _) (.cons (.int _) .nil)))
def fatesD (F : List Fate) : List PyData := F.map fateD
def spFates (TB TB2 TB3 : Addr) : Sp := fun vs H Q _ => ∃ (v : V) (N : Net) (kl : Addr) (us : List V) (ks : Kds), vs = [v, .ref kl] ∧ Tu H v (netD N) ∧ NetOk N ∧ H kl = some (.lst us) ∧ TuA H us (ks.map kdD) ∧ KdsOk N ks ∧ ks.length ≤ 40 ∧ GxR.TabG H TB ∧ GxR.TabG H TB2 ∧ GxR.TabG H TB3 ∧
  ∀ R l ws H', Losses N ks R → H l = none → H' l = some (.lst ws) → TuA H' ws (fatesD (fatesR N ks R)) → Kp [] H H' → Q (.ref l) H'
theorem ok_fates (T : Tx K mg a) (TB : GxR.TabB base mg a.cd_is_net a.tb_is_net) (TB2 : GxR.TabB base mg a.cd_lights_of a.tb_lights_of) (TB3 : GxR.TabB base mg a.cd_are_kindlings a.tb_are_kindlings) : FnOk P w K mg base CX0 13 a.a_fates a.f_fates ["net", "kindlings"] (spFates a.tb_is_net a.tb_lights_of a.tb_are_kindlings) := by
  have G_need_kindlings := ok_need_kindlings (P := P) (w := w) (base := base) T TB TB3
  have G_lights_of_all := ok_lights_of_all (P := P) (w := w) (base := base) T TB TB2
  have G_fate_alone := ok_fate_alone (P := P) (w := w) (base := base) T
  have G_losses_by_lights := ok_losses_by_lights (P := P) (w := w) (base := base) T
  refine T.fates.F.ok sc_fates (fun vs H Q E h => ?_) (fun cdv A outer s H vs Q E hr h => ?_)
  · obtain ⟨v, N, kl, us, ks, rfl, _⟩ := h
    rfl
  obtain ⟨v, N, kl, us, ks, rfl, hn, ok, hkl, hus, hk, h40, ht, ht2, ht3, q⟩ := h
  refine ⟨_, (pss_cons (ps_expr (pe_call G_need_kindlings (hr.mono (by decide)) (by rfl) T.need_kindlings.g T.need_kindlings.F.kp T.need_kindlings.b .nil pass0 (pa_cons (pv 0) (pa_cons (pv 1) pa_nil))))
      (pss_cons (ps_set (i := 2) sc_fates.nd rfl (by first | exact .inl rfl | exact .inr rfl) (pe_call G_lights_of_all (hr.mono (by decide)) (by rfl) T.lights_of_all.g T.lights_of_all.F.kp T.lights_of_all.b .nil pass0 (pa_cons (pv 0) (pa_cons (pv 1) pa_nil))))
      (pss_cons (ps_setLc (i := 3) (own := [("own", 4)]) (g := gName 4) (by rfl) sc_fates.nd rfl rfl (sw_true rfl rfl rfl (by decide +kernel)) (pi_list (pv 2)) (blkOk_by (own := [("own", 4)]) (N := s_fates_N) (sc := defScope s_fates) (by decide +kernel)) (fun _ _ _ _ _ => (pg_name (i := 4) sc_fates.nd rfl (by first | exact .inl rfl | exact .inr rfl))) (fun _ _ _ _ _ => pts_nil) (fun _ _ _ _ _ => (pe_call G_fate_alone (hr.mono (by decide)) (by rfl) T.fate_alone.g T.fate_alone.F.kp T.fate_alone.b .nil pass0 (pa_cons (pv 0) (pa_cons (pv 4) pa_nil)))))
      (pss_cons (ps_for PassesOwn.never rfl (pi_list (pe_call G_losses_by_lights (hr.mono (by decide)) (by rfl) T.losses_by_lights.g T.losses_by_lights.F.kp T.losses_by_lights.b .nil pass0 (pa_cons (pv 0) (pa_cons (pv 2) pa_nil)))) (pg_tup (by rfl) (pgs_cons (pg_name (i := 5) sc_fates.nd rfl (by first | exact .inl rfl | exact .inr rfl)) (pgs_cons (pg_name (i := 6) sc_fates.nd rfl (by first | exact .inl rfl | exact .inr rfl)) (pgs_cons (pg_name (i := 7) sc_fates.nd rfl (by first | exact .inl rfl | exact .inr rfl)) (pgs_cons (pg_name (i := 8) sc_fates.nd rfl (by first | exact .inl rfl | exact .inr rfl)) pgs_nil))))) (pss_one (ps_asg (pe_tup (pa_cons pe_str (pa_cons (pv 5) (pa_cons (pv 6) (pa_cons (pv 8) pa_nil))))) (pg_sub (pv 3) (pv 7) set_list))))
      (pss_one (ps_ret (pv 3))))))), ?_⟩
  refine ⟨v, rfl, .ref kl, rfl, v, N, kl, us, ks, rfl, hn, ok, hkl, hus, hk, h40, ht, ht3, fun H1 k1 => ?_⟩
  refine ⟨v, rfl, .ref kl, rfl, v, N, kl, us, ks, rfl, hn.kt k1.kt0, ok, k1.lst (by simp) hkl, hus.kt k1.kt0, hk, h40, k1.tab _ ht, k1.tab _ ht2, fun c ds H2 hN2 => ?_⟩
  have k12 := k1.tr hN2.kp
  have hL2 := hN2.lts
  have hdl : ds.length = ks.length := by rw [hL2.len]; exact List.length_map _
  -- told = [fate_alone(net, own) for own in lights]
  refine ⟨.ref c, rfl, c, rfl, ⟨_, SqL.of hL2.top⟩, fun D nD => lc_list (xs := ds.map V.ref) (fun i H' => ∃ ws, H' D = some (.lst ws) ∧ TuA H' ws (fatesD ((ks.take i).map (fateA N))) ∧ Kp [] H2 H') ⟨[], upd_same, .nil, Kp.new nD⟩ (fun i H' _ hP => ?_) (fun i x H' hx hP => ?_) (fun H' hP => ?_)⟩
  · obtain ⟨ws, _, _, k⟩ := hP
    exact SqL.of (k.lst (by simp) hL2.top)
  · obtain ⟨ws, hD, hws, k⟩ := hP
    obtain ⟨p, hp⟩ : ∃ p, ks[i]? = some p := by
      have := (List.getElem?_eq_some_iff.mp hx).1
      rw [List.length_map, hdl] at this
      exact ⟨_, List.getElem?_eq_getElem this⟩
    obtain ⟨d, r, hd, hv, hdd, hll⟩ := (hL2.kp0 k).get hp
    rw [hv] at hx
    cases hx
    refine ⟨rfl, v, rfl, .ref d, rfl, v, N, d, r, p, rfl, (hn.kt k12.kt0).kt k.kt0, ok, hk p (List.mem_of_getElem? hp), hdd, hll, fun v' H4 hv' k4 => ?_⟩
    have hD4 := k4.lst (by simp) hD
    have hwl : ws.length ≤ 40 := by
      rw [hws.len]
      unfold fatesD
      rw [List.length_map, List.length_map, List.length_take]
      omega
    refine ⟨ws, hD4, Nat.lt_of_le_of_lt hwl (by decide), ws ++ [v'], upd_same, ?_, ?_⟩
    · have e : fatesD ((ks.take (i + 1)).map (fateA N)) = fatesD ((ks.take i).map (fateA N)) ++ [fateD (fateA N p)] := by
        unfold fatesD
        rw [List.take_add_one, hp, List.map_append, List.map_append]
        rfl
      rw [e]
      have tput : Kt H4 (upd H4 D (.lst (ws ++ [v']))) := Kt.put hD4 fun _ z => by cases z
      exact ((hws.kt k4.kt0).kt tput).app (.cons (hv'.kt tput) .nil)
    · exact Kp.drop nD ((k.tr k4).of0.tr (Kp.put (by simp) hD4 fun ps z => by cases z))
  · obtain ⟨ws, hD, hws, k3⟩ := hP
    rw [List.length_map, hdl, List.take_length] at hws
    have k13 := k12.tr k3
    have nDH : H D = none := by
      cases z : H D with
      | none => rfl
      | some o => exact absurd nD (k12.tr_ D (by rw [z]; exact fun y => by cases y))
    -- for beat, lamp, flame, other in losses_by_lights(net, lights)
    refine ⟨v, rfl, .ref c, rfl, v, N, c, ds, ks, rfl, hn.kt k13.kt0, ok, hk, h40, hL2.kp0 k3, fun R l rs H4 hR hRl nl hl4 hrs4 k4 => ?_⟩
    have hD4 := k4.lst (by simp) hD
    have nlD : l ≠ D := fun e => by rw [e, hD] at nl; cases nl
    have rsl : rs.length = R.length := by rw [hrs4.len, List.length_map]
    have Dn : ∀ s ∈ [D], ∀ ys, H4 s ≠ some (.tup ys) := fun s z ys e => by
      rw [List.mem_singleton.mp z, hD4] at e
      cases e
    refine ⟨l, rfl, ⟨_, SqL.of hl4⟩, for_list (xs := rs) (fun i σ H' => ∃ (o3 o4 o5 o6 o7 : Option V) (ws : List V), σ = [some v, some (.ref kl), some (.ref c), some (.ref D), o3, o4, o5, o6, o7] ∧ H' D = some (.lst ws) ∧ TuA H' ws (fatesD (fatesR N ks (R.take i))) ∧ Kp [D] H4 H') ⟨none, none, none, none, none, ws, rfl, hD4, hws.kt k4.kt0, .rfl'⟩ (fun i σ H' _ hP => ?_) (fun i z σ H5 hz hP => ?_) (fun σ H5 hP => ?_)⟩
    · obtain ⟨_, _, _, _, _, _, _, _, _, k⟩ := hP
      exact SqL.of (k.lst (by simpa using nlD) hl4)
    · obtain ⟨o3, o4, o5, o6, o7, ws, rfl, hD5, hws5, k5⟩ := hP
      obtain ⟨d, g1, g2⟩ := hrs4.get hz
      obtain ⟨cc, hcc, rfl⟩ : ∃ cc, R[i]? = some cc ∧ d = c4D cc := by
        rw [List.getElem?_map] at g1
        cases q1 : R[i]? with
        | none => rw [q1] at g1; cases g1
        | some u => rw [q1] at g1; exact ⟨u, rfl, (Option.some.inj g1).symm⟩
      obtain ⟨b, x, f, g⟩ := cc
      have hf : f < ks.length := by
        obtain ⟨t, e, hl⟩ := (hR.iff _).mp (List.mem_of_getElem? hcc)
        exact (lost_lt ok hk hl).1
      obtain ⟨tz, rfl, htz⟩ := tupI_at (g2.kt (k5.kt Dn))
      refine ⟨tz, _, rfl, SqT.of htz, rfl, _, _, rfl, _, _, rfl, _, _, rfl, _, _, rfl, rfl, ?_⟩
      -- told[flame] = ("lost", beat, lamp, other)
      refine ⟨.int b, rfl, .int x, rfl, .int g, rfl, by show 4 ≤ sizeLine; decide, fun tn ntn => ?_⟩
      obtain ⟨H6, e6⟩ : ∃ H6, H6 = upd H5 tn (.tup [.str "lost", .int b, .int (x : Nat), .int (g : Nat)]) := ⟨_, rfl⟩
      have k56 : Kp [] H5 H6 := e6 ▸ Kp.new ntn
      have hD6 := k56.lst (by simp) hD5
      have hwl : ws.length = ks.length := by
        rw [hws5.len]
        unfold fatesD
        rw [List.length_map, fatesR_len]
      refine ⟨.ref D, rfl, .int f, rfl, D, ws, f, f, rfl, rfl, by rw [← e6]; exact hD6, ?_, ?_⟩
      · exact Evl.ixN_nat (by rw [hwl]; exact hf)
      · rw [← e6]
        have tput : Kt H6 (upd H6 D (.lst (ws.set f (.ref tn)))) := Kt.put hD6 fun _ z => by cases z
        refine ⟨_, _, _, _, _, ws.set f (.ref tn), rfl, upd_same, ?_, k5.tr (k56.of0.tr (Kp.put (by simp) hD6 fun ps z => by cases z))⟩
        have e : fatesD (fatesR N ks (R.take (i + 1))) = (fatesD (fatesR N ks (R.take i))).set f (fateD (.lost b x g)) := by
          unfold fatesD fatesR
          rw [List.take_add_one, hcc, Option.toList_some, fold_app, List.map_set]
        rw [e]
        refine TuA.set ?_ f ((hws5.kt k56.kt0).kt tput)
        exact .tup (tput _ _ (by rw [e6]; exact upd_same)) (.cons (.str _) (.cons (.int _) (.cons (.int _) (.cons (.int _) .nil))))
    · obtain ⟨o3, o4, o5, o6, o7, ws, rfl, hD5, hws5, k5⟩ := hP
      rw [rsl, List.take_length] at hws5
      exact ⟨.ref D, rfl, q R D ws H5 hR nDH hD5 hws5 (Kp.drop nDH ((k13.tr k4).of0.tr k5))⟩
end

section
variable {P : Program} {w : World} {K : PySem.W.Frag} {mg : Str → Option Value} {base : Heap} {a : Ad}
def spRings (TB : Addr) : Sp := fun vs H Q _ => ∃ (S : List Addr) (v : V) (N : Net), vs = [v] ∧ Dx S H v (netD N) ∧ NetOk N ∧ GxR.TabG H TB ∧ ∀ v' H', Kp [] H H' → Nw H H' v' (ringsD N) → Q v' H'
theorem ok_rings (T : Tx K mg a) (TB : GxR.TabB base mg a.cd_is_net a.tb_is_net) : FnOk P w K mg base CX0 9 a.a_rings a.f_rings ["net"] (spRings a.tb_is_net) := by
  have G_need_net := ok_need_net (P := P) (w := w) (base := base) T TB
  have G_way_of := ok_way_of (P := P) (w := w) (base := base) T TB
  refine T.rings.F.ok sc_rings (fun vs H Q E h => ?_) (fun cdv A outer s H vs Q E hr h => ?_)
  · obtain ⟨S, v, N, rfl, _⟩ := h
    rfl
  obtain ⟨S, v, N, rfl, hd, ok, ht, q⟩ := h
  refine ⟨_, (pss_cons (ps_expr (pe_call G_need_net (hr.mono (by decide)) (by rfl) T.need_net.g T.need_net.F.kp T.need_net.b .nil pass0 (pa_cons (pv 0) pa_nil)))
      (pss_cons (ps_set (i := 1) sc_rings.nd rfl (by first | exact .inl rfl | exact .inr rfl) (pe_lst pa_nil))
      (pss_cons (ps_for PassesOwn.never rfl (pi_range1 (by rfl) T.n_range (pa_cons (pe_callB call_len_seq (by rfl) T.n_len (by decide +kernel) (pa_cons (pv 0) pa_nil)) pa_nil)) (pg_name (i := 2) sc_rings.nd rfl (by first | exact .inl rfl | exact .inr rfl)) (pss_cons (ps_asg (pe_call G_way_of (hr.mono (by decide)) (by rfl) T.way_of.g T.way_of.F.kp T.way_of.b .nil pass0 (pa_cons (pv 0) (pa_cons (pv 2) pa_nil))) (pg_tup (by rfl) (pgs_cons (pg_name (i := 3) sc_rings.nd rfl (by first | exact .inl rfl | exact .inr rfl)) (pgs_cons (pg_name (i := 4) sc_rings.nd rfl (by first | exact .inl rfl | exact .inr rfl)) pgs_nil))))
      (pss_one (ps_if (PW.pt (pw_and (pt_truth (pv 4) (by intro _; rfl)) (pw_and1 (pt_cmpR op_eq (pv 2) (pe_callB (cr_minT rfl) (by rfl) T.n_min (by decide +kernel) (pa_cons (pv 4) pa_nil)) (nomark _))))) (pss_one (ps_expr (pe_bm PySem.F.plainAttrs_list PySem.F.slot_list_append PySem.F.type_list_append mt_append (pv 1) (pa_cons (pv 4) pa_nil)))) pss_nil))))
      (pss_one (ps_ret (pv 1)))))), ?_⟩
  have h12 := ok.hi
  have noS : ∀ {x : Addr}, x ∈ ([] : List Addr) → x ∈ S := fun z => by cases z
  -- need_net(net)
  refine ⟨v, rfl, S, v, N, rfl, hd, ok, ht, fun Ha ka => ?_⟩
  have hda : Dx S Ha v (netD N) := hd.kp ka fun _ => noS
  obtain ⟨ad, xs, rfl, _, hx1, hl1, _⟩ := net_at hda
  -- found = []
  refine ⟨Nat.zero_le _, fun fp nf => ?_⟩
  obtain ⟨H1, e1⟩ : ∃ H1, H1 = upd Ha fp (.lst []) := ⟨_, rfl⟩
  rw [← e1]
  have k1 : Kp [] Ha H1 := e1 ▸ Kp.new nf
  have hf1 : H1 fp = some (.lst []) := by rw [e1]; exact upd_same
  have hd1 : Dx (fp :: S) H1 (.ref ad) (netD N) := (hda.ap nf).kp k1 fun _ z => by cases z
  have ht1 := k1.tab _ (ka.tab _ ht)
  have hfH : H fp = none := by
    cases e : H fp with
    | none => rfl
    | some o => exact absurd nf (ka.tr_ fp (by rw [e]; exact fun q => by cases q))
  have kH1 : Kp [] H H1 := ka.tr k1
  have hf1n : ∀ s ∈ [fp], H1 s ≠ none := fun s z => by
    obtain rfl : s = fp := by simpa using z
    rw [hf1]
    exact fun q => by cases q
  have hS1 : ∀ {x : Addr}, x ∈ [fp] → x ∈ fp :: S := fun z => by
    obtain rfl := List.mem_singleton.mp z
    exact List.mem_cons_self
  -- for lamp in range(len(net))
  refine ⟨.ref ad, rfl, ad, xs, rfl, .inr (SqT.of (k1.tup (by simp) hx1)), N.length, by rw [hl1], by omega, by omega, for_range (n := N.length) (fun i σ H' => ∃ (o2 o3 o4 : Option V) (vs : List V), σ = [some (.ref ad), some (.ref fp), o2, o3, o4] ∧ H' fp = some (.lst vs) ∧ NwA H1 H' vs ((ringsL N i).map (ringD N)) ∧ Kp [fp] H1 H') ⟨none, none, none, [], rfl, hf1, .nil, .rfl'⟩ (fun i σ H2 hi hP => ?_) (fun σ H2 hP => ?_)⟩
  · obtain ⟨o2, o3, o4, vs, rfl, hf2, hv2, k2⟩ := hP
    have ei : (0 + (i : Int)) = (i : Int) := by omega
    rw [ei]
    have hd2 := hd1.kp k2 fun _ => hS1
    -- _, ring = way_of(net, lamp)
    refine ⟨.ref ad, rfl, .int i, rfl, fp :: S, .ref ad, N, i, rfl, hd2, ok, hi, k2.tab _ ht1, fun vw H3 k3 nw => ?_⟩
    obtain ⟨xa, xb, xc, rfl, _, ha, hb, hc, _, _⟩ := way_at (nw [] fun _ z => by cases z)
    refine ⟨xa, _, rfl, SqT.of ha, rfl, _, _, rfl, _, _, rfl, rfl, ?_⟩
    have hf3 : H3 fp = some (.lst vs) := k3.lst (by simp) hf2
    have k23 : Kp [fp] H1 H3 := k2.tr k3.of0
    have hv3 := hv2.kp k3
    -- if ring and lamp == min(ring)
    have hnR := (way_new nw ha).2
    have eNat : natV (wayR N i) = ((wayR N i).map fun n : Nat => (n : Int)).map V.int := by unfold natV; rw [List.map_map]; rfl
    have tru : TruV K (.ref xc) H3 (!decide (wayR N i = [])) := by
      refine .inr (.inl ⟨_, SqT.of hc, ?_⟩)
      cases wayR N i with
      | nil => rfl
      | cons _ _ => rfl
    refine ⟨.ref xc, rfl, _, tru, ?_⟩
    have still : rootB N i = false → ∃ (o2 o3 o4 : Option V) (vs' : List V), [some (V.ref ad), some (.ref fp), some (.int (i : Int)), some (.ref xb), some (.ref xc)] = [some (V.ref ad), some (.ref fp), o2, o3, o4] ∧ H3 fp = some (.lst vs') ∧ NwA H1 H3 vs' ((ringsL N (i + 1)).map (ringD N)) ∧ Kp [fp] H1 H3 := fun e => by
      refine ⟨_, _, _, vs, rfl, hf3, ?_, k23⟩
      rw [ringsL_succ, e]
      exact hv3
    by_cases hne : wayR N i = []
    · rw [decide_eq_true hne]
      refine iteF (iteF (still ?_))
      cases z : rootB N i with
      | false => rfl
      | true =>
        have := (root_iff.mp z).1
        rw [hne] at this
        cases this
    · rw [decide_eq_false hne]
      refine iteT ⟨.int i, rfl, .ref xc, rfl, xc, (wayR N i).map fun n : Nat => (n : Int), rfl, by rw [← eNat]; exact SqT.of hc, ?_, fun m hm1 hm2 => ?_⟩
      · rw [List.length_map]
        exact List.length_pos_iff.mpr hne
      have em : decide (V.int (i : Int) = V.int m) = rootB N i := by
        rw [← root_min hm1 hm2]
        exact decide_eq_decide.mpr ⟨fun e => by cases e; rfl, fun e => by rw [e]⟩
      refine ⟨rfl, _, rfl, ?_⟩
      rw [em]
      cases z : rootB N i with
      | false => exact iteF (still z)
      | true =>
        have lvs : vs.length ≤ i := by
          have e := (hv2 [] (fun s z => by cases z)).len
          rw [List.length_map] at e
          have := ringsL_len N i
          omega
        refine iteT ⟨.ref fp, rfl, .inl ⟨rfl, _, SqL.of hf3⟩, .ref xc, rfl, fp, vs, .ref xc, rfl, rfl, hf3, Nat.lt_of_lt_of_le (show vs.length < 1000 by omega) (by decide), ?_⟩
        obtain ⟨H4, e4⟩ : ∃ H4, H4 = upd H3 fp (.lst (vs ++ [.ref xc])) := ⟨_, rfl⟩
        rw [← e4]
        have k4 : Kp [fp] H3 H4 := e4 ▸ Kp.put (by simp) hf3 (fun ps e => by cases e)
        refine ⟨_, _, _, vs ++ [.ref xc], rfl, by rw [e4]; exact upd_same, ?_, k23.tr k4⟩
        rw [ringsL_succ, z, if_pos rfl, List.map_append]
        exact (hv3.kpS k4 hf1n).app (.cons ((hnR.old k2.tr_).kpS k4 hf1n) .nil)
  · obtain ⟨o2, o3, o4, vs, rfl, hf2, hv2, k2⟩ := hP
    refine ⟨.ref fp, rfl, q _ _ (Kp.drop hfH ((kH1.wk fun _ z => by cases z).tr k2)) ?_⟩
    intro S2 hS2
    have hn : fp ∉ S2 := fun z => hS2 _ z hfH
    exact .lst hn hf2 ((hv2.old kH1.tr_) S2 hS2)
def spLap (TB : Addr) : Sp := fun vs H Q _ => ∃ (S : List Addr) (v : V) (N : Net) (x : Nat), vs = [v, .int x] ∧ Dx S H v (netD N) ∧ NetOk N ∧ x < N.length ∧ GxR.TabG H TB ∧ ∀ v' H' d, Kp [] H H' → Nw H H' v' d → LapD N x d → Q v' H'
theorem ok_lap_of (T : Tx K mg a) (TB : GxR.TabB base mg a.cd_is_net a.tb_is_net) : FnOk P w K mg base CX0 9 a.a_lap_of a.f_lap_of ["net", "lamp"] (spLap a.tb_is_net) := by
  have G_way_of := ok_way_of (P := P) (w := w) (base := base) T TB
  refine T.lap_of.F.ok sc_lap_of (fun vs H Q E h => ?_) (fun cdv A outer s H vs Q E hr h => ?_)
  · obtain ⟨S, v, N, x, rfl, _⟩ := h
    rfl
  obtain ⟨S, v, N, x, rfl, hd, ok, hx, ht, q⟩ := h
  refine ⟨_, (pss_cons (ps_asg (pe_call G_way_of (hr.mono (by decide)) (by rfl) T.way_of.g T.way_of.F.kp T.way_of.b .nil pass0 (pa_cons (pv 0) (pa_cons (pv 1) pa_nil))) (pg_tup (by rfl) (pgs_cons (pg_name (i := 2) sc_lap_of.nd rfl (by first | exact .inl rfl | exact .inr rfl)) (pgs_cons (pg_name (i := 3) sc_lap_of.nd rfl (by first | exact .inl rfl | exact .inr rfl)) pgs_nil))))
      (pss_cons (ps_if (pt_not (pt_truth (pv 3) (by intro _; rfl))) (pss_one (ps_ret pe_non)) pss_nil)
      (pss_cons (ps_setLc (i := 4) (own := [("at", 5)]) (g := gName 5) (by rfl) sc_lap_of.nd rfl rfl (sw_true rfl rfl rfl (by decide +kernel)) (pi_tup (pv 3)) (blkOk_by (own := [("at", 5)]) (N := s_lap_of_N) (sc := defScope s_lap_of) (by decide +kernel)) (fun _ _ _ _ _ => (pg_name (i := 5) sc_lap_of.nd rfl (by first | exact .inl rfl | exact .inr rfl))) (fun _ _ _ _ _ => pts_nil) (fun _ _ _ _ _ => (pe_ix (ix_tupK (K := K) rfl) (pe_ix (ix_tupK (K := K) rfl) (pv 0) (pv 5) (fun _ _ => rfl)) pe_int (fun _ _ => rfl))))
      (pss_one (ps_ret (pe_tup (pa_cons (pe_callB (cr_sum rfl) (by rfl) T.n_sum (by decide +kernel) (pa_cons (pv 4) pa_nil)) (pa_cons (pe_callB (cr_max rfl) (by rfl) T.n_max (by decide +kernel) (pa_cons (pv 4) pa_nil)) pa_nil)))))))), ?_⟩
  refine ⟨v, rfl, .int x, rfl, S, v, N, x, rfl, hd, ok, hx, ht, fun vw H1 k1 nw => ?_⟩
  obtain ⟨xa, xb, xc, rfl, _, ha, hb, hc, _, _⟩ := way_at (nw [] fun _ z => by cases z)
  refine ⟨xa, _, rfl, SqT.of ha, rfl, _, _, rfl, _, _, rfl, rfl, ?_⟩
  have tru : TruV K (.ref xc) H1 (!decide (wayR N x = [])) := by
    refine .inr (.inl ⟨_, SqT.of hc, ?_⟩)
    cases wayR N x with
    | nil => rfl
    | cons _ _ => rfl
  refine ⟨.ref xc, rfl, _, tru, ?_⟩
  by_cases hne : wayR N x = []
  · rw [decide_eq_true hne]
    exact iteT (q .non H1 .none k1 .non (.inl ⟨hne, rfl⟩))
  rw [decide_eq_false hne]
  refine iteF ?_
  have hd1 : Dx S H1 v (netD N) := hd.kp k1 fun _ z => by cases z
  have hsub := way_sub ok hx
  -- lengths = [net[at][0] for at in ring]
  refine ⟨.ref xc, rfl, xc, rfl, ⟨_, SqT.of hc⟩, fun D nD => ?_⟩
  have lenR : (wayR N x).length ≤ 13 := by
    have := way_len ok x
    rw [natV_len, natV_len] at this
    omega
  have kD : ∀ l, Kp [] H1 (upd H1 D (.lst l)) := fun l => Kp.new nD
  refine lc_tup (xs := natV (wayR N x)) (fun j H' => H' = upd H1 D (.lst (((lensR N x).take j).map V.int))) ?_ (fun j H' _ e => ?_) (fun j y H' hy e => ?_) (fun H' e => ?_)
  · rfl
  · rw [e]
    exact SqT.of ((kD _).tup (by simp) hc)
  · rw [e]
    obtain ⟨z, hz, rfl⟩ : ∃ z : Nat, (wayR N x)[j]? = some z ∧ y = .int (z : Int) := by
      unfold natV at hy
      rw [List.getElem?_map] at hy
      cases q1 : (wayR N x)[j]? with
      | none => rw [q1] at hy; cases hy
      | some u => rw [q1] at hy; exact ⟨u, rfl, (Option.some.inj hy).symm⟩
    have hj := (List.getElem?_eq_some_iff.mp hz).1
    have hzN := hsub z (List.mem_of_getElem? hz)
    obtain ⟨p, hp⟩ : ∃ p, N[z]? = some p := ⟨N[z], List.getElem?_eq_getElem hzN⟩
    obtain ⟨ad, xs, rfl, _, h2, hl2, hat⟩ := net_at (hd1.kp (kD (((lensR N x).take j).map V.int)) fun _ z => by cases z)
    obtain ⟨la, hxl, _, h3⟩ := hat z p hp
    refine ⟨rfl, .ref ad, rfl, .int z, rfl, ad, xs, z, .ref la, rfl, rfl, SqT.of h2, atI_nat hxl, la, _, 0, .int p.1, rfl, rfl, SqT.of h3, atI_nat (j := 0) rfl, ?_⟩
    refine ⟨_, upd_same, Nat.lt_of_le_of_lt (m := 13) (by rw [List.length_map, List.length_take]; unfold lensR; rw [List.length_map]; omega) (by decide), ?_⟩
    rw [upd_upd]
    have e2 : (lensR N x)[j]? = some p.1 := by
      unfold lensR
      rw [List.getElem?_map, hz]
      show some (lenOf N z) = _
      rw [lenOf_get hp]
    have e3 : (lensR N x).take (j + 1) = (lensR N x).take j ++ [p.1] := by rw [List.take_add_one, e2]; rfl
    rw [e3, List.map_append]
    rfl
  · rw [e, natV_len, List.take_of_length_le (by unfold lensR; rw [List.length_map]; exact Nat.le_refl _)]
    have k2 := kD ((lensR N x).map V.int)
    have hD : (upd H1 D (.lst ((lensR N x).map V.int))) D = some (.lst ((lensR N x).map V.int)) := upd_same
    have hne2 : 0 < (lensR N x).length := by
      unfold lensR
      rw [List.length_map]
      exact List.length_pos_iff.mpr hne
    obtain ⟨H2, e2⟩ : ∃ H2, H2 = upd H1 D (.lst ((lensR N x).map V.int)) := ⟨_, rfl⟩
    rw [← e2] at k2 hD ⊢
    refine ⟨.ref D, rfl, D, lensR N x, rfl, SqL.of hD, .ref D, rfl, D, lensR N x, rfl, SqL.of hD, hne2, fun m hm1 hm2 => ?_⟩
    refine ⟨by show 2 ≤ sizeLine; decide, fun t nt => q _ _ _ (k1.tr (k2.tr (Kp.new nt))) (Nw.tup (k1.tr k2).tr_ nt (.cons (.int _) (.cons (.int _) .nil))) (.inr ⟨hne, m, hm1, hm2, rfl⟩)⟩
end

def fateV : Fate → List V
  | .lost b x g => [.str "lost", .int b, .int x, .int g]
  | .ended b x => [.str "ended", .int b, .int x]
  | .goes x b => [.str "goes", .int x, .int b]
theorem fateD_at {H : Hp} {v : V} {F : Fate} (h : Tu H v (fateD F)) : ∃ ra, v = .ref ra ∧ H ra = some (.tup (fateV F)) := by
  cases F with
  | lost b x g =>
    cases h with
    | @tup ra xs _ hx hs =>
      cases hs with | cons h1 hs => cases hs with | cons h2 hs => cases hs with | cons h3 hs => cases hs with | cons h4 hs => cases hs; cases h1; cases h2; cases h3; cases h4; exact ⟨ra, rfl, hx⟩
  | ended b x =>
    cases h with
    | @tup ra xs _ hx hs =>
      cases hs with | cons h1 hs => cases hs with | cons h2 hs => cases hs with | cons h3 hs => cases hs; cases h1; cases h2; cases h3; exact ⟨ra, rfl, hx⟩
  | goes x b =>
    cases h with
    | @tup ra xs _ hx hs =>
      cases hs with | cons h1 hs => cases hs with | cons h2 hs => cases hs with | cons h3 hs => cases hs; cases h1; cases h2; cases h3; exact ⟨ra, rfl, hx⟩

section
variable {P : Program} {w : World} {K : PySem.W.Frag} {mg : Str → Option Value} {base : Heap} {a : Ad}
/-- from which beat on what the flame of this fate burns comes again -/
def restF (N : Net) (p : Nat × Nat) : Fate → Int
  | .goes _ _ => p.1 + sumB N (wayA N p.2)
  | .lost t _ _ => if (p.1 : Int) < t then t else 0
  | .ended t _ => if (p.1 : Int) < t then t else 0
def spRestsFrom (TB TB4 : Addr) : Sp := fun vs H Q _ => ∃ (v u f : V) (N : Net) (p : Nat × Nat) (F : Fate), vs = [v, u, f] ∧ Tu H v (netD N) ∧ NetOk N ∧ Tu H u (kdD p) ∧ p.2 < N.length ∧ Tu H f (fateD F) ∧ GxR.TabG H TB ∧ GxR.TabG H TB4 ∧
  ∀ H', Kp [] H H' → Q (.int (restF N p F)) H'
theorem ok_rests_from (T : Tx K mg a) (TB : GxR.TabB base mg a.cd_is_net a.tb_is_net) (TB4 : GxR.TabB base mg a.cd_rests_from a.tb_rests_from) : FnOk P w K mg base CX0 11 a.a_rests_from a.f_rests_from ["net", "kindling", "fate"] (spRestsFrom a.tb_is_net a.tb_rests_from) := by
  have G_way_of := ok_way_of (P := P) (w := w) (base := base) T TB
  refine okC T.rests_from.F T.code_rests_from sc_rests_from (fun vs H Q E h => ?_) (fun A outer s H vs Q E hr h => ?_)
  · obtain ⟨v, u, f, N, p, F, rfl, _⟩ := h
    rfl
  obtain ⟨v, u, f, N, p, F, rfl, hn, ok, hu, hx, hf, ht, ht4, q⟩ := h
  refine ⟨_, (pss_cons (ps_asg (pv 1) (pg_tup (by rfl) (pgs_cons (pg_name (i := 3) sc_rests_from.nd rfl (by first | exact .inl rfl | exact .inr rfl)) (pgs_cons (pg_name (i := 4) sc_rests_from.nd rfl (by first | exact .inl rfl | exact .inr rfl)) pgs_nil))))
      (pss_cons (ps_if (pt_cmpR op_eq (pe_ix ix_tup (pv 2) pe_int (fun _ _ => rfl)) pe_str (nomark _)) (pss_cons (ps_asg (pe_call G_way_of (hr.mono (by decide)) (by rfl) T.way_of.g T.way_of.F.kp T.way_of.b .nil pass0 (pa_cons (pv 0) (pa_cons (pv 4) pa_nil))) (pg_tup (by rfl) (pgs_cons (pg_name (i := 5) sc_rests_from.nd rfl (by first | exact .inl rfl | exact .inr rfl)) (pgs_cons (pg_name (i := 6) sc_rests_from.nd rfl (by first | exact .inl rfl | exact .inr rfl)) pgs_nil))))
      (pss_one (ps_ret (pe_op op_add (pv 3) (pe_sumQ (k := 1) (hr.mono (by decide)) (by rfl) T.n_sum TB4 rfl ⟨rfl, rfl, by decide +kernel, by decide +kernel, by decide +kernel, free_by (by decide +kernel)⟩ (pv 5) (fun _ => rfl)))))) pss_nil)
      (pss_one (ps_ret (pe_ifExp (pt_cmpR op_gt (pe_ix ix_tup (pv 2) pe_int (fun _ _ => rfl)) (pv 3) (nomark _)) (pe_ix ix_tup (pv 2) pe_int (fun _ _ => rfl)) pe_int))))), ?_⟩
  obtain ⟨tk, rfl, htk⟩ := kd_tup hu
  obtain ⟨ra, rfl, hra⟩ := fateD_at hf
  refine ⟨.ref tk, rfl, tk, _, rfl, SqT.of htk, rfl, _, _, rfl, _, _, rfl, rfl, ?_⟩
  cases F with
  | goes z t =>
    refine ⟨.ref ra, rfl, ra, _, 0, .str "goes", rfl, rfl, SqT.of hra, rfl, rfl, _, rfl, iteT ?_⟩
    refine ⟨v, rfl, .int p.2, rfl, [], v, N, p.2, rfl, hn.dx0, ok, hx, ht, fun v1 H1 k1 nw => ?_⟩
    obtain ⟨wa, pa, pr, rfl, _, hwa, hpa, hpr, _, _⟩ := way_at (nw [] fun s z => by cases z)
    refine ⟨wa, _, rfl, SqT.of hwa, rfl, _, _, rfl, _, _, rfl, rfl, ?_⟩
    have hn1 := hn.kt k1.kt0
    have ht41 := k1.tab _ ht4
    obtain ⟨ad, xs, rfl, hx1, hl1, hat⟩ := tnet_at hn1
    refine ⟨.int p.1, rfl, .ref pa, rfl, pa, natV (wayA N p.2), ((wayA N p.2).map (burnOf N)).map V.int, [("net", .ref ad)], rfl, .inl (SqT.of hpa), ht41, fun y vy hy => ?_, ⟨by rw [List.length_map, List.length_map, natV_len], fun hd env OK hsc j xv bv hxj hbj => ?_⟩, (wayA N p.2).map (burnOf N), rfl, fun H2 hT => ?_⟩
    · by_cases ey : y = "net"
      · subst ey
        have e2 : V.ref ad = vy := by simpa [List.lookup] using hy
        subst e2
        exact ⟨by decide, by decide +kernel, by decide +kernel, 0, rfl, rfl, (by decide +kernel : (defScope s_rests_from).names.lookup _ = some .cell)⟩
      · have ey' : (y == ("net" : Str)) = false := by simpa using ey
        simp [List.lookup, ey'] at hy
    · obtain ⟨yy, hyy, rfl⟩ : ∃ f : Nat, (wayA N p.2)[j]? = some f ∧ xv = .int (f : Int) := by
        unfold natV at hxj
        rw [List.getElem?_map] at hxj
        cases q1 : (wayA N p.2)[j]? with
        | none => rw [q1] at hxj; cases hxj
        | some u => rw [q1] at hxj; exact ⟨u, rfl, (Option.some.inj hxj).symm⟩
      rw [List.getElem?_map, List.getElem?_map, hyy] at hbj
      obtain rfl : V.int (burnOf N yy) = bv := Option.some.inj hbj
      have hyl : yy < N.length := (path_been ok hx).lt yy (by rw [← way_cat]; exact List.mem_append_left _ (List.mem_of_getElem? hyy))
      obtain ⟨la, hxl, hla⟩ := hat yy _ (List.getElem?_eq_getElem hyl)
      have w1 : wipe H1 a.tb_rests_from ad = some (.tup xs) := wiped_tup ht41 hx1
      have w2 : wipe H1 a.tb_rests_from la = some (.tup [V.int (N[yy]'hyl).1, nxV (N[yy]'hyl).2]) := wiped_tup ht41 hla
      refine q_ixT (j := 0) (q_ixT (j := yy) (q_name rfl) (q_name rfl) (tupQ_of OK w1) hxl) q_int (tupQ_of OK w2) ?_
      rw [burnOf_get (List.getElem?_eq_getElem hyl)]
      rfl
    · have k2 : Kp [] H1 H2 := Kp.tabbed ht41 hT
      exact ⟨_, _, rfl, rfl, q H2 (k1.tr k2)⟩
  | lost t x g =>
    refine ⟨.ref ra, rfl, ra, _, 0, .str "lost", rfl, rfl, SqT.of hra, rfl, rfl, _, rfl, iteF ?_⟩
    refine ⟨.ref ra, rfl, ra, _, 1, .int t, rfl, rfl, SqT.of hra, rfl, .int p.1, rfl, _, _, rfl, rfl, _, rfl, ?_⟩
    have q0 := q H .rfl'
    by_cases e : (p.1 : Int) < t
    · have er : restF N p (.lost t x g) = t := if_pos e
      rw [er] at q0
      exact (decide_eq_true e).symm ▸ iteT ⟨.ref ra, rfl, ra, _, 1, .int t, rfl, rfl, SqT.of hra, rfl, q0⟩
    · have er : restF N p (.lost t x g) = 0 := if_neg e
      rw [er] at q0
      exact (decide_eq_false e).symm ▸ iteF q0
  | ended t x =>
    refine ⟨.ref ra, rfl, ra, _, 0, .str "ended", rfl, rfl, SqT.of hra, rfl, rfl, _, rfl, iteF ?_⟩
    refine ⟨.ref ra, rfl, ra, _, 1, .int t, rfl, rfl, SqT.of hra, rfl, .int p.1, rfl, _, _, rfl, rfl, _, rfl, ?_⟩
    have q0 := q H .rfl'
    by_cases e : (p.1 : Int) < t
    · have er : restF N p (.ended t x) = t := if_pos e
      rw [er] at q0
      exact (decide_eq_true e).symm ▸ iteT ⟨.ref ra, rfl, ra, _, 1, .int t, rfl, rfl, SqT.of hra, rfl, q0⟩
    · have er : restF N p (.ended t x) = 0 := if_neg e
      rw [er] at q0
      exact (decide_eq_false e).symm ▸ iteF q0
theorem goes_ok {N : Net} {ks : Kds} (o : NetOk N) (hk : KdsOk N ks) {R : List C4} (hR : Losses N ks R) {x : Nat} {t : Int} (h : Fate.goes x t ∈ fatesR N ks R) : x < N.length ∧ wayR N x ≠ [] := by
  obtain ⟨f, hf, e⟩ := List.getElem_of_mem h
  rw [fatesR_len] at hf
  have hp := List.getElem?_eq_getElem hf
  have hx := hk _ (List.getElem_mem hf)
  obtain ⟨e1, e2⟩ := fatesR_get o hk hR hp
  have e0 : (fatesR N ks R)[f]? = some (.goes x t) := by rw [List.getElem?_eq_getElem (by rw [fatesR_len]; exact hf), e]
  by_cases q : ∃ t x g, LostAt N ks t x f g
  · obtain ⟨t', x', g', hl⟩ := q
    rw [e1 t' x' g' hl] at e0
    cases e0
  · rw [e2 fun t x g hl => q ⟨t, x, g, hl⟩] at e0
    have e0 : fateA N ks[f] = .goes x t := Option.some.inj e0
    unfold fateA at e0
    split at e0
    · cases e0
    · rename_i hr
      cases e0
      have hm := (minN_mem hr).1
      have hm2 : minN (wayR N ks[f].2) ∈ path N ks[f].2 := by rw [← way_cat]; exact List.mem_append_right _ hm
      refine ⟨way_sub o hx _ hm, fun z => ?_⟩
      have := (wayR_own o hx hm2).mp hm
      rw [z] at this
      cases this
def spRestOf (TB TB2 TB3 TB4 : Addr) : Sp := fun vs H Q _ => ∃ (v : V) (N : Net) (kl : Addr) (ks : Kds), vs = [v, .ref kl] ∧ Tu H v (netD N) ∧ NetOk N ∧ LstOf H kl (ks.map kdD) ∧ KdsOk N ks ∧ ks.length ≤ 40 ∧ (∀ x, x < N.length → lapOf N x < 2 ^ 204) ∧ GxR.TabG H TB ∧ GxR.TabG H TB2 ∧ GxR.TabG H TB3 ∧ GxR.TabG H TB4 ∧
  ∀ tp H' (R : List C4) (first : Int), Losses N ks R → (ks = [] → first = 0) → (ks ≠ [] → (∃ f, f < ks.length ∧ first = restF N (ks.getD f (0, 0)) ((fatesR N ks R).getD f (.ended 0 0))) ∧ ∀ f, f < ks.length → restF N (ks.getD f (0, 0)) ((fatesR N ks R).getD f (.ended 0 0)) ≤ first) → H' tp = some (.tup [.int first, .int (againF N (fatesR N ks R))]) → H tp = none → Kp [] H H' → Q (.ref tp) H'
theorem ok_rest_of (T : Tx K mg a) (TB : GxR.TabB base mg a.cd_is_net a.tb_is_net) (TB2 : GxR.TabB base mg a.cd_lights_of a.tb_lights_of) (TB3 : GxR.TabB base mg a.cd_are_kindlings a.tb_are_kindlings) (TB4 : GxR.TabB base mg a.cd_rests_from a.tb_rests_from) : FnOk P w K mg base CX0 14 a.a_rest_of a.f_rest_of ["net", "kindlings"] (spRestOf a.tb_is_net a.tb_lights_of a.tb_are_kindlings a.tb_rests_from) := by
  have G_fates := ok_fates (P := P) (w := w) (base := base) T TB TB2 TB3
  have G_rests_from := ok_rests_from (P := P) (w := w) (base := base) T TB TB4
  have G_lap_of := ok_lap_of (P := P) (w := w) (base := base) T TB
  refine T.rest_of.F.ok sc_rest_of (fun vs H Q E h => ?_) (fun cdv A outer s H vs Q E hr h => ?_)
  · obtain ⟨v, N, kl, ks, rfl, _⟩ := h
    rfl
  obtain ⟨v, N, kl, ks, rfl, hn, ok, hkl, hk, h40, hlap, ht, ht2, ht3, ht4, q⟩ := h
  refine ⟨_, (pss_cons (ps_set (i := 2) sc_rest_of.nd rfl (by first | exact .inl rfl | exact .inr rfl) (pe_call G_fates (hr.mono (by decide)) (by rfl) T.fates.g T.fates.F.kp T.fates.b .nil pass0 (pa_cons (pv 0) (pa_cons (pv 1) pa_nil))))
      (C8.pss_cut (ps_set (i := 3) sc_rest_of.nd rfl (by first | exact .inl rfl | exact .inr rfl) (pe_callBK (cr_maxI rfl) (by rfl) T.n_max (by decide +kernel) (pa_cons (pe_lc (own := [("kindling", 4), ("fate", 5)]) (g := gTup K 2 (gCons (gName 4) (gCons (gName 5) (gNil)))) (by rfl) sc_rest_of.nd (pi_zip (by rfl) T.n_zip (pa_cons (pv 1) (pa_cons (pv 2) pa_nil))) (blkOk_by (own := [("kindling", 4), ("fate", 5)]) (N := s_rest_of_N) (sc := defScope s_rest_of) (by decide +kernel)) (fun _ _ _ _ _ => (pg_tupK (K := K) rfl (by rfl) (pgs_cons (pg_name (i := 4) sc_rest_of.nd rfl (by first | exact .inl rfl | exact .inr rfl)) (pgs_cons (pg_name (i := 5) sc_rest_of.nd rfl (by first | exact .inl rfl | exact .inr rfl)) pgs_nil)))) (fun _ _ _ _ _ => pts_nil) (fun _ _ _ _ _ => (pe_call G_rests_from (hr.mono (by decide)) (by rfl) T.rests_from.g T.rests_from.F.kp T.rests_from.b .nil pass0 (pa_cons (pv 0) (pa_cons (pv 4) (pa_cons (pv 5) pa_nil)))))) pa_nil) (pk_cons pe_int pk_nil)))
      (pss_cons (ps_set (i := 6) sc_rest_of.nd rfl (by first | exact .inl rfl | exact .inr rfl) pe_int)
      (pss_cons (ps_for PassesOwn.never rfl (pi_list (pv 2)) (pg_name (i := 5) sc_rest_of.nd rfl (by first | exact .inl rfl | exact .inr rfl)) (pss_one (ps_if (pt_cmpR op_eq (pe_ix ix_tup (pv 5) pe_int (fun _ _ => rfl)) pe_str (nomark _)) (pss_one (ps_set (i := 6) sc_rest_of.nd rfl (by first | exact .inl rfl | exact .inr rfl) (pe_callBfun cr_lcm (by rfl) T.n_lcm (pa_cons (pv 6) (pa_cons (pe_ix ix_tup (pe_call G_lap_of (hr.mono (by decide)) (by rfl) T.lap_of.g T.lap_of.F.kp T.lap_of.b .nil pass0 (pa_cons (pv 0) (pa_cons (pe_ix ix_tup (pv 5) pe_int (fun _ _ => rfl)) pa_nil))) pe_int (fun _ _ => rfl)) pa_nil))))) pss_nil)))
      (pss_one (ps_ret (pe_tup (pa_cons (pv 3) (pa_cons (pv 6) pa_nil))))))))), ?_⟩
  obtain ⟨kw, hkw, hkt⟩ := hkl
  have lkw : kw.length = ks.length := by rw [hkt.len, List.length_map]
  refine ⟨v, rfl, .ref kl, rfl, v, N, kl, kw, ks, rfl, hn, ok, hkw, hkt, hk, h40, ht, ht2, ht3, fun R l fw H1 hR nl hl1 hfw1 k1 => ?_⟩
  obtain ⟨FS, eFS⟩ : ∃ FS, FS = fatesR N ks R := ⟨_, rfl⟩
  have hfw1 : TuA H1 fw (FS.map fateD) := by rw [eFS]; exact hfw1
  have lFS : FS.length = ks.length := by rw [eFS, fatesR_len]
  have lfw : fw.length = ks.length := by rw [hfw1.len, List.length_map, lFS]
  have hkw1 := k1.lst (S := []) (by simp) hkw
  obtain ⟨rs, ers⟩ : ∃ rs : Nat → Int, rs = fun f => restF N (ks.getD f (0, 0)) (FS.getD f (.ended 0 0)) := ⟨_, rfl⟩
  obtain ⟨M1, eM1⟩ : ∃ M1 : L2.St → Hp → Prop, M1 = fun σ H2 => ∃ first : Int, σ = [some v, some (.ref kl), some (.ref l), some (.int first), none, none, none] ∧ (ks = [] → first = 0) ∧ (ks ≠ [] → (∃ f, f < ks.length ∧ first = rs f) ∧ ∀ f, f < ks.length → rs f ≤ first) ∧ Kp [] H1 H2 := ⟨_, rfl⟩
  refine ⟨M1, ?_, fun σ H2 hM => ?_⟩
  · refine ⟨.ref kl, rfl, .ref l, rfl, kl, l, kw, fw, rfl, SqL.of hkw1, SqL.of hl1, fun D nD => lc_it (walk_zip (K := K) (a := kl) (b := l) (xs := kw) (ys := fw) rfl) (fun i H' => H' D = some (.lst ((List.range i).map fun f => V.int (rs f))) ∧ Kp [] H1 H') ⟨upd_same, Kp.new nD⟩ (fun i H' _ hP => ?_) (fun i x H2 H3 hi hP hy => ?_) (fun H2 hP => ?_)⟩
    · exact ⟨SqL.of (hP.2.lst (by simp) hkw1), SqL.of (hP.2.lst (by simp) hl1)⟩
    · obtain ⟨hD, k2⟩ := hP
      obtain ⟨T1, x1, y1, rfl, nT, rfl, ex, ey⟩ := hy
      have k3 : Kp [] H2 (upd H2 T1 (.tup [x1, y1])) := Kp.new nT
      have hT : upd H2 T1 (.tup [x1, y1]) T1 = some (.tup [x1, y1]) := upd_same
      generalize upd H2 T1 (.tup [x1, y1]) = H3 at k3 hT ⊢
      have kk := k2.tr k3
      have k13 := k1.tr kk
      have ex : kw[i]? = some x1 := ex
      have ey : fw[i]? = some y1 := ey
      obtain ⟨d1, g1, g2⟩ := (hkt.kt k13.kt0).get ex
      obtain ⟨pz, hpz, rfl⟩ := mapd_get g1
      obtain ⟨d2, g3, g4⟩ := (hfw1.kt kk.kt0).get ey
      obtain ⟨Fz, hFz, rfl⟩ := mapd_get g3
      have hx := hk _ (List.mem_of_getElem? hpz)
      have hi' : i < ks.length := (List.getElem?_eq_some_iff.mp hpz).1
      have er : restF N pz Fz = rs i := by
        rw [ers]
        show _ = restF N (ks.getD i (0, 0)) (FS.getD i (.ended 0 0))
        rw [List.getD_eq_getElem?_getD, hpz, List.getD_eq_getElem?_getD, hFz]
        rfl
      refine ⟨T1, _, rfl, SqT.of hT, rfl, _, _, rfl, _, _, rfl, rfl, rfl, ?_⟩
      refine ⟨v, rfl, x1, rfl, y1, rfl, v, x1, y1, N, pz, Fz, rfl, hn.kt k13.kt0, ok, g2, hx, g4, k13.tab _ ht, k13.tab _ ht4, fun H4 k4 => ?_⟩
      have hD4 := (k3.tr k4).lst (S := []) (by simp) hD
      refine ⟨_, hD4, ?_, ?_, Kp.drop nD ((kk.tr k4).of0.tr (Kp.put (by simp) hD4 fun ps z => by cases z))⟩
      · rw [List.length_map, List.length_range]
        exact Nat.lt_of_le_of_lt (show i ≤ 40 by omega) (by decide)
      · rw [upd_same, List.range_succ, List.map_append, er]
        rfl
    · obtain ⟨hD, k2⟩ := hP
      have emin : min kw.length fw.length = ks.length := by omega
      rw [emin] at hD
      refine ⟨D, (List.range ks.length).map rs, .int 0, rfl, rfl, SqL.of (by rw [hD, List.map_map]; rfl), fun e0 => ?_, fun m hm1 hm2 => ?_⟩
      · have hks : ks = [] := by
          have := congrArg List.length e0
          rw [List.length_map, List.length_range] at this
          exact List.eq_nil_of_length_eq_zero this
        show M1 _ _
        rw [eM1]
        exact ⟨0, rfl, fun _ => rfl, fun z => absurd hks z, k2⟩
      · obtain ⟨f, hf, rfl⟩ := List.mem_map.mp hm1
        have hf := List.mem_range.mp hf
        show M1 _ _
        rw [eM1]
        refine ⟨_, rfl, fun z => ?_, fun _ => ⟨⟨f, hf, rfl⟩, fun g hg => hm2 _ (List.mem_map.mpr ⟨g, List.mem_range.mpr hg, rfl⟩)⟩, k2⟩
        rw [z] at hf
        exact absurd hf (Nat.not_lt_zero _)
  rw [eM1] at hM
  obtain ⟨first, rfl, c1, c2, k2⟩ := hM
  -- again = 1, for fate in told
  have hl2 := k2.lst (S := []) (by simp) hl1
  refine ⟨.ref l, rfl, l, rfl, ⟨_, SqL.of hl2⟩, for_list (xs := fw) (fun j σ H' => ∃ o5 : Option V, σ = [some v, some (.ref kl), some (.ref l), some (.int first), none, o5, some (.int (againF N (FS.take j)))] ∧ againF N (FS.take j) < 2 ^ (204 * j + 1) ∧ Kp [] H2 H') ⟨none, rfl, by show (1 : Nat) < 2; decide, .rfl'⟩ (fun j σ H' _ hP => ?_) (fun j z σ H3 hz hP => ?_) (fun σ H3 hP => ?_)⟩
  · obtain ⟨_, _, _, k⟩ := hP
    exact SqL.of (k.lst (by simp) hl2)
  · obtain ⟨o5, rfl, hb, k3⟩ := hP
    have k13 := k1.tr (k2.tr k3)
    obtain ⟨dd, g1, g2⟩ := (hfw1.kt (k2.tr k3).kt0).get hz
    obtain ⟨Fz, hFz, rfl⟩ := mapd_get g1
    obtain ⟨ra, rfl, hra⟩ := fateD_at g2
    have hj40 : j < 40 := by have := (List.getElem?_eq_some_iff.mp hFz).1; omega
    have etk : againF N (FS.take (j + 1)) = againS N (againF N (FS.take j)) Fz := by
      rw [List.take_add_one, hFz]
      unfold againF
      rw [List.foldl_append]
      rfl
    have hpow : (2 : Nat) ^ (204 * j + 1) ≤ 2 ^ (204 * (j + 1) + 1) := Nat.pow_le_pow_right (by decide) (by omega)
    cases Fz with
    | lost b x g => exact ⟨.ref ra, rfl, ra, _, 0, .str "lost", rfl, rfl, SqT.of hra, rfl, rfl, _, rfl, iteF ⟨_, by rw [etk]; rfl, by rw [etk]; show againF N (FS.take j) < _; omega, k3⟩⟩
    | ended b x => exact ⟨.ref ra, rfl, ra, _, 0, .str "ended", rfl, rfl, SqT.of hra, rfl, rfl, _, rfl, iteF ⟨_, by rw [etk]; rfl, by rw [etk]; show againF N (FS.take j) < _; omega, k3⟩⟩
    | goes x b =>
      obtain ⟨hx, hwr⟩ := goes_ok ok hk hR (x := x) (t := b) (by rw [← eFS]; exact List.mem_of_getElem? hFz)
      refine ⟨.ref ra, rfl, ra, _, 0, .str "goes", rfl, rfl, SqT.of hra, rfl, rfl, _, rfl, iteT ?_⟩
      refine ⟨.int (againF N (FS.take j)), rfl, v, rfl, .ref ra, rfl, ra, _, 1, .int x, rfl, rfl, SqT.of hra, rfl, [], v, N, x, rfl, (hn.kt k13.kt0).dx0, ok, hx, k13.tab _ ht, fun v' H4 dl k4 nw hl => ?_⟩
      rcases hl with ⟨z, _⟩ | ⟨_, mm, _, _, rfl⟩
      · exact absurd z hwr
      obtain ⟨ta, rfl, hta⟩ : ∃ ta : Addr, v' = .ref ta ∧ H4 ta = some (.tup [.int (lensR N x).sum, .int mm]) := by
        have h0 := nw [] fun s z => by cases z
        cases h0 with
        | tup n h r =>
          cases r with
          | cons r1 r => cases r with
            | cons r2 r => cases r; cases r1; cases r2; exact ⟨_, rfl, h⟩
      have elap : (lensR N x).sum = ((lapOf N x).toNat : Int) := by
        have h0 : 0 ≤ lapOf N x := lap_nonneg ok hx
        rw [Int.toNat_of_nonneg h0]
        rfl
      refine ⟨ta, _, 0, .int (lensR N x).sum, rfl, rfl, SqT.of hta, rfl, againF N (FS.take j), (lapOf N x).toNat, by rw [elap], ?_, ?_, ?_⟩
      · have : (2 : Nat) ^ (204 * j + 1) ≤ 2 ^ 13000 := Nat.pow_le_pow_right (by decide) (by omega)
        exact Nat.lt_of_lt_of_le hb this
      · have h1 := hlap x hx
        have h2 : (lapOf N x).toNat < 2 ^ 204 := by
          have : ((2 ^ 204 : Nat) : Int) = 2 ^ 204 := by decide
          omega
        exact Nat.lt_of_lt_of_le h2 (Nat.pow_le_pow_right (by decide) (by decide))
      · refine ⟨_, by rw [etk]; rfl, ?_, k3.tr k4⟩
        rw [etk]
        show (againF N (FS.take j)).lcm (lapOf N x).toNat < _
        have h1 := hlap x hx
        have h2 : (lapOf N x).toNat < 2 ^ 204 := by
          have : ((2 ^ 204 : Nat) : Int) = 2 ^ 204 := by decide
          omega
        have h3 := lcm_le_mul (againF N (FS.take j)) (lapOf N x).toNat
        have h4 : againF N (FS.take j) * (lapOf N x).toNat < 2 ^ (204 * j + 1) * 2 ^ 204 := Nat.mul_lt_mul'' hb h2
        rw [← Nat.pow_add] at h4
        have e5 : 204 * j + 1 + 204 = 204 * (j + 1) + 1 := by omega
        rw [e5] at h4
        exact Nat.lt_of_le_of_lt h3 h4
  · obtain ⟨o5, rfl, hb, k3⟩ := hP
    have lfw2 : fw.length = FS.length := by omega
    rw [lfw2, List.take_length] at hb ⊢
    refine ⟨.int first, rfl, .int (againF N FS), rfl, by show 2 ≤ sizeLine; decide, fun tp ntp => ?_⟩
    have k4 : Kp [] H3 (upd H3 tp (.tup [.int first, .int (againF N FS)])) := Kp.new ntp
    have kk := k1.tr (k2.tr (k3.tr k4))
    have nH : H tp = none := by
      cases z : H tp with
      | none => rfl
      | some o => exact absurd ntp ((k1.tr (k2.tr k3)).tr_ tp (by rw [z]; exact fun y => by cases y))
    refine q tp _ R first hR c1 (fun h => ?_) (by rw [← eFS]; exact upd_same) nH kk
    have := c2 h
    rw [ers, eFS] at this
    exact this
end

section
variable {P : Program} {w : World} {K : PySem.W.Frag} {mg : Str → Option Value} {base : Heap} {a : Ad}
def spBeatsOn : Sp := fun vs H Q _ => ∃ (fl rl : Addr) (FS : List Fate) (g : List Nat), vs = [.ref fl, .ref rl] ∧ LstOf H fl (FS.map fateD) ∧ FS.length ≤ 40 ∧ H rl = some (.tup (natV g)) ∧ g ≠ [] ∧ g.length ≤ 12 ∧
  ∀ l H', LstOf H' l ((FS.filterMap (beatE (minN g))).map PyData.int) → H l = none → Kp [] H H' → Q (.ref l) H'
theorem ok_beats_on_ring (T : Tx K mg a) : FnOk P w K mg base CX0 1 a.a_beats_on_ring a.f_beats_on_ring ["told", "ring"] spBeatsOn := by
  refine T.beats_on_ring.F.ok sc_beats_on_ring (fun vs H Q E h => ?_) (fun cdv A outer s H vs Q E hr h => ?_)
  · obtain ⟨fl, rl, FS, g, rfl, _⟩ := h
    rfl
  obtain ⟨fl, rl, FS, g, rfl, hfl, h40, hrl, hg, hg12, q⟩ := h
  refine ⟨_, (pss_cons (ps_set (i := 2) sc_beats_on_ring.nd rfl (by first | exact .inl rfl | exact .inr rfl) (pe_callB (cr_minT rfl) (by rfl) T.n_min (by decide +kernel) (pa_cons (pv 1) pa_nil)))
      (pss_one (ps_ret (pe_lc (own := [("fate", 3)]) (g := gName 3) (by rfl) sc_beats_on_ring.nd (pi_list (pv 0)) (blkOk_by (own := [("fate", 3)]) (N := s_beats_on_ring_N) (sc := defScope s_beats_on_ring) (by decide +kernel)) (fun _ _ _ _ _ => (pg_name (i := 3) sc_beats_on_ring.nd rfl (by first | exact .inl rfl | exact .inr rfl))) (fun _ _ _ _ _ => (pts_one (PW.pt (pw_and (pt_cmpR op_eq (pe_ix (ix_tupK (K := K) rfl) (pv 3) pe_int (fun _ _ => rfl)) pe_str (nomark _)) (pw_and1 (pt_cmpR op_eq (pe_ix (ix_tupK (K := K) rfl) (pv 3) pe_int (fun _ _ => rfl)) (pv 2) (nomark _))))))) (fun _ _ _ _ _ => (pe_ix (ix_tupK (K := K) rfl) (pv 3) pe_int (fun _ _ => rfl))))))), ?_⟩
  obtain ⟨fw, hfw, hft⟩ := hfl
  obtain ⟨hm, hle2⟩ : minN g ∈ g ∧ ∀ y ∈ g, minN g ≤ y := minN_mem hg
  rw [natV_ints] at hrl
  refine ⟨.ref rl, rfl, rl, _, rfl, SqT.of hrl, ?_, fun m hm hle2 => ?_⟩
  · rw [List.length_map]
    exact List.length_pos_iff.mpr hg
  have em := minN_of hm hle2
  subst em
  refine ⟨.ref fl, rfl, fl, rfl, ⟨_, SqL.of hfw⟩, fun D nD => lcf_list FS fateD PyData.int (beatE (minN g)) hfw hft nD (by omega) (fun i z x H' Q' R' hz hx hzt k qq nn => ?_) (fun ws H1 hD hws k1 => ?_)⟩
  · obtain ⟨ra, rfl, hra⟩ := fateD_at hzt
    cases z with
    | lost b y h => exact ⟨rfl, .ref ra, rfl, ra, _, 0, .str "lost", rfl, rfl, SqT.of hra, rfl, rfl, _, rfl, iteF (nn _ rfl .rfl')⟩
    | ended b y => exact ⟨rfl, .ref ra, rfl, ra, _, 0, .str "ended", rfl, rfl, SqT.of hra, rfl, rfl, _, rfl, iteF (nn _ rfl .rfl')⟩
    | goes y b =>
      refine ⟨rfl, .ref ra, rfl, ra, _, 0, .str "goes", rfl, rfl, SqT.of hra, rfl, rfl, _, rfl, iteT ⟨.ref ra, rfl, ra, _, 1, .int y, rfl, rfl, SqT.of hra, atI_nat (j := 1) rfl, .int (minN g : Nat), rfl, rfl, _, rfl, ?_⟩⟩
      by_cases e : y = minN g
      · rw [decide_eq_true (show V.int (y : Nat) = V.int (minN g : Nat) by rw [e])]
        exact iteT ⟨.ref ra, rfl, ra, _, 2, .int b, rfl, rfl, SqT.of hra, atI_nat (j := 2) rfl, qq b _ _ (by show (if y = minN g then some b else none) = _; rw [if_pos e]) .rfl' (.int _)⟩
      · rw [decide_eq_false (show ¬ V.int (y : Nat) = V.int (minN g : Nat) from fun q => e (by have := V.int.inj q; omega))]
        exact iteF (nn _ (by show (if y = minN g then some b else none) = _; rw [if_neg e]) .rfl')
  exact q D H1 ⟨ws, hD, hws⟩ nD k1
end

section
variable {P : Program} {w : World} {K : PySem.W.Frag} {mg : Str → Option Value} {base : Heap} {a : Ad}
/-- a lamp of a ring, of its greatest length, that goes into the lap -/
def CanP (N : Net) (x : Nat) : Prop := wayA N x = [] ∧ (∀ y ∈ lensR N x, y ≤ burnOf N x) ∧ burnOf N x ∣ (lensR N x).sum
def spCan (TB : Addr) : Sp := fun vs H Q _ => ∃ (v : V) (N : Net) (x : Nat), vs = [v, .int x] ∧ Tu H v (netD N) ∧ NetOk N ∧ x < N.length ∧ GxR.TabG H TB ∧ ∀ H' (b : Bool), (b = true ↔ CanP N x) → Kp [] H H' → Q (.bl b) H'
theorem ok_can_burn (T : Tx K mg a) (TB : GxR.TabB base mg a.cd_is_net a.tb_is_net) : FnOk P w K mg base CX0 10 a.a_can_burn a.f_can_burn ["net", "lamp"] (spCan a.tb_is_net) := by
  have G_way_of := ok_way_of (P := P) (w := w) (base := base) T TB
  have G_lap_of := ok_lap_of (P := P) (w := w) (base := base) T TB
  refine T.can_burn.F.ok sc_can_burn (fun vs H Q E h => ?_) (fun cdv A outer s H vs Q E hr h => ?_)
  · obtain ⟨v, N, x, rfl, _⟩ := h
    rfl
  obtain ⟨v, N, x, rfl, hn, ok, hx, ht, q⟩ := h
  refine ⟨_, (pss_cons (ps_asg (pe_call G_way_of (hr.mono (by decide)) (by rfl) T.way_of.g T.way_of.F.kp T.way_of.b .nil pass0 (pa_cons (pv 0) (pa_cons (pv 1) pa_nil))) (pg_tup (by rfl) (pgs_cons (pg_name (i := 2) sc_can_burn.nd rfl (by first | exact .inl rfl | exact .inr rfl)) (pgs_cons (pg_name (i := 3) sc_can_burn.nd rfl (by first | exact .inl rfl | exact .inr rfl)) pgs_nil))))
      (pss_cons (ps_if (pt_truth (pv 2) (by intro _; rfl)) (pss_one (ps_ret pe_bl)) pss_nil)
      (pss_cons (ps_asg (pe_call G_lap_of (hr.mono (by decide)) (by rfl) T.lap_of.g T.lap_of.F.kp T.lap_of.b .nil pass0 (pa_cons (pv 0) (pa_cons (pv 1) pa_nil))) (pg_tup (by rfl) (pgs_cons (pg_name (i := 4) sc_can_burn.nd rfl (by first | exact .inl rfl | exact .inr rfl)) (pgs_cons (pg_name (i := 5) sc_can_burn.nd rfl (by first | exact .inl rfl | exact .inr rfl)) pgs_nil))))
      (pss_one (ps_ret (pe_and (pe_cmpR op_eq (pe_ix ix_tup (pe_ix ix_tup (pv 0) (pv 1) (fun _ _ => rfl)) pe_int (fun _ _ => rfl)) (pv 5) (nomark _)) (pe_one (pe_cmpR op_eq (pe_op op_mod (pv 4) (pv 5)) pe_int (nomark _))))))))), ?_⟩
  refine ⟨v, rfl, .int x, rfl, [], v, N, x, rfl, hn.dx0, ok, hx, ht, fun v1 H1 k1 nw => ?_⟩
  obtain ⟨wa, pa, pr, rfl, _, hwa, hpa, hpr, _, _⟩ := way_at (nw [] fun s z => by cases z)
  refine ⟨wa, _, rfl, SqT.of hwa, rfl, _, _, rfl, _, _, rfl, rfl, ?_⟩
  cases hA : wayA N x with
  | cons z r =>
    refine ⟨.ref pa, rfl, true, .inr (.inl ⟨_, SqT.of hpa, ?_⟩), iteT ?_⟩
    · rw [hA]; rfl
    · exact q H1 false ⟨fun e => (by cases e), fun e => by have := e.1; rw [hA] at this; cases this⟩ k1
  | nil =>
    refine ⟨.ref pa, rfl, false, .inr (.inl ⟨_, SqT.of hpa, ?_⟩), iteF ?_⟩
    · rw [hA]; rfl
    have hn1 := hn.kt k1.kt0
    refine ⟨v, rfl, .int x, rfl, [], v, N, x, rfl, hn1.dx0, ok, hx, k1.tab _ ht, fun v2 H2 d k2 nw2 hd => ?_⟩
    have hR : wayR N x = path N x := ahead_path hA
    have hxR : x ∈ wayR N x := by
      rw [hR]
      obtain ⟨t, e⟩ := path_head N x
      rw [e]; exact List.mem_cons_self
    rcases hd with ⟨e, _⟩ | ⟨_, m, hm1, hm2, rfl⟩
    · rw [e] at hxR; cases hxR
    obtain ⟨ta, rfl, hta⟩ : ∃ ta : Addr, v2 = .ref ta ∧ H2 ta = some (.tup [.int (lensR N x).sum, .int m]) := by
      have := nw2 [] fun s z => by cases z
      cases this with
      | tup _ h r =>
        cases r with
        | cons r1 r => cases r with
          | cons r2 r => cases r; cases r1; cases r2; exact ⟨_, rfl, h⟩
    have hn2 := hn1.kt k2.kt0
    obtain ⟨ad, xs, rfl, hxs, _, hat⟩ := tnet_at hn2
    have hNx := List.getElem?_eq_getElem hx
    obtain ⟨la, hxl, hla⟩ := hat x _ hNx
    have eb : (N[x]'hx).1 = burnOf N x := (burnOf_get hNx).symm
    have hm0 : 0 < m := by
      obtain ⟨y, hy, rfl⟩ := List.mem_map.mp hm1
      have := burn_pos ok (way_sub ok hx y hy)
      exact this
    refine ⟨ta, _, rfl, SqT.of hta, rfl, _, _, rfl, _, _, rfl, rfl, ?_⟩
    refine ⟨.ref ad, rfl, .int x, rfl, ad, xs, x, .ref la, rfl, rfl, SqT.of hxs, atI_nat hxl, la, _, 0, .int (N[x]'hx).1, rfl, rfl, SqT.of hla, atI_nat (j := 0) rfl, .int m, rfl, rfl, ?_⟩
    refine ⟨_, rfl, ?_⟩
    have own : burnOf N x ∈ lensR N x := List.mem_map.mpr ⟨x, hxR, rfl⟩
    by_cases hbm : burnOf N x = m
    · rw [show decide (V.int (N[x]'hx).1 = V.int m) = true from decide_eq_true (by rw [eb, hbm])]
      refine iteT ⟨.int (lensR N x).sum, rfl, .int m, rfl, _, _, rfl, rfl, hm0, rfl, ?_⟩
      refine q H2 _ ?_ (k1.tr k2)
      rw [decide_eq_true_iff]
      constructor
      · intro e
        refine ⟨hA, fun y hy => by rw [hbm]; exact hm2 y hy, ?_⟩
        rw [hbm]
        exact Int.dvd_of_emod_eq_zero (V.int.inj e)
      · rintro ⟨_, _, h⟩
        rw [hbm] at h
        exact congrArg V.int (Int.emod_eq_zero_of_dvd h)
    · rw [show decide (V.int (N[x]'hx).1 = V.int m) = false from decide_eq_false fun e => hbm (by rw [← eb]; exact V.int.inj e)]
      refine iteF (q H2 false ⟨fun e => (by cases e), fun e => absurd ?_ hbm⟩ (k1.tr k2))
      have h1 := e.2.1 m hm1
      have h2 := hm2 _ own
      omega
end

section
variable {P : Program} {w : World} {K : PySem.W.Frag} {mg : Str → Option Value} {base : Heap} {a : Ad}
def spBeats : Sp := fun vs H Q _ => ∃ (N : Net) (ks : Kds) (rp : Addr) (rs : List V) (R : List C4), vs = [.ref rp] ∧ NetOk N ∧ KdsOk N ks ∧ Losses N ks R ∧ R.length ≤ 1600 ∧ H rp = some (.lst rs) ∧ TuA H rs (R.map c4D) ∧
  ∀ d H', H d = none → H' d = some (.dK (numK (·.1) R)) → Kp [] H H' → Q (.ref d) H'
theorem ok_beats_of_losses (T : Tx K mg a) : FnOk P w K mg base CX0 1 a.a_beats_of_losses a.f_beats_of_losses ["rows"] spBeats := by
  refine T.beats_of_losses.F.ok sc_beats_of_losses (fun vs H Q E h => ?_) (fun cdv A outer s H vs Q E hr h => ?_)
  · obtain ⟨N, ks, rp, rs, R, rfl, _⟩ := h
    rfl
  obtain ⟨N, ks, rp, rs, R, rfl, ok, hk, hR, h16, hrp, hrs, q⟩ := h
  refine ⟨_, (pss_one (ps_ret (pe_dc (own := [("beat", 1), ("_", 2), ("flame", 3)]) (g := gTup K 4 (gCons (gName 1) (gCons (gName 2) (gCons (gName 3) (gCons (gName 2) (gNil)))))) (by rfl) sc_beats_of_losses.nd (pi_list (pv 0)) (blkOk_by (own := [("beat", 1), ("_", 2), ("flame", 3)]) (N := s_beats_of_losses_N) (sc := defScope s_beats_of_losses) (by decide +kernel)) (fun _ _ _ _ _ => (pg_tupK (K := K) rfl (by rfl) (pgs_cons (pg_name (i := 1) sc_beats_of_losses.nd rfl (by first | exact .inl rfl | exact .inr rfl)) (pgs_cons (pg_name (i := 2) sc_beats_of_losses.nd rfl (by first | exact .inl rfl | exact .inr rfl)) (pgs_cons (pg_name (i := 3) sc_beats_of_losses.nd rfl (by first | exact .inl rfl | exact .inr rfl)) (pgs_cons (pg_name (i := 2) sc_beats_of_losses.nd rfl (by first | exact .inl rfl | exact .inr rfl)) pgs_nil)))))) (fun _ _ _ _ _ => pts_nil) (fun _ _ _ _ _ => (pv 3)) (fun _ _ _ _ _ => (pv 1))))), ?_⟩
  have hrl : rs.length = R.length := by rw [hrs.len, List.length_map]
  refine ⟨.ref rp, rfl, rp, rfl, ⟨_, SqL.of hrp⟩, fun D nD => dc_list (xs := rs) (fun i H' => H' D = some (.dK (numK (·.1) (R.take i))) ∧ Kp [] H H') ⟨upd_same, Kp.new nD⟩ (fun i H' _ hP => SqL.of (hP.2.lst (by simp) hrp)) (fun i x H' hx hP => ?_) (fun H' hP => ?_)⟩
  · obtain ⟨hD, k⟩ := hP
    obtain ⟨d, g1, g2⟩ := hrs.get hx
    obtain ⟨cc, hcc, rfl⟩ : ∃ cc, R[i]? = some cc ∧ d = c4D cc := by
      rw [List.getElem?_map] at g1
      cases q1 : R[i]? with
      | none => rw [q1] at g1; cases g1
      | some u => rw [q1] at g1; exact ⟨u, rfl, (Option.some.inj g1).symm⟩
    have hnd := losses_nd ok hk hR hcc
    obtain ⟨b, x, f, g⟩ := cc
    obtain ⟨tz, rfl, htz⟩ := tupI_at (g2.kt k.kt0)
    refine ⟨tz, _, rfl, SqT.of htz, rfl, _, _, rfl, _, _, rfl, _, _, rfl, _, _, rfl, rfl, rfl, ?_⟩
    refine ⟨.int f, rfl, .int b, rfl, _, Sum.inl (f : Int), rfl, hD, ?_, ?_, ?_⟩
    · unfold numK
      rw [List.length_map, List.length_take]
      exact Nat.lt_of_le_of_lt (show min i R.length ≤ 1600 by omega) (by decide)
    · rw [upd_same, putK_new (V.int b) (numK_none hnd), List.take_add_one, hcc]
      unfold numK
      rw [List.map_append]
      rfl
    · exact Kp.drop nD (k.of0.tr (Kp.put (by simp) hD fun ps z => by cases z))
  · obtain ⟨hD, k⟩ := hP
    rw [hrl, List.take_length] at hD
    exact q D H' nD hD k
end

section
variable {P : Program} {w : World} {K : PySem.W.Frag} {mg : Str → Option Value} {base : Heap} {a : Ad}
def spForEver (TB TB2 TB3 : Addr) : Sp := fun vs H Q _ => ∃ (v : V) (N : Net) (kl : Addr) (ks : Kds) (x : Nat), vs = [v, .ref kl, .int x] ∧ Tu H v (netD N) ∧ NetOk N ∧ LstOf H kl (ks.map kdD) ∧ KdsOk N ks ∧ ks.length ≤ 40 ∧ Short N ∧ x < N.length ∧ GxR.TabG H TB ∧ GxR.TabG H TB2 ∧ GxR.TabG H TB3 ∧
  ∀ H' (b : Bool), (b = true → wayA N x = [] ∧ ∃ T, ∀ t, T ≤ t → LitN N ks x t) → (b = true → ∀ R, Losses N ks R → ((goX N ks R x).length : Int) * burnOf N x = lapOf N x) → (b = false → ∀ T, ∃ t, T ≤ t ∧ ¬ LitN N ks x t) → Kp [] H H' → Q (.bl b) H'
theorem ok_burns_for_ever (T : Tx K mg a) (TB : GxR.TabB base mg a.cd_is_net a.tb_is_net) (TB2 : GxR.TabB base mg a.cd_lights_of a.tb_lights_of) (TB3 : GxR.TabB base mg a.cd_are_kindlings a.tb_are_kindlings) : FnOk P w K mg base CX0 14 a.a_burns_for_ever a.f_burns_for_ever ["net", "kindlings", "lamp"] (spForEver a.tb_is_net a.tb_lights_of a.tb_are_kindlings) := by
  have G_way_of := ok_way_of (P := P) (w := w) (base := base) T TB
  have G_lap_of := ok_lap_of (P := P) (w := w) (base := base) T TB
  have G_fates := ok_fates (P := P) (w := w) (base := base) T TB TB2 TB3
  have G_beats_on_ring := ok_beats_on_ring (P := P) (w := w) (base := base) T
  refine T.burns_for_ever.F.ok sc_burns_for_ever (fun vs H Q E h => ?_) (fun cdv A outer s H vs Q E hr h => ?_)
  · obtain ⟨v, N, kl, ks, x, rfl, _⟩ := h
    rfl
  obtain ⟨v, N, kl, ks, x, rfl, hn, ok, hkl, hk, h40, sh, hx, ht, ht2, ht3, q⟩ := h
  refine ⟨_, (pss_cons (ps_asg (pe_call G_way_of (hr.mono (by decide)) (by rfl) T.way_of.g T.way_of.F.kp T.way_of.b .nil pass0 (pa_cons (pv 0) (pa_cons (pv 2) pa_nil))) (pg_tup (by rfl) (pgs_cons (pg_name (i := 3) sc_burns_for_ever.nd rfl (by first | exact .inl rfl | exact .inr rfl)) (pgs_cons (pg_name (i := 4) sc_burns_for_ever.nd rfl (by first | exact .inl rfl | exact .inr rfl)) pgs_nil))))
      (pss_cons (ps_if (pt_truth (pv 3) (by intro _; rfl)) (pss_one (ps_ret pe_bl)) pss_nil)
      (pss_cons (ps_set (i := 5) sc_burns_for_ever.nd rfl (by first | exact .inl rfl | exact .inr rfl) (pe_call G_beats_on_ring (hr.mono (by decide)) (by rfl) T.beats_on_ring.g T.beats_on_ring.F.kp T.beats_on_ring.b .nil pass0 (pa_cons (pe_call G_fates (hr.mono (by decide)) (by rfl) T.fates.g T.fates.F.kp T.fates.b .nil pass0 (pa_cons (pv 0) (pa_cons (pv 1) pa_nil))) (pa_cons (pv 4) pa_nil))))
      (pss_one (ps_ret (pe_cmpR (op_eqD hr.units) (pe_op op_mulW (pe_callB call_len_seq (by rfl) T.n_len (by decide +kernel) (pa_cons (pv 5) pa_nil)) (pe_ix ix_tup (pe_ix ix_tup (pv 0) (pv 2) (fun _ _ => rfl)) pe_int (fun _ _ => rfl))) (pe_ix ix_tup (pe_call G_lap_of (hr.mono (by decide)) (by rfl) T.lap_of.g T.lap_of.F.kp T.lap_of.b .nil pass0 (pa_cons (pv 0) (pa_cons (pv 2) pa_nil))) pe_int (fun _ _ => rfl)) (nomark _))))))), ?_⟩
  refine ⟨v, rfl, .int x, rfl, [], v, N, x, rfl, hn.dx0, ok, hx, ht, fun v1 H1 k1 nw => ?_⟩
  obtain ⟨wa, pa, pr, rfl, _, hwa, hpa, hpr, _, _⟩ := way_at (nw [] fun s z => by cases z)
  refine ⟨wa, _, rfl, SqT.of hwa, rfl, _, _, rfl, _, _, rfl, rfl, ?_⟩
  cases hA : wayA N x with
  | cons z r =>
    refine ⟨.ref pa, rfl, true, .inr (.inl ⟨_, SqT.of hpa, ?_⟩), iteT ?_⟩
    · rw [hA]; rfl
    · exact q H1 false (fun e => by cases e) (fun e => by cases e) (fun _ => ever_off ok hk hx (by rw [hA]; exact fun e => by cases e)) k1
  | nil =>
    refine ⟨.ref pa, rfl, false, .inr (.inl ⟨_, SqT.of hpa, ?_⟩), iteF ?_⟩
    · rw [hA]; rfl
    have hR : wayR N x = path N x := ahead_path hA
    have hxx : x ∈ wayR N x := by
      rw [hR]
      obtain ⟨t, e⟩ := path_head N x
      rw [e]; exact List.mem_cons_self
    have hRne : wayR N x ≠ [] := fun e => by rw [e] at hxx; cases hxx
    have hn1 := hn.kt k1.kt0
    obtain ⟨kw, hkw, hkt⟩ := hkl.kp0 k1
    refine ⟨v, rfl, .ref kl, rfl, v, N, kl, kw, ks, rfl, hn1, ok, hkw, hkt, hk, h40, k1.tab _ ht, k1.tab _ ht2, k1.tab _ ht3, fun R l fw H2 hRR nl hl2 hfw2 k2 => ?_⟩
    have hFS : LstOf H2 l ((fatesR N ks R).map fateD) := ⟨fw, hl2, hfw2⟩
    have h12 := ok.hi
    refine ⟨.ref pr, rfl, l, pr, fatesR N ks R, wayR N x, rfl, hFS, by rw [fatesR_len]; exact h40, k2.kt0 _ _ hpr, hRne, ?_, fun l3 H3 hl3 nl3 k3 => ?_⟩
    · rw [hR]
      have := (path_been ok hx).le
      omega
    obtain ⟨gw, hgw, hgt⟩ := hl3
    have hcnt : gw.length = (goX N ks R x).length := by
      rw [hgt.len, List.length_map, ← goX_len]
      first | done | exact congrArg (fun h : Fate → Option Int => ((fatesR N ks R).filterMap h).length) (funext fun F => by cases F <;> rfl)
    have hc40 : (goX N ks R x).length ≤ 40 := by
      rw [← goX_len]
      have := List.length_filterMap_le (beatE (minN (wayR N x))) (fatesR N ks R)
      rw [fatesR_len] at this
      omega
    have k23 := k2.tr k3
    have hn3 := hn1.kt k23.kt0
    obtain ⟨ad, xs, rfl, hxs, _, hat⟩ := tnet_at hn3
    have hNx := List.getElem?_eq_getElem hx
    obtain ⟨la, hxl, hla⟩ := hat x _ hNx
    have eb : (N[x]'hx).1 = burnOf N x := (burnOf_get hNx).symm
    have hb1 := burn_pos ok hx
    have hb60 : burnOf N x < 10 ^ 60 := by
      rw [← eb]
      exact sh _ (List.getElem_mem hx)
    refine ⟨.ref l3, rfl, l3, gw, rfl, .inl (SqL.of hgw), .ref ad, rfl, .int x, rfl, ad, xs, x, .ref la, rfl, rfl, SqT.of hxs, atI_nat hxl, la, _, 0, .int (N[x]'hx).1, rfl, rfl, SqT.of hla, atI_nat (j := 0) rfl, _, _, rfl, rfl, ?_, ?_⟩
    · refine wide_mul (a := 20) (b := 200) (by omega) ?_ (by decide) (by decide) (by decide)
      have : (10 : Int) ^ 60 < 2 ^ 200 := by decide
      omega
    refine ⟨.ref ad, rfl, .int x, rfl, [], .ref ad, N, x, rfl, hn3.dx0, ok, hx, (k1.tr k23).tab _ ht, fun v2 H4 d k4 nw2 hd => ?_⟩
    rcases hd with ⟨e, _⟩ | ⟨_, m, hm1, hm2, rfl⟩
    · exact absurd e hRne
    obtain ⟨ta, rfl, hta⟩ : ∃ ta : Addr, v2 = .ref ta ∧ H4 ta = some (.tup [.int (lensR N x).sum, .int m]) := by
      have := nw2 [] fun s z => by cases z
      cases this with
      | tup _ h r =>
        cases r with
        | cons r1 r => cases r with
          | cons r2 r => cases r; cases r1; cases r2; exact ⟨_, rfl, h⟩
    have elap : (lensR N x).sum = lapOf N x := rfl
    refine ⟨ta, _, 0, .int (lensR N x).sum, rfl, rfl, SqT.of hta, atI_nat (j := 0) rfl, .int ((gw.length : Nat) * (N[x]'hx).1), .int (lensR N x).sum, .int _, .int _, rfl, rfl, ?_⟩
    obtain ⟨ln, hln⟩ := Int.eq_ofNat_of_zero_le (show 0 ≤ burnOf N x by omega)
    obtain ⟨Ln, hLn⟩ := Int.eq_ofNat_of_zero_le (lap_nonneg ok hx)
    obtain ⟨ev1, ev2⟩ := ever_iff ok hk hRR hx hA hln hLn
    have k14 := k1.tr (k23.tr k4)
    have e0 : PyData.eqv (.int (((gw.length : Nat) : Int) * (N[x]'hx).1)) (.int (lensR N x).sum) = decide ((goX N ks R x).length * ln = Ln) := by
      show (((gw.length : Nat) : Int) * (N[x]'hx).1 == (lensR N x).sum) = _
      rw [hcnt, eb, hln, elap, hLn, ← Int.natCast_mul]
      by_cases q : (goX N ks R x).length * ln = Ln
      · rw [decide_eq_true q, q]
        exact beq_self_eq_true _
      · rw [decide_eq_false q, beq_eq_false_iff_ne]
        exact fun z => q (Int.ofNat.inj z)
    rw [e0]
    refine q H4 _ (fun e => ⟨hA, ev1 (of_decide_eq_true e)⟩) (fun e R' hR' => ?_) (fun e => ev2 (of_decide_eq_false e)) k14
    obtain rfl := losses_one hRR hR'
    rw [hln, hLn, ← of_decide_eq_true e, Int.natCast_mul]
/-- when a flame is lost, by the dict of the losses -/
def lostV (R : List C4) (f : Nat) : PyData := match valV (numK (·.1) R) (Sum.inl (f : Int) : Key) with
  | some (.int t) => .int t
  | _ => .none
/-- first lightings of a lamp, with when the flame is lost -/
def spanR (N : Net) (ks : Kds) (R : List C4) (x f : Nat) : Option (Int × PyData) := (ks[f]?).bind fun p => if x ∈ path N p.2 then some (frstOf N p.1 p.2 x, lostV R f) else none
def spanD (z : Int × PyData) : PyData := .tuple [.int z.1, z.2]
def spSpans (TB TB2 : Addr) : Sp := fun vs H Q _ => ∃ (v : V) (N : Net) (kl : Addr) (kw : List V) (ks : Kds) (x : Nat), vs = [v, .ref kl, .int x] ∧ Tu H v (netD N) ∧ NetOk N ∧ H kl = some (.lst kw) ∧ TuA H kw (ks.map kdD) ∧ KdsOk N ks ∧ ks.length ≤ 40 ∧ x < N.length ∧ GxR.TabG H TB ∧ GxR.TabG H TB2 ∧
  ∀ l H' R, Losses N ks R → LstOf H' l (((List.range ks.length).filterMap (spanR N ks R x)).map spanD) → H l = none → Kp [] H H' → Q (.ref l) H'
theorem ok_spans_of_lightings (T : Tx K mg a) (TB : GxR.TabB base mg a.cd_is_net a.tb_is_net) (TB2 : GxR.TabB base mg a.cd_lights_of a.tb_lights_of) : FnOk P w K mg base CX0 13 a.a_spans_of_lightings a.f_spans_of_lightings ["net", "kindlings", "lamp"] (spSpans a.tb_is_net a.tb_lights_of) := by
  have G_lights_of_all := ok_lights_of_all (P := P) (w := w) (base := base) T TB TB2
  have G_losses_by_lights := ok_losses_by_lights (P := P) (w := w) (base := base) T
  have G_beats_of_losses := ok_beats_of_losses (P := P) (w := w) (base := base) T
  refine T.spans_of_lightings.F.ok sc_spans_of_lightings (fun vs H Q E h => ?_) (fun cdv A outer s H vs Q E hr h => ?_)
  · obtain ⟨v, N, kl, kw, ks, x, rfl, _⟩ := h
    rfl
  obtain ⟨v, N, kl, kw, ks, x, rfl, hn, ok, hkw, hkt, hk, h40, hx, ht, ht2, q⟩ := h
  have hu := hu_of hr
  refine ⟨_, (pss_cons (ps_set (i := 3) sc_spans_of_lightings.nd rfl (by first | exact .inl rfl | exact .inr rfl) (pe_call G_lights_of_all (hr.mono (by decide)) (by rfl) T.lights_of_all.g T.lights_of_all.F.kp T.lights_of_all.b .nil pass0 (pa_cons (pv 0) (pa_cons (pv 1) pa_nil))))
      (pss_cons (ps_set (i := 4) sc_spans_of_lightings.nd rfl (by first | exact .inl rfl | exact .inr rfl) (pe_call G_beats_of_losses (hr.mono (by decide)) (by rfl) T.beats_of_losses.g T.beats_of_losses.F.kp T.beats_of_losses.b .nil pass0 (pa_cons (pe_call G_losses_by_lights (hr.mono (by decide)) (by rfl) T.losses_by_lights.g T.losses_by_lights.F.kp T.losses_by_lights.b .nil pass0 (pa_cons (pv 0) (pa_cons (pv 3) pa_nil))) pa_nil)))
      (pss_one (ps_ret (pe_lc (own := [("flame", 5), ("own", 6)]) (g := gTup K 2 (gCons (gName 5) (gCons (gName 6) (gNil)))) (by rfl) sc_spans_of_lightings.nd (pi_enum (by rfl) T.n_enumerate (pa_cons (pv 3) pa_nil)) (blkOk_by (own := [("flame", 5), ("own", 6)]) (N := s_spans_of_lightings_N) (sc := defScope s_spans_of_lightings) (by decide +kernel)) (fun _ _ _ _ _ => (pg_tupK (K := K) rfl (by rfl) (pgs_cons (pg_name (i := 5) sc_spans_of_lightings.nd rfl (by first | exact .inl rfl | exact .inr rfl)) (pgs_cons (pg_name (i := 6) sc_spans_of_lightings.nd rfl (by first | exact .inl rfl | exact .inr rfl)) pgs_nil)))) (fun _ _ _ _ _ => (pts_one (pt_cmp (pc_din hu (pv 2) (pv 6))))) (fun _ _ _ _ _ => (pe_tup (pa_cons (pe_ix (ix_tupK (K := K) rfl) (pe_dget hu (pv 6) (pv 2) (fun _ _ => rfl)) pe_int (fun _ _ => rfl)) (pa_cons (pe_dget1 hu (pv 4) (pv 5) ⟨rfl, rfl, rfl, rfl⟩) pa_nil))))))))), ?_⟩
  refine ⟨v, rfl, .ref kl, rfl, v, N, kl, kw, ks, rfl, hn, ok, hkw, hkt, hk, h40, ht, ht2, fun c ds H2 hN2 => ?_⟩
  have k12 := hN2.kp
  have hL2 := hN2.lts
  have hdl : ds.length = ks.length := by rw [hL2.len]; exact List.length_map _
  -- lost_at = beats_of_losses(losses_by_lights(net, lights))
  refine ⟨v, rfl, .ref c, rfl, v, N, c, ds, ks, rfl, hn.kt k12.kt0, ok, hk, h40, hL2, fun R l rs H3 hR hRl nl hl3 hrs3 k3 => ?_⟩
  refine ⟨N, ks, l, rs, R, rfl, ok, hk, hR, hRl, hl3, hrs3, fun la H4 nla hla k4 => ?_⟩
  have k24 := k3.tr k4
  have k14 := k12.tr k24
  have hL4 := hL2.kp0 k24
  refine ⟨.ref c, rfl, c, ds.map V.ref, rfl, SqL.of hL4.top, fun D nD => lc_it (walk_enum (K := K) (a := c) (xs := ds.map V.ref)) (fun i H' => ∃ ws, H' D = some (.lst ws) ∧ TuA H' ws (((List.range i).filterMap (spanR N ks R x)).map spanD) ∧ Kp [] H4 H') ⟨[], upd_same, .nil, Kp.new nD⟩ (fun i H' _ hP => ?_) (fun i z H6 H7 hi hP hY => ?_) (fun H' hP => ?_)⟩
  · obtain ⟨_, _, _, k⟩ := hP
    exact SqL.of (k.lst (by simp) hL4.top)
  · obtain ⟨ws, hD, hws, k5⟩ := hP
    obtain ⟨T1, x1, y1, rfl, nT, rfl, ex, ey⟩ := hY
    cases ex
    have ey : (ds.map V.ref)[i]? = some y1 := ey
    have hi : i < ds.length := by
      have := (List.getElem?_eq_some_iff.mp ey).1
      rw [List.length_map] at this
      exact this
    rw [hdl] at hi
    have hp := List.getElem?_eq_getElem hi
    obtain ⟨pk, epk⟩ : ∃ pk, pk = ks[i] := ⟨_, rfl⟩
    rw [← epk] at hp
    have hxl := hk pk (List.mem_of_getElem? hp)
    obtain ⟨d, r, hd, hv, hdd, hll⟩ := (hL4.kp0 k5).get hp
    rw [hv] at ey
    cases ey
    have k7 : Kp [] H6 (upd H6 T1 (.tup [.int (i : Nat), .ref d])) := Kp.new nT
    have hT7 : upd H6 T1 (.tup [.int (i : Nat), .ref d]) T1 = some (.tup [.int (i : Nat), .ref d]) := upd_same
    generalize upd H6 T1 (.tup [.int (i : Nat), .ref d]) = H7 at k7 hT7 ⊢
    have hdd7 : H7 d = some (.dK r) := k7.at_ d _ (by simp) hdd fun _ z => by cases z
    have hll7 := hll.kt k7.kt0
    have hla7 : H7 la = some (.dK (numK (·.1) R)) := (k5.tr k7).at_ la _ (by simp) hla fun _ z => by cases z
    have hD7 := k7.lst (by simp) hD
    have stp : (List.range (i + 1)).filterMap (spanR N ks R x) = (List.range i).filterMap (spanR N ks R x) ++ (spanR N ks R x i).toList := by
      rw [List.range_succ, List.filterMap_append]
      show _ ++ [i].filterMap (spanR N ks R x) = _
      rw [List.filterMap_cons]
      cases spanR N ks R x i <;> rfl
    have hwl : ws.length ≤ 40 := by
      rw [hws.len, List.length_map]
      have := List.length_filterMap_le (spanR N ks R x) (List.range i)
      rw [List.length_range] at this
      omega
    refine ⟨T1, _, rfl, SqT.of hT7, rfl, _, _, rfl, _, _, rfl, rfl, rfl, ?_⟩
    refine ⟨.int x, rfl, .ref d, rfl, d, _, rfl, DGet.k (k := Sum.inl (x : Int)) hdd7, _, rfl, ?_⟩
    rcases hll7.val (y := x) with ⟨e2, e3⟩ | ⟨w, vw, e2, e3, e4⟩
    · rw [e3]
      have hnp : x ∉ path N pk.2 := fun hm => by
        obtain ⟨lp, h⟩ := look_frst ok hxl (pk.1 : Int) hm
        rw [h] at e2
        cases e2
      refine iteF ⟨ws, hD7, ?_, k5.tr k7⟩
      have e0 : spanR N ks R x i = none := by
        unfold spanR
        rw [hp]
        show (if _ then _ else _) = _
        rw [if_neg hnp]
      rw [stp, e0]
      show TuA _ _ ((_ ++ []).map spanD)
      rw [List.append_nil]
      exact hws.kt k7.kt0
    · rw [e3]
      have hmp : x ∈ path N pk.2 := by
        refine Classical.byContradiction fun hm => ?_
        have := look_none (L := lightsL N (pk.1 : Int) pk.2) (y := x) (by rw [lights_fst]; exact hm)
        rw [this] at e2
        cases e2
      obtain ⟨lp, hlk⟩ := look_frst ok hxl (pk.1 : Int) hmp
      have ew : w = (frstOf N pk.1 pk.2 x, lp) := by
        rw [hlk] at e2
        exact (Option.some.inj e2).symm
      obtain ⟨tl, rfl, htl⟩ := lgt_at e4
      have hget : DGet H7 d (.int (x : Int)) (some (.ref tl)) := by
        have z := DGet.k (k := (Sum.inl (x : Int) : Key)) hdd7
        rw [e3] at z
        exact z
      refine iteT ⟨.ref d, rfl, .int x, rfl, d, .ref tl, rfl, hget, tl, _, 0, .int w.1, rfl, rfl, SqT.of htl, rfl, .ref la, rfl, la, rfl, ?_, .int i, rfl, _, DGet.k (k := Sum.inl (i : Int)) hla7, by show 2 ≤ sizeLine; decide, fun tn ntn => ?_⟩
      · exact .inl ⟨_, .inl hla7⟩
      · have k8 : Kp [] H7 (upd H7 tn (.tup [.int w.1, (valV (numK (·.1) R) (Sum.inl (i : Int) : Key)).getD .non])) := Kp.new ntn
        have htn : upd H7 tn (.tup [.int w.1, (valV (numK (·.1) R) (Sum.inl (i : Int) : Key)).getD .non]) tn = some (.tup [.int w.1, (valV (numK (·.1) R) (Sum.inl (i : Int) : Key)).getD .non]) := upd_same
        generalize upd H7 tn (.tup [.int w.1, (valV (numK (·.1) R) (Sum.inl (i : Int) : Key)).getD .non]) = H8 at k8 htn ⊢
        have hD8 := k8.lst (by simp) hD7
        have k9 : Kp [D] H8 (upd H8 D (.lst (ws ++ [.ref tn]))) := Kp.put (by simp) hD8 fun ps z => by cases z
        have t9 : Kt H8 (upd H8 D (.lst (ws ++ [.ref tn]))) := Kt.put hD8 fun _ z => by cases z
        refine ⟨ws, hD8, Nat.lt_of_le_of_lt hwl (by decide), ws ++ [.ref tn], upd_same, ?_, Kp.drop nD ((k5.tr (k7.tr k8)).of0.tr k9)⟩
        have e0 : spanR N ks R x i = some (frstOf N pk.1 pk.2 x, lostV R i) := by
          unfold spanR
          rw [hp]
          show (if _ then _ else _) = _
          rw [if_pos hmp]
        rw [stp, e0, List.map_append]
        refine (hws.kt (k7.kt0.tr (k8.kt0.tr t9))).app (.cons (.tup (t9 _ _ htn) (.cons ?_ (.cons ?_ .nil))) .nil)
        · rw [ew]; exact .int _
        · show Tu _ _ (lostV R i)
          unfold lostV
          rcases beat_in ok hk hR i with ⟨tl, xl, gl, hlo, hv⟩ | ⟨hno, hv⟩
          · rw [hv]; exact .int _
          · rw [hv]; exact .non
  · obtain ⟨ws, hD, hws, k⟩ := hP
    rw [List.length_map, hdl] at hws
    have nDH : H D = none := by
      cases z : H D with
      | none => rfl
      | some o => exact absurd nD (k14.tr_ D (by rw [z]; exact fun y => by cases y))
    exact q D H' R hR ⟨ws, hD, hws⟩ nDH (k14.tr k)
def spLitBy : Sp := fun vs H Q _ => ∃ (sl : Addr) (L : List (Int × PyData)) (l lap b : Int), vs = [.ref sl, .int l, .int lap, .int b] ∧ LstOf H sl (L.map spanD) ∧ L.length ≤ 40 ∧ (∀ z ∈ L, z.2 = .none ∨ ∃ t : Int, z.2 = .int t) ∧ 0 < lap ∧
  ∀ H' (r : Bool), (r = true ↔ ∃ z ∈ L, z.1 ≤ b ∧ (b - z.1) % lap < l ∧ (z.2 = .none ∨ ∃ t : Int, z.2 = .int t ∧ b < t)) → Kp [] H H' → Q (.bl r) H'
theorem ok_is_lit_by (T : Tx K mg a) : FnOk P w K mg base CX0 1 a.a_is_lit_by a.f_is_lit_by ["spans", "length", "lap", "beat"] spLitBy := by
  refine T.is_lit_by.F.ok sc_is_lit_by (fun vs H Q E h => ?_) (fun cdv A outer s H vs Q E hr h => ?_)
  · obtain ⟨sl, L, l, lap, b, rfl, _⟩ := h
    rfl
  obtain ⟨sl, L, l, lap, b, rfl, hsl, h40, hz2, hlap, q⟩ := h
  refine ⟨_, (pss_cons (ps_for PassesOwn.never rfl (pi_list (pv 0)) (pg_tup (by rfl) (pgs_cons (pg_name (i := 4) sc_is_lit_by.nd rfl (by first | exact .inl rfl | exact .inr rfl)) (pgs_cons (pg_name (i := 5) sc_is_lit_by.nd rfl (by first | exact .inl rfl | exact .inr rfl)) pgs_nil))) (pss_one (ps_if (PW.pt (pw_and (pt_cmpR op_le (pv 4) (pv 3) (nomark _)) (pw_and (pt_cmpR op_lt (pe_op op_mod (pe_op op_sub (pv 3) (pv 4)) (pv 2)) (pv 1) (nomark _)) (pw_and1 (PW.pt (pw_or (pt_cmpR op_isN (pv 5) pe_non (nomark _)) (pw_or1 (pt_cmpR op_lt (pv 3) (pv 5) (nomark _))))))))) (pss_one (ps_ret pe_bl)) pss_nil)))
      (pss_one (ps_ret pe_bl))), ?_⟩
  obtain ⟨sw, hsw, hst⟩ := hsl
  have lsw : sw.length = L.length := by rw [hst.len, List.length_map]
  refine ⟨.ref sl, rfl, sl, rfl, ⟨_, SqL.of hsw⟩, for_list (xs := sw) (fun j σ H' => ∃ (o5 o6 : Option V), σ = [some (.ref sl), some (.int l), some (.int lap), some (.int b), o5, o6] ∧ Kp [] H H' ∧ ∀ z ∈ L.take j, ¬ (z.1 ≤ b ∧ (b - z.1) % lap < l ∧ (z.2 = .none ∨ ∃ t : Int, z.2 = .int t ∧ b < t))) ⟨none, none, rfl, .rfl', fun z hz => (by cases hz)⟩ (fun j σ H' _ hP => ?_) (fun j y σ H1 hy hP => ?_) (fun σ H1 hP => ?_)⟩
  · obtain ⟨_, _, _, k, _⟩ := hP
    exact SqL.of (k.lst (by simp) hsw)
  · obtain ⟨o5, o6, rfl, k1, hno⟩ := hP
    obtain ⟨d, g1, g2⟩ := (hst.kt k1.kt0).get hy
    obtain ⟨z, hz, rfl⟩ := mapd_get g1
    have hzm := List.mem_of_getElem? hz
    obtain ⟨tz, vz, rfl, htz, hvz⟩ : ∃ (tz : Addr) (vz : V), y = .ref tz ∧ H1 tz = some (.tup [.int z.1, vz]) ∧ Tu H1 vz z.2 := by
      cases g2 with
      | tup h r =>
        cases r with
        | cons r1 r => cases r with
          | cons r2 r => cases r; cases r1; exact ⟨_, _, rfl, h, r2⟩
    have more : ¬ (z.1 ≤ b ∧ (b - z.1) % lap < l ∧ (z.2 = .none ∨ ∃ t : Int, z.2 = .int t ∧ b < t)) → ∀ u ∈ L.take (j + 1), ¬ (u.1 ≤ b ∧ (b - u.1) % lap < l ∧ (u.2 = .none ∨ ∃ t : Int, u.2 = .int t ∧ b < t)) := fun h u hu => by
      rw [List.take_add_one, hz] at hu
      rcases List.mem_append.mp hu with hu | hu
      · exact hno u hu
      · rw [List.mem_singleton.mp hu]; exact h
    refine ⟨tz, _, rfl, SqT.of htz, rfl, _, _, rfl, _, _, rfl, rfl, ?_⟩
    refine ⟨.int z.1, rfl, .int b, rfl, _, _, rfl, rfl, _, rfl, ?_⟩
    by_cases c1 : z.1 ≤ b
    rotate_left
    · rw [decide_eq_false c1]
      exact iteF (iteF ⟨_, _, rfl, k1, more fun h => c1 h.1⟩)
    rw [decide_eq_true c1]
    refine iteT ⟨.int b, rfl, .int z.1, rfl, _, _, rfl, rfl, .int lap, rfl, _, _, rfl, rfl, hlap, .int l, rfl, _, _, rfl, rfl, _, rfl, ?_⟩
    by_cases c2 : (b - z.1) % lap < l
    rotate_left
    · rw [decide_eq_false c2]
      exact iteF (iteF ⟨_, _, rfl, k1, more fun h => c2 h.2.1⟩)
    rw [decide_eq_true c2]
    refine iteT ?_
    rcases hz2 z hzm with e | ⟨t, e⟩
    · rw [e] at hvz
      cases hvz
      refine ⟨.non, rfl, rfl, _, rfl, iteT (iteT (q H1 true ⟨fun _ => ⟨z, hzm, c1, c2, .inl e⟩, fun _ => rfl⟩ k1))⟩
    · rw [e] at hvz
      cases hvz
      refine ⟨.int t, rfl, rfl, _, rfl, iteF ⟨.int b, rfl, .int t, rfl, _, _, rfl, rfl, _, rfl, ?_⟩⟩
      by_cases c3 : b < t
      · rw [decide_eq_true c3]
        exact iteT (q H1 true ⟨fun _ => ⟨z, hzm, c1, c2, .inr ⟨t, e, c3⟩⟩, fun _ => rfl⟩ k1)
      · rw [decide_eq_false c3]
        refine iteF ⟨_, _, rfl, k1, more fun h => ?_⟩
        rcases h.2.2 with h | ⟨t', h, h'⟩
        · rw [e] at h; cases h
        · rw [e] at h; cases h; exact c3 h'
  · obtain ⟨o5, o6, rfl, k1, hno⟩ := hP
    rw [lsw, List.take_length] at hno
    exact q H1 false ⟨fun e => (by cases e), fun ⟨z, hz, h⟩ => absurd h (hno z hz)⟩ k1
theorem lostV_iff {N : Net} {ks : Kds} (o : NetOk N) (hk : KdsOk N ks) {R : List C4} (hR : Losses N ks R) (f : Nat) (b : Int) : (lostV R f = .none ∨ ∃ t : Int, lostV R f = .int t ∧ b < t) ↔ ∀ t x g, LostAt N ks t x f g → b < (t : Nat) := by
  unfold lostV
  rcases beat_in o hk hR f with ⟨tl, xl, gl, hlo, hv⟩ | ⟨hno, hv⟩
  · rw [hv]
    constructor
    · rintro (h | ⟨t, h, h2⟩) t' x' g' hl
      · cases h
      · cases h
        rw [(lost_once o hk hlo hl).1]
        exact h2
    · exact fun h => .inr ⟨_, rfl, h tl xl gl hlo⟩
  · rw [hv]
    exact ⟨fun _ t x g hl => absurd hl (hno t x g), fun _ => .inl rfl⟩
theorem spanR_some {N : Net} {ks : Kds} {R : List C4} {x f : Nat} {z : Int × PyData} : spanR N ks R x f = some z ↔ SpanAt N ks x f z.1 ∧ z.2 = lostV R f := by
  unfold spanR SpanAt
  cases hp : ks[f]? with
  | none => exact ⟨fun h => (by cases h), fun ⟨⟨p, h, _⟩, _⟩ => (by cases h)⟩
  | some p =>
    show (if x ∈ path N p.2 then some (frstOf N p.1 p.2 x, lostV R f) else none) = some z ↔ _
    by_cases e : x ∈ path N p.2
    · rw [if_pos e]
      constructor
      · intro h
        cases h
        exact ⟨⟨p, rfl, e, rfl⟩, rfl⟩
      · rintro ⟨⟨p', h, _, h2⟩, h3⟩
        cases h
        rw [← h2, ← h3]
    · rw [if_neg e]
      exact ⟨fun h => (by cases h), fun ⟨⟨p', h, h1, _⟩, _⟩ => by cases h; exact absurd h1 e⟩
def spBurnsFrom (TB TB2 TB3 : Addr) : Sp := fun vs H Q _ => ∃ (v : V) (N : Net) (kl : Addr) (ks : Kds) (x : Nat), vs = [v, .ref kl, .int x] ∧ Tu H v (netD N) ∧ NetOk N ∧ LstOf H kl (ks.map kdD) ∧ KdsOk N ks ∧ ks.length ≤ 40 ∧ Short N ∧ x < N.length ∧ GxR.TabG H TB ∧ GxR.TabG H TB2 ∧ GxR.TabG H TB3 ∧
  (∀ H' r, EverFrom N ks x r → Kp [] H H' → Q (.int (r : Nat)) H') ∧ (∀ H', (∀ T, ∃ t, T ≤ t ∧ ¬ LitN N ks x t) → Kp [] H H' → Q .non H')
theorem ok_burns_from (T : Tx K mg a) (TB : GxR.TabB base mg a.cd_is_net a.tb_is_net) (TB2 : GxR.TabB base mg a.cd_lights_of a.tb_lights_of) (TB3 : GxR.TabB base mg a.cd_are_kindlings a.tb_are_kindlings) : FnOk P w K mg base CX0 15 a.a_burns_from a.f_burns_from ["net", "kindlings", "lamp"] (spBurnsFrom a.tb_is_net a.tb_lights_of a.tb_are_kindlings) := by
  have G_need_kindlings := ok_need_kindlings (P := P) (w := w) (base := base) T TB TB3
  have G_need_lamp := ok_need_lamp (P := P) (w := w) (base := base) T
  have G_burns_for_ever := ok_burns_for_ever (P := P) (w := w) (base := base) T TB TB2 TB3
  have G_lap_of := ok_lap_of (P := P) (w := w) (base := base) T TB
  have G_spans_of_lightings := ok_spans_of_lightings (P := P) (w := w) (base := base) T TB TB2
  have G_is_lit_by := ok_is_lit_by (P := P) (w := w) (base := base) T
  refine T.burns_from.F.ok sc_burns_from (fun vs H Q E h => ?_) (fun cdv A outer s H vs Q E hr h => ?_)
  · obtain ⟨v, N, kl, ks, x, rfl, _⟩ := h
    rfl
  obtain ⟨v, N, kl, ks, x, rfl, hn, ok, hkl, hk, h40, sh, hx, ht, ht2, ht3, q1, q2⟩ := h
  refine ⟨_, (pss_cons (ps_expr (pe_call G_need_kindlings (hr.mono (by decide)) (by rfl) T.need_kindlings.g T.need_kindlings.F.kp T.need_kindlings.b .nil pass0 (pa_cons (pv 0) (pa_cons (pv 1) pa_nil))))
      (pss_cons (ps_expr (pe_call G_need_lamp (hr.mono (by decide)) (by rfl) T.need_lamp.g T.need_lamp.F.kp T.need_lamp.b .nil pass0 (pa_cons (pv 0) (pa_cons (pv 2) pa_nil))))
      (pss_cons (ps_if (pt_not (pt_val (pe_call G_burns_for_ever (hr.mono (by decide)) (by rfl) T.burns_for_ever.g T.burns_for_ever.F.kp T.burns_for_ever.b .nil pass0 (pa_cons (pv 0) (pa_cons (pv 1) (pa_cons (pv 2) pa_nil)))))) (pss_one (ps_ret pe_non)) pss_nil)
      (pss_cons (ps_set (i := 3) sc_burns_from.nd rfl (by first | exact .inl rfl | exact .inr rfl) (pe_ix ix_tup (pe_ix ix_tup (pv 0) (pv 2) (fun _ _ => rfl)) pe_int (fun _ _ => rfl)))
      (pss_cons (ps_asg (pe_call G_lap_of (hr.mono (by decide)) (by rfl) T.lap_of.g T.lap_of.F.kp T.lap_of.b .nil pass0 (pa_cons (pv 0) (pa_cons (pv 2) pa_nil))) (pg_tup (by rfl) (pgs_cons (pg_name (i := 4) sc_burns_from.nd rfl (by first | exact .inl rfl | exact .inr rfl)) (pgs_cons (pg_name (i := 5) sc_burns_from.nd rfl (by first | exact .inl rfl | exact .inr rfl)) pgs_nil))))
      (pss_cons (ps_set (i := 6) sc_burns_from.nd rfl (by first | exact .inl rfl | exact .inr rfl) (pe_call G_spans_of_lightings (hr.mono (by decide)) (by rfl) T.spans_of_lightings.g T.spans_of_lightings.F.kp T.spans_of_lightings.b .nil pass0 (pa_cons (pv 0) (pa_cons (pv 1) (pa_cons (pv 2) pa_nil)))))
      (pss_cons (ps_setLc (i := 7) (own := [("first", 8), ("_", 5)]) (g := gTup K 2 (gCons (gName 8) (gCons (gName 5) (gNil)))) (by rfl) sc_burns_from.nd rfl rfl (sw_true rfl rfl rfl (by decide +kernel)) (pi_list (pv 6)) (blkOk_by (own := [("first", 8), ("_", 5)]) (N := s_burns_from_N) (sc := defScope s_burns_from) (by decide +kernel)) (fun _ _ _ _ _ => (pg_tupK (K := K) rfl (by rfl) (pgs_cons (pg_name (i := 8) sc_burns_from.nd rfl (by first | exact .inl rfl | exact .inr rfl)) (pgs_cons (pg_name (i := 5) sc_burns_from.nd rfl (by first | exact .inl rfl | exact .inr rfl)) pgs_nil)))) (fun _ _ _ _ _ => pts_nil) (fun _ _ _ _ _ => (pe_op op_sub (pe_op op_add (pe_op op_sub (pv 8) (pv 4)) (pv 3)) pe_int)))
      (pss_one (ps_ret (pe_op op_add (pe_callB (cr_max rfl) (by rfl) T.n_max (by decide +kernel) (pa_cons (pe_lc (own := [("beat", 9)]) (g := gName 9) (by rfl) sc_burns_from.nd (pi_list (pv 7)) (blkOk_by (own := [("beat", 9)]) (N := s_burns_from_N) (sc := defScope s_burns_from) (by decide +kernel)) (fun _ _ _ _ _ => (pg_name (i := 9) sc_burns_from.nd rfl (by first | exact .inl rfl | exact .inr rfl))) (fun _ _ _ _ _ => (pts_one (pt_not (pt_val (pe_call G_is_lit_by (hr.mono (by decide)) (by rfl) T.is_lit_by.g T.is_lit_by.F.kp T.is_lit_by.b .nil pass0 (pa_cons (pv 6) (pa_cons (pv 3) (pa_cons (pv 4) (pa_cons (pv 9) pa_nil))))))))) (fun _ _ _ _ _ => (pv 9))) pa_nil)) pe_int)))))))))), ?_⟩
  obtain ⟨kw, hkw, hkt⟩ := hkl
  refine ⟨v, rfl, .ref kl, rfl, v, N, kl, kw, ks, rfl, hn, ok, hkw, hkt, hk, h40, ht, ht3, fun H1 k1 => ?_⟩
  have hn1 := hn.kt k1.kt0
  refine ⟨v, rfl, .int x, rfl, [], v, N, x, rfl, hn1.dx0, hx, ?_⟩
  have hkl1 : LstOf H1 kl (ks.map kdD) := ⟨kw, k1.lst (by simp) hkw, hkt.kt k1.kt0⟩
  refine ⟨v, rfl, .ref kl, rfl, .int x, rfl, v, N, kl, ks, x, rfl, hn1, ok, hkl1, hk, h40, sh, hx, k1.tab _ ht, k1.tab _ ht2, k1.tab _ ht3, fun H2 cb hb1 hb2 hb3 k2 => ?_⟩
  have k02 := k1.tr k2
  cases cb with
  | false => exact ⟨false, rfl, iteT (q2 H2 (hb3 rfl) k02)⟩
  | true =>
    refine ⟨true, rfl, iteF ?_⟩
    obtain ⟨hA, hev⟩ := hb1 rfl
    have hcnt := hb2 rfl
    have hn2 := hn1.kt k2.kt0
    obtain ⟨ad, xs, rfl, hxs, _, hat⟩ := tnet_at hn2
    have hNx := List.getElem?_eq_getElem hx
    obtain ⟨la, hxl, hla⟩ := hat x _ hNx
    have eb : (N[x]'hx).1 = burnOf N x := (burnOf_get hNx).symm
    have hR : wayR N x = path N x := ahead_path hA
    have hxx : x ∈ wayR N x := by
      rw [hR]
      obtain ⟨t, e⟩ := path_head N x
      rw [e]; exact List.mem_cons_self
    have hRne : wayR N x ≠ [] := fun e => by rw [e] at hxx; cases hxx
    rw [eb] at hla
    refine ⟨.ref ad, rfl, .int x, rfl, ad, xs, x, .ref la, rfl, rfl, SqT.of hxs, atI_nat hxl, la, _, 0, .int (burnOf N x), rfl, rfl, SqT.of hla, atI_nat (j := 0) rfl, ?_⟩
    refine ⟨.ref ad, rfl, .int x, rfl, [], .ref ad, N, x, rfl, hn2.dx0, ok, hx, k02.tab _ ht, fun v2 H3 d k3 nw2 hd => ?_⟩
    rcases hd with ⟨e, _⟩ | ⟨_, m, hm1, hm2, rfl⟩
    · exact absurd e hRne
    obtain ⟨ta, rfl, hta⟩ : ∃ ta : Addr, v2 = .ref ta ∧ H3 ta = some (.tup [.int (lensR N x).sum, .int m]) := by
      have := nw2 [] fun s z => by cases z
      cases this with
      | tup _ h r =>
        cases r with
        | cons r1 r => cases r with
          | cons r2 r => cases r; cases r1; cases r2; exact ⟨_, rfl, h⟩
    have elap : (lensR N x).sum = lapOf N x := rfl
    rw [elap] at hta
    have hlap := lap_pos ok hx hRne
    refine ⟨ta, _, rfl, SqT.of hta, rfl, _, _, rfl, _, _, rfl, rfl, ?_⟩
    have k03 := k02.tr k3
    refine ⟨.ref ad, rfl, .ref kl, rfl, .int x, rfl, .ref ad, N, kl, kw, ks, x, rfl, hn2.kt k3.kt0, ok, k03.lst (by simp) hkw, hkt.kt k03.kt0, hk, h40, hx, k03.tab _ ht, k03.tab _ ht2, fun sl H4 R hRR hsl nsl k4 => ?_⟩
    obtain ⟨SP, eSP⟩ : ∃ SP, SP = (List.range ks.length).filterMap (spanR N ks R x) := ⟨_, rfl⟩
    rw [← eSP] at hsl
    have hSP : ∀ z : Int × PyData, z ∈ SP ↔ ∃ f, SpanAt N ks x f z.1 ∧ z.2 = lostV R f := fun z => by
      rw [eSP, List.mem_filterMap]
      constructor
      · rintro ⟨f, _, h⟩
        exact ⟨f, spanR_some.mp h⟩
      · rintro ⟨f, h⟩
        have hf : f < ks.length := by
          obtain ⟨p, hp, _⟩ := h.1
          exact (List.getElem?_eq_some_iff.mp hp).1
        exact ⟨f, List.mem_range.mpr hf, spanR_some.mpr h⟩
    have lSP : SP.length ≤ 40 := by
      rw [eSP]
      have := List.length_filterMap_le (spanR N ks R x) (List.range ks.length)
      rw [List.length_range] at this
      omega
    obtain ⟨r, hev, ⟨f0, s0, hs0, e0⟩, hdark, hmost⟩ := ever_max ok hk hRR hx hA (hcnt R hRR) hev
    have hSL : ∀ b : Int, (∃ z ∈ SP, z.1 ≤ b ∧ (b - z.1) % lapOf N x < burnOf N x ∧ (z.2 = .none ∨ ∃ t : Int, z.2 = .int t ∧ b < t)) ↔ SpanLit N ks x b := fun b => by
      constructor
      · rintro ⟨z, hz, h1, h2, h3⟩
        obtain ⟨f, hf, e⟩ := (hSP z).mp hz
        rw [e] at h3
        exact ⟨f, z.1, hf, h1, h2, (lostV_iff ok hk hRR f b).mp h3⟩
      · rintro ⟨f, s, hf, h1, h2, h3⟩
        exact ⟨(s, lostV R f), (hSP _).mpr ⟨f, hf, rfl⟩, h1, h2, (lostV_iff ok hk hRR f b).mpr h3⟩
    have hnone : ∀ z ∈ SP, z.2 = .none ∨ ∃ t : Int, z.2 = .int t := fun z hz => by
      obtain ⟨f, _, e⟩ := (hSP z).mp hz
      rw [e]
      unfold lostV
      rcases beat_in ok hk hRR f with ⟨tl, xl, gl, hlo, hv⟩ | ⟨hno, hv⟩
      · rw [hv]; exact .inr ⟨_, rfl⟩
      · rw [hv]; exact .inl rfl
    obtain ⟨sw, hsw, hst⟩ := hsl
    have lsw : sw.length = SP.length := by rw [hst.len, List.length_map]
    refine ⟨.ref sl, rfl, sl, rfl, ⟨_, SqL.of hsw⟩, fun D nD => lcm_list SP spanD PyData.int (fun z => z.1 - lapOf N x + burnOf N x - 1) hsw hst nD (by omega) (fun i z y Hj Q' R' hz hy hzt kj qq => ?_) (fun ws H5 hD hws k5 => ?_)⟩
    · obtain ⟨tz, vz, rfl, htz, hvz⟩ : ∃ (tz : Addr) (vz : V), y = .ref tz ∧ Hj tz = some (.tup [.int z.1, vz]) ∧ Tu Hj vz z.2 := by
        cases hzt with
        | tup h r =>
          cases r with
          | cons r1 r => cases r with
            | cons r2 r => cases r; cases r1; exact ⟨_, _, rfl, h, r2⟩
      exact ⟨tz, _, rfl, SqT.of htz, rfl, _, _, rfl, _, _, rfl, rfl, rfl, .int z.1, rfl, .int (lapOf N x), rfl, _, _, rfl, rfl, .int (burnOf N x), rfl, _, _, rfl, rfl, _, _, rfl, rfl, qq _ _ .rfl' (.int _)⟩
    obtain ⟨MB, eMB⟩ : ∃ MB : List Int, MB = SP.map fun z => z.1 - lapOf N x + burnOf N x - 1 := ⟨_, rfl⟩
    rw [← eMB] at hws
    have lMB : MB.length ≤ 40 := by rw [eMB, List.length_map]; exact lSP
    haveI dec : DecidablePred (SpanLit N ks x) := fun _ => Classical.propDecidable _
    have hsl5 : LstOf H5 sl (SP.map spanD) := ⟨sw, k5.lst (by simp) hsw, hst.kt k5.kt0⟩
    refine ⟨.ref D, rfl, D, rfl, ⟨_, SqL.of hD⟩, fun D2 nD2 => lcf_list MB PyData.int PyData.int (fun b => if SpanLit N ks x b then none else some b) hD hws nD2 (by omega) (fun i z y Hj Q' R' hz hy hzt kj qq nn => ?_) (fun ws2 H6 hD2 hws2 k6 => ?_)⟩
    · cases hzt
      refine ⟨rfl, .ref sl, rfl, .int (burnOf N x), rfl, .int (lapOf N x), rfl, .int z, rfl, sl, SP, burnOf N x, lapOf N x, z, rfl, hsl5.kp0 kj, lSP, hnone, hlap, fun H' rb hrb k' => ⟨rb, rfl, ?_⟩⟩
      cases rb with
      | true => exact nn H' (if_pos ((hSL z).mp (hrb.mp rfl))) k'
      | false => exact ⟨_, rfl, qq z _ H' (if_neg fun h => by have := hrb.mpr ((hSL z).mpr h); cases this) k' (.int _)⟩
    have ews : ws2 = (MB.filterMap fun b => if SpanLit N ks x b then none else some b).map V.int := tu_int hws2
    rw [ews] at hD2
    have hmem : ∀ b : Int, b ∈ (MB.filterMap fun b => if SpanLit N ks x b then none else some b) ↔ b ∈ MB ∧ ¬ SpanLit N ks x b := fun b => by
      rw [List.mem_filterMap]
      constructor
      · rintro ⟨c, hc, h⟩
        by_cases e : SpanLit N ks x c
        · rw [if_pos e] at h; cases h
        · rw [if_neg e] at h; cases h; exact ⟨hc, e⟩
      · rintro ⟨h1, h2⟩
        exact ⟨b, h1, if_neg h2⟩
    have hin : (r : Int) - 1 ∈ (MB.filterMap fun b => if SpanLit N ks x b then none else some b) := (hmem _).mpr ⟨by
      rw [eMB]
      exact List.mem_map.mpr ⟨(s0, lostV R f0), (hSP _).mpr ⟨f0, hs0, rfl⟩, e0⟩, hdark⟩
    refine ⟨D2, _, rfl, SqL.of hD2, List.length_pos_of_mem hin, fun mx hm1 hm2 => ⟨_, _, rfl, rfl, ?_⟩⟩
    have em : mx + 1 = (r : Int) := by
      have h1 := hm2 _ hin
      have h2 := hmost mx ((hmem mx).mp hm1).2
      omega
    rw [show (fun i j : Int => V.int (i + j)) mx 1 = V.int (r : Nat) from congrArg V.int em]
    exact q1 H6 r hev (k03.tr (k4.tr (k5.tr k6)))
end
--END

section
variable {P : Program} {w : World} {K : PySem.W.Frag} {mg : Str → Option Value} {base : Heap} {a : Ad}
theorem ints_data {H : Hp} {ws : List V} {bs : List Int} (h : TuA H ws (bs.map PyData.int)) : ws = bs.map V.int := by
  induction bs generalizing ws with
  | nil => cases h; rfl
  | cons b bs ih =>
    cases h with
    | cons t1 t2 =>
      cases t1
      rw [ih t2]
      rfl
theorem ints_of {H : Hp} (bs : List Int) : TuA H (bs.map V.int) (bs.map PyData.int) := by
  induction bs with
  | nil => exact .nil
  | cons b bs ih => exact .cons (.int _) ih
def spGapsOf (TB5 : Addr) : Sp := fun vs H Q _ => ∃ (l : Addr) (bs : List Int) (lap : Int), vs = [.ref l, .int lap] ∧ LstOf H l (bs.map PyData.int) ∧ bs.length ≤ 40 ∧ 0 < lap ∧ GxR.TabG H TB5 ∧
  ∀ l' H', LstOf H' l' ((gapsZ lap bs).map PyData.int) → H l' = none → Kp [] H H' → Q (.ref l') H'
theorem ok_gaps_of_beats (T : Tx K mg a) (TB5 : GxR.TabB base mg a.cd_gaps_of_beats a.tb_gaps_of_beats) : FnOk P w K mg base CX0 3 a.a_gaps_of_beats a.f_gaps_of_beats ["beats", "lap"] (spGapsOf a.tb_gaps_of_beats) := by
  refine okC T.gaps_of_beats.F T.code_gaps_of_beats sc_gaps_of_beats (fun vs H Q E h => ?_) (fun A outer s H vs Q E hr h => ?_)
  · obtain ⟨l, bs, lap, rfl, _⟩ := h
    rfl
  obtain ⟨l, bs, lap, rfl, hl, h40, hlap, ht5, q⟩ := h
  have hu := hu_of hr
  refine ⟨_, (pss_cons (ps_if (pt_not (pt_truth (pv 0) (by intro _; rfl))) (pss_one (ps_ret (pe_lst pa_nil))) pss_nil)
      (pss_cons (ps_set (i := 2) sc_gaps_of_beats.nd rfl (by first | exact .inl rfl | exact .inr rfl) (pe_sortQ (k := 0) (hr.mono (by decide)) (by rfl) T.n_sorted TB5 rfl ⟨rfl, rfl, by decide +kernel, by decide +kernel, by decide +kernel, free_by (by decide +kernel)⟩ (pv 0) (fun _ => rfl)))
      (pss_cons (ps_expr (pe_bm PySem.F.plainAttrs_list PySem.F.slot_list_append PySem.F.type_list_append mt_append (pv 2) (pa_cons (pv 1) pa_nil)))
      (pss_one (ps_ret (pe_lc (own := [("at", 3)]) (g := gName 3) (by rfl) sc_gaps_of_beats.nd (pi_range2 (by rfl) T.n_range (pa_cons pe_int (pa_cons (pe_callB call_len_seq (by rfl) T.n_len (by decide +kernel) (pa_cons (pv 2) pa_nil)) pa_nil))) (blkOk_by (own := [("at", 3)]) (N := s_gaps_of_beats_N) (sc := defScope s_gaps_of_beats) (by decide +kernel)) (fun _ _ _ _ _ => (pg_name (i := 3) sc_gaps_of_beats.nd rfl (by first | exact .inl rfl | exact .inr rfl))) (fun _ _ _ _ _ => pts_nil) (fun _ _ _ _ _ => (pe_op op_sub (pe_ix (ix_listK (K := K) rfl) (pv 2) (pv 3) (fun _ _ => rfl)) (pe_ix (ix_listK (K := K) rfl) (pv 2) (pe_op op_sub (pv 3) pe_int) (fun _ _ => rfl)))))))))), ?_⟩
  obtain ⟨ws, hws, hwt⟩ := hl
  obtain rfl := ints_data hwt
  have tru : TruV K (.ref l) H (!decide (bs = [])) := by
    refine .inl ⟨_, SqL.of hws, ?_⟩
    cases bs with
    | nil => rfl
    | cons _ _ => rfl
  refine ⟨.ref l, rfl, _, tru, ?_⟩
  cases bs with
  | nil =>
    rw [decide_eq_true rfl]
    refine iteT ?_
    refine ⟨by show 0 ≤ sizeLine; decide, fun e ne => q e _ ⟨[], upd_same, .nil⟩ ne (Kp.new ne)⟩
  | cons b0 bs =>
  rw [decide_eq_false (by simp)]
  refine iteF ?_
  have ln : ((b0 :: bs).map fun x => (x - b0) % lap).length ≤ 40 := by rw [List.length_map]; exact h40
  have sz : ∀ {n : Nat}, n ≤ 40 → n ≤ sizeLine := fun h => Nat.le_trans h (by decide)
  refine ⟨.ref l, rfl, l, _, ((b0 :: bs).map fun x => (x - b0) % lap).map V.int, [("beats", .ref l), ("lap", .int lap)], rfl, .inr (SqL.of hws), ht5, fun y vy hy => ?_, ⟨by rw [List.length_map, List.length_map, List.length_map], fun hd env OK hsc j xv bv hxj hbj => ?_⟩, _, rfl, sz ln, fun H2 p ns' hT hp hw np => ?_⟩
  · by_cases ey : y = "beats"
    · subst ey
      have e2 : V.ref l = vy := by simpa [List.lookup] using hy
      subst e2
      exact ⟨by decide, by decide +kernel, by decide +kernel, 0, rfl, rfl, (by decide +kernel : (defScope s_gaps_of_beats).names.lookup _ = some .cell)⟩
    · have ey' : (y == ("beats" : Str)) = false := by simpa using ey
      by_cases ey2 : y = "lap"
      · subst ey2
        have e2 : V.int lap = vy := by simpa [List.lookup, ey'] using hy
        subst e2
        exact ⟨by decide, by decide +kernel, by decide +kernel, 1, rfl, rfl, (by decide +kernel : (defScope s_gaps_of_beats).names.lookup _ = some .cell)⟩
      · have ey2' : (y == ("lap" : Str)) = false := by simpa using ey2
        simp [List.lookup, ey', ey2'] at hy
  · obtain ⟨x, hx, rfl⟩ : ∃ x : Int, (b0 :: bs)[j]? = some x ∧ xv = .int x := by
      rw [List.getElem?_map] at hxj
      cases q1 : (b0 :: bs)[j]? with
      | none => rw [q1] at hxj; cases hxj
      | some u => rw [q1] at hxj; exact ⟨u, rfl, (Option.some.inj hxj).symm⟩
    rw [List.getElem?_map, List.getElem?_map, hx] at hbj
    obtain rfl : V.int ((x - b0) % lap) = bv := Option.some.inj hbj
    have w1 : wipe H a.tb_gaps_of_beats l = some (.lst ((b0 :: bs).map V.int)) := wiped_lst ht5 hws
    exact q_mod (q_sub (q_name rfl) (q_ixL (j := 0) (q_name rfl) q_int (lstQ_of OK w1) rfl)) (q_name rfl) hlap
  have es : ns' = srtZ ((b0 :: bs).map fun x => (x - b0) % lap) := srtZ_of hp hw
  have kT : Kp [] H H2 := Kp.tabbed ht5 hT
  generalize e3 : upd H2 p _ = H3
  have k3 : Kp [] H2 H3 := e3 ▸ Kp.new np
  have hp3 : H3 p = some (.lst (ns'.map V.int)) := by rw [← e3]; exact upd_same
  have lns : ns'.length = bs.length + 1 := by rw [hp.length_eq, List.length_map]; rfl
  have h40' : bs.length + 1 ≤ 40 := h40
  have sz2 : (ns'.map V.int).length < sizeLine := by
    rw [List.length_map, lns]
    exact Nat.lt_of_le_of_lt h40' (by decide)
  refine ⟨.ref p, rfl, .inl ⟨rfl, _, SqL.of hp3⟩, .int lap, rfl, p, _, .int lap, rfl, rfl, hp3, sz2, ?_⟩
  generalize e4 : upd H3 p _ = H4
  have hp4 : H4 p = some (.lst ((ns' ++ [lap]).map V.int)) := by rw [← e4, upd_same, List.map_append]; rfl
  have k24 : Kp [] H2 H4 := Kp.drop np (k3.of0.tr (e4 ▸ Kp.put (by simp) hp3 fun ps z => by cases z))
  have ll : (ns' ++ [lap]).length = bs.length + 2 := by rw [List.length_append, lns]; rfl
  obtain ⟨L, eL⟩ : ∃ L, L = ns' ++ [lap] := ⟨_, rfl⟩
  have eg : gapsZ lap (b0 :: bs) = diffZ L := by rw [eL, es]; rfl
  rw [← eL] at hp4 ll
  rw [eg] at q
  have lm : (L.map V.int).length = bs.length + 2 := by rw [List.length_map, ll]
  have en : (((L.map V.int).length : Int) - 1).toNat = bs.length + 1 := by rw [lm]; omega
  have ld : (diffZ L).length = bs.length + 1 := by rw [diffZ_len, ll]; rfl
  refine ⟨.ref p, rfl, p, _, rfl, .inl (SqL.of hp4), 1, ((L.map V.int).length : Nat), rfl, ⟨by decide, by decide, by omega, by omega⟩, fun D nD => ?_⟩
  rw [en]
  refine lc_range (n := bs.length + 1) (fun i H' => i ≤ bs.length + 1 ∧ H' D = some (.lst (((diffZ L).take i).map V.int)) ∧ Kp [] H4 H') ⟨Nat.zero_le _, upd_same, Kp.new nD⟩ (fun i H' hi hP => ?_) (fun H' hP => ?_)
  · obtain ⟨_, hD, k⟩ := hP
    have hp5 := k.lst (by simp) hp4
    obtain ⟨x, hx⟩ : ∃ x, L[i]? = some x := ⟨L[i]'(by omega), List.getElem?_eq_getElem _⟩
    obtain ⟨y, hy⟩ : ∃ y, L[i + 1]? = some y := ⟨L[i + 1]'(by omega), List.getElem?_eq_getElem _⟩
    have hg := diffZ_get L i x y hx hy
    have e1 : (1 : Int) + (i : Nat) = ((i + 1 : Nat) : Int) := by omega
    have e2 : (1 : Int) + (i : Nat) - 1 = ((i : Nat) : Int) := by omega
    refine ⟨rfl, ?_⟩
    refine ⟨.ref p, rfl, .int (1 + (i : Nat)), rfl, p, L.map V.int, 1 + (i : Nat), .int y, rfl, rfl, SqL.of hp5, ?_, ?_⟩
    · rw [e1]
      exact atI_nat (by rw [List.getElem?_map, hy]; rfl)
    refine ⟨.ref p, rfl, .int (1 + (i : Nat)), rfl, _, _, rfl, rfl, p, L.map V.int, 1 + (i : Nat) - 1, .int x, rfl, rfl, SqL.of hp5, ?_, _, _, rfl, rfl, ?_⟩
    · rw [e2]
      exact atI_nat (by rw [List.getElem?_map, hx]; rfl)
    refine ⟨_, hD, ?_, hi, ?_, ?_⟩
    · rw [List.length_map, List.length_take]
      exact Nat.lt_of_le_of_lt (Nat.le_trans (Nat.min_le_right _ _) (Nat.le_trans (Nat.le_of_eq ld) h40')) (by decide)
    · rw [upd_same, List.take_succ, hg, List.map_append]
      rfl
    · exact Kp.drop nD (k.of0.tr (Kp.put (by simp) hD fun ps z => by cases z))
  · obtain ⟨_, hD, k⟩ := hP
    rw [← ld, List.take_length] at hD
    have kk : Kp [] H H' := kT.tr (k24.tr k)
    exact q D H' ⟨_, hD, ints_of _⟩ (Kp.free0 (kT.tr k24) nD) kk
end
section
variable {P : Program} {w : World} {K : PySem.W.Frag} {mg : Str → Option Value} {base : Heap} {a : Ad}
def spRoundG : Sp := fun vs H Q _ => ∃ (l : Addr) (gs : List Int), vs = [.ref l] ∧ LstOf H l (gs.map PyData.int) ∧ gs.length ≤ 60 ∧ ∀ H', Kp [] H H' → Q (.int (roundZ gs)) H'
theorem ok_round_of_gaps (T : Tx K mg a) : FnOk P w K mg base CX0 1 a.a_round_of_gaps a.f_round_of_gaps ["between"] spRoundG := by
  refine T.round_of_gaps.F.ok sc_round_of_gaps (fun vs H Q E h => ?_) (fun cdv A outer s H vs Q E hr h => ?_)
  · obtain ⟨l, gs, rfl, _⟩ := h
    rfl
  obtain ⟨l, gs, rfl, hl, hz, q⟩ := h
  refine ⟨_, (pss_cons (ps_for PassesOwn.never rfl (pi_range2 (by rfl) T.n_range (pa_cons pe_int (pa_cons (pe_op op_add (pe_callB call_len_seq (by rfl) T.n_len (by decide +kernel) (pa_cons (pv 0) pa_nil)) pe_int) pa_nil))) (pg_name (i := 1) sc_round_of_gaps.nd rfl (by first | exact .inl rfl | exact .inr rfl)) (pss_one (ps_if (pt_cmpR (op_eqD hr.units) (pe_op op_catL (pe_slice sl_list (pv 0) (po_some (pv 1)) po_none) (pe_slice sl_list (pv 0) po_none (po_some (pv 1)))) (pv 0) (nomark _)) (pss_one (ps_ret (pe_callB (cr_sum rfl) (by rfl) T.n_sum (by decide +kernel) (pa_cons (pe_slice sl_list (pv 0) po_none (po_some (pv 1))) pa_nil)))) pss_nil)))
      (pss_one (ps_ret pe_int))), ?_⟩
  obtain ⟨ws, hws, hwt⟩ := hl
  obtain rfl := ints_data hwt
  have lw : (gs.map V.int).length = gs.length := List.length_map _
  have en : (((gs.map V.int).length : Int) + 1 - 1).toNat = gs.length := by rw [lw]; omega
  refine ⟨.ref l, rfl, l, _, rfl, .inl (SqL.of hws), _, _, rfl, rfl, 1, _, rfl, ⟨by decide, by decide, by omega, by omega⟩, ?_⟩
  rw [en]
  refine for_range (n := gs.length) (fun i σ H' => ∃ o1 : Option V, σ = [some (.ref l), o1] ∧ Kp [] H H' ∧ ∀ m, m < i → rotZ gs m = false) ⟨none, rfl, .rfl', fun m hm => absurd hm (Nat.not_lt_zero _)⟩ (fun i σ H1 hi hP => ?_) (fun σ H1 hP => ?_)
  · obtain ⟨o1, rfl, k1, hno⟩ := hP
    have e1 : (1 : Int) + (i : Nat) = ((i + 1 : Nat) : Int) := by omega
    rw [e1]
    have hl1 := k1.lst (by simp) hws
    refine ⟨.ref l, rfl, .int ((i + 1 : Nat) : Int), rfl, _, rfl, l, _, rfl, SqL.of hl1, fun p1 n1 => ?_⟩
    rw [cutHi (by rw [lw]; omega), ← List.map_drop]
    generalize e2 : upd H1 p1 _ = H2
    have k2 : Kp [] H1 H2 := e2 ▸ Kp.new n1
    have hp2 : H2 p1 = some (.lst ((gs.drop (i + 1)).map V.int)) := by rw [← e2]; exact upd_same
    have hl2 := k2.lst (by simp) hl1
    refine ⟨.ref l, rfl, .int ((i + 1 : Nat) : Int), rfl, _, rfl, l, _, rfl, SqL.of hl2, fun p3 n3 => ?_⟩
    rw [cutLo (by rw [lw]; omega), ← List.map_take]
    generalize e3 : upd H2 p3 _ = H3
    have k3 : Kp [] H2 H3 := e3 ▸ Kp.new n3
    have hp3 : H3 p3 = some (.lst ((gs.take (i + 1)).map V.int)) := by rw [← e3]; exact upd_same
    refine ⟨p1, p3, _, _, rfl, rfl, SqL.of (k3.lst (by simp) hp2), SqL.of hp3, ?_, fun p4 n4 => ?_⟩
    · rw [← List.length_append, ← List.map_append, List.length_map, List.length_append, List.length_drop, List.length_take]
      exact Nat.le_trans (m := 60) (by omega) (by decide)
    rw [← List.map_append]
    generalize e4 : upd H3 p4 _ = H4
    have k4 : Kp [] H3 H4 := e4 ▸ Kp.new n4
    have hp4 : H4 p4 = some (.lst ((gs.drop (i + 1) ++ gs.take (i + 1)).map V.int)) := by rw [← e4]; exact upd_same
    have k14 := k2.tr (k3.tr k4)
    have hl4 := k14.lst (by simp) hl1
    have sh : ∀ xs : List Int, SeqAt.shaped (.list (xs.map PyData.int)) = true := fun xs => (map_shaped (f := PyData.int) (fun _ => rfl) (fun _ => by show 0 ≤ 7; decide) xs).1
    refine ⟨.ref l, rfl, .list ((gs.drop (i + 1) ++ gs.take (i + 1)).map PyData.int), .list (gs.map PyData.int), .lst (SqL.of hp4) ?_, .lst (SqL.of hl4) ?_, sh _, sh _, _, rfl, ?_⟩
    · exact (ints_of _).dpl (nodict (fun _ => rfl) _)
    · exact (ints_of _).dpl (nodict (fun _ => rfl) _)
    rw [show PyData.eqv (.list ((gs.drop (i + 1) ++ gs.take (i + 1)).map PyData.int)) (.list (gs.map PyData.int)) = rotZ gs i from ints_eqv _ _]
    have k04 := k1.tr k14
    cases er : rotZ gs i with
    | false =>
      refine iteF ⟨_, rfl, k04, fun m hm => ?_⟩
      by_cases e : m = i
      · rw [e]; exact er
      · exact hno m (by omega)
    | true =>
      refine iteT ?_
      refine ⟨.ref l, rfl, .int ((i + 1 : Nat) : Int), rfl, _, rfl, l, _, rfl, SqL.of hl4, fun p5 n5 => ?_⟩
      rw [cutLo (by rw [lw]; omega), ← List.map_take]
      generalize e5 : upd H4 p5 _ = H5
      have k5 : Kp [] H4 H5 := e5 ▸ Kp.new n5
      have hp5 : H5 p5 = some (.lst ((gs.take (i + 1)).map V.int)) := by rw [← e5]; exact upd_same
      have ez : roundZ gs = (gs.take (i + 1)).sum := roundZ_at hi er hno
      refine ⟨p5, _, rfl, SqL.of hp5, ?_⟩
      rw [← ez]
      exact q H5 (k04.tr k5)
  · obtain ⟨o1, rfl, k1, hno⟩ := hP
    have ez : roundZ gs = 1 := roundZ_no hno
    have := q H1 k1
    rw [ez] at this
    exact this
end

section
variable {P : Program} {w : World} {K : PySem.W.Frag} {mg : Str → Option Value} {base : Heap} {a : Ad}
def spRoundOf (TB TB2 TB3 TB5 : Addr) : Sp := fun vs H Q _ => ∃ (v : V) (N : Net) (kl : Addr) (ks : Kds), vs = [v, .ref kl] ∧ Tu H v (netD N) ∧ NetOk N ∧ LstOf H kl (ks.map kdD) ∧ KdsOk N ks ∧ ks.length ≤ 40 ∧ (∀ x, x < N.length → lapOf N x < 2 ^ 204) ∧ GxR.TabG H TB ∧ GxR.TabG H TB2 ∧ GxR.TabG H TB3 ∧ GxR.TabG H TB5 ∧
  ∀ H' (R : List C4), Losses N ks R → Kp [] H H' → Q (.int (roundN N (fatesR N ks R) : Nat)) H'
theorem ok_round_of_lamps (T : Tx K mg a) (TB : GxR.TabB base mg a.cd_is_net a.tb_is_net) (TB2 : GxR.TabB base mg a.cd_lights_of a.tb_lights_of) (TB3 : GxR.TabB base mg a.cd_are_kindlings a.tb_are_kindlings) (TB5 : GxR.TabB base mg a.cd_gaps_of_beats a.tb_gaps_of_beats) : FnOk P w K mg base CX0 14 a.a_round_of_lamps a.f_round_of_lamps ["net", "kindlings"] (spRoundOf a.tb_is_net a.tb_lights_of a.tb_are_kindlings a.tb_gaps_of_beats) := by
  have G_fates := ok_fates (P := P) (w := w) (base := base) T TB TB2 TB3
  have G_lap_of := ok_lap_of (P := P) (w := w) (base := base) T TB
  have G_rings := ok_rings (P := P) (w := w) (base := base) T TB
  have G_beats_on_ring := ok_beats_on_ring (P := P) (w := w) (base := base) T
  have G_gaps_of_beats := ok_gaps_of_beats (P := P) (w := w) (base := base) T TB5
  have G_round_of_gaps := ok_round_of_gaps (P := P) (w := w) (base := base) T
  refine T.round_of_lamps.F.ok sc_round_of_lamps (fun vs H Q E h => ?_) (fun cdv A outer s H vs Q E hr h => ?_)
  · obtain ⟨v, N, kl, ks, rfl, _⟩ := h
    rfl
  obtain ⟨v, N, kl, ks, rfl, hn, ok, hkl, hk, h40, hlap, ht, ht2, ht3, ht5, q⟩ := h
  refine ⟨_, (pss_cons (ps_set (i := 2) sc_round_of_lamps.nd rfl (by first | exact .inl rfl | exact .inr rfl) (pe_call G_fates (hr.mono (by decide)) (by rfl) T.fates.g T.fates.F.kp T.fates.b .nil pass0 (pa_cons (pv 0) (pa_cons (pv 1) pa_nil))))
      (pss_cons (ps_set (i := 3) sc_round_of_lamps.nd rfl (by first | exact .inl rfl | exact .inr rfl) pe_int)
      (pss_cons (ps_for PassesOwn.never rfl (pi_list (pe_call G_rings (hr.mono (by decide)) (by rfl) T.rings.g T.rings.F.kp T.rings.b .nil pass0 (pa_cons (pv 0) pa_nil))) (pg_name (i := 4) sc_round_of_lamps.nd rfl (by first | exact .inl rfl | exact .inr rfl)) (pss_cons (ps_asg (pe_call G_lap_of (hr.mono (by decide)) (by rfl) T.lap_of.g T.lap_of.F.kp T.lap_of.b .nil pass0 (pa_cons (pv 0) (pa_cons (pe_ix ix_tup (pv 4) pe_int (fun _ _ => rfl)) pa_nil))) (pg_tup (by rfl) (pgs_cons (pg_name (i := 5) sc_round_of_lamps.nd rfl (by first | exact .inl rfl | exact .inr rfl)) (pgs_cons (pg_name (i := 6) sc_round_of_lamps.nd rfl (by first | exact .inl rfl | exact .inr rfl)) pgs_nil))))
      (pss_one (ps_set (i := 3) sc_round_of_lamps.nd rfl (by first | exact .inl rfl | exact .inr rfl) (pe_callBfun cr_lcm (by rfl) T.n_lcm (pa_cons (pv 3) (pa_cons (pe_call G_round_of_gaps (hr.mono (by decide)) (by rfl) T.round_of_gaps.g T.round_of_gaps.F.kp T.round_of_gaps.b .nil pass0 (pa_cons (pe_call G_gaps_of_beats (hr.mono (by decide)) (by rfl) T.gaps_of_beats.g T.gaps_of_beats.F.kp T.gaps_of_beats.b .nil pass0 (pa_cons (pe_call G_beats_on_ring (hr.mono (by decide)) (by rfl) T.beats_on_ring.g T.beats_on_ring.F.kp T.beats_on_ring.b .nil pass0 (pa_cons (pv 2) (pa_cons (pv 4) pa_nil))) (pa_cons (pv 5) pa_nil))) pa_nil)) pa_nil)))))))
      (pss_one (ps_ret (pv 3)))))), ?_⟩
  obtain ⟨kw, hkw, hkt⟩ := hkl
  refine ⟨v, rfl, .ref kl, rfl, v, N, kl, kw, ks, rfl, hn, ok, hkw, hkt, hk, h40, ht, ht2, ht3, fun R l fw H1 hR nl hl1 hfw1 k1 => ?_⟩
  obtain ⟨FS, eFS⟩ : ∃ FS, FS = fatesR N ks R := ⟨_, rfl⟩
  have hfw1 : TuA H1 fw (FS.map fateD) := by rw [eFS]; exact hfw1
  have lFS : FS.length = ks.length := by rw [eFS, fatesR_len]
  have hn1 := hn.kt k1.kt0
  refine ⟨v, rfl, [], v, N, rfl, hn1.dx0, ok, k1.tab _ ht, fun v2 H2 k2 nw => ?_⟩
  have hx2 := nw [] fun s z => by cases z
  obtain ⟨rp, rv, rfl, hrp, hrv⟩ : ∃ rp rv, v2 = .ref rp ∧ H2 rp = some (.lst rv) ∧ DxA [] H2 rv ((ringsL N N.length).map (ringD N)) := by
    cases hx2 with
    | lst n h r => exact ⟨_, _, rfl, h, r⟩
  have h12 := ok.hi
  have lrv : rv.length = (ringsL N N.length).length := by rw [hrv.len, List.length_map]
  have lr12 := ringsL_len N N.length
  obtain ⟨G, eG⟩ : ∃ G : Nat → Nat, G = fun j => ((ringsL N N.length).take j).foldl (rndS N FS) 1 := ⟨_, rfl⟩
  refine ⟨rp, rfl, ⟨_, SqL.of hrp⟩, for_list (xs := rv) (fun j σ H' => ∃ o4 o5 o6 : Option V, σ = [some v, some (.ref kl), some (.ref l), some (.int (G j : Nat)), o4, o5, o6] ∧ G j < 2 ^ (204 * j + 1) ∧ Kp [] H2 H') ⟨none, none, none, by rw [eG]; rfl, by rw [eG]; show (1 : Nat) < 2; decide, .rfl'⟩ (fun j σ H' _ hP => ?_) (fun j z σ H3 hz hP => ?_) (fun σ H3 hP => ?_)⟩
  · obtain ⟨_, _, _, _, _, k⟩ := hP
    exact SqL.of (k.lst (by simp) hrp)
  · obtain ⟨o4, o5, o6, rfl, hb, k3⟩ := hP
    have k13 := k1.tr (k2.tr k3)
    obtain ⟨dd, g1, g2⟩ := (hrv.kp k3 fun _ z => z).get hz
    obtain ⟨x, hxj, rfl⟩ := mapd_get g1
    obtain ⟨hx, hroot⟩ := ringsL_mem (List.mem_of_getElem? hxj)
    have hj12 : j < 12 := by have := (List.getElem?_eq_some_iff.mp hxj).1; omega
    have hxr := (root_iff.mp hroot).1
    have hA := root_ahead ok hx hxr
    have hwr : wayR N x ≠ [] := fun z => by rw [z] at hxr; cases hxr
    obtain ⟨ra, rfl, _, hra⟩ := nats_at g2
    have hr0 : (natV (wayR N x))[0]? = some (.int (x : Nat)) := by
      rw [ahead_path hA]
      obtain ⟨t, e⟩ := path_head N x
      rw [e]
      rfl
    have lp := lap_pos ok hx hwr
    have hn3 := hn1.kt (k2.tr k3).kt0
    refine ⟨v, rfl, .ref ra, rfl, ra, _, 0, .int (x : Nat), rfl, rfl, SqT.of hra, atI_nat (j := 0) hr0, [], v, N, x, rfl, hn3.dx0, ok, hx, k13.tab _ ht, fun v' H4 dl k4 nw hl => ?_⟩
    rcases hl with ⟨z, _⟩ | ⟨_, mm, _, _, rfl⟩
    · exact absurd z hwr
    obtain ⟨ta, rfl, hta⟩ : ∃ ta : Addr, v' = .ref ta ∧ H4 ta = some (.tup [.int (lensR N x).sum, .int mm]) := by
      have h0 := nw [] fun s z => by cases z
      cases h0 with
      | tup n h r =>
        cases r with
        | cons r1 r => cases r with
          | cons r2 r => cases r; cases r1; cases r2; exact ⟨_, rfl, h⟩
    have elap : (lensR N x).sum = lapOf N x := rfl
    rw [elap] at hta
    refine ⟨ta, _, rfl, SqT.of hta, rfl, _, _, rfl, _, _, rfl, rfl, ?_⟩
    have k24 := k2.tr (k3.tr k4)
    have hfw4 := hfw1.kt k24.kt0
    have hl4 := k24.lst (S := []) (by simp) hl1
    have hra4 := k4.kt0 _ _ hra
    refine ⟨.int (G j : Nat), rfl, .ref l, rfl, .ref ra, rfl, l, ra, FS, wayR N x, rfl, ⟨fw, hl4, hfw4⟩, by omega, hra4, hwr, ?_, fun l5 H5 hl5 _ k5 => ?_⟩
    · exact Nat.le_trans (wayR_len ok hx) h12
    have k25 := k24.tr k5
    have lbx : (beatsX N FS x).length ≤ 40 := by
      have := List.length_filterMap_le (beatE (minN (wayR N x))) FS
      exact Nat.le_trans this (by omega)
    refine ⟨.int (lapOf N x), rfl, l5, beatsX N FS x, lapOf N x, rfl, hl5, lbx, lp, (k1.tr k25).tab _ ht5, fun l6 H6 hl6 _ k6 => ?_⟩
    refine ⟨l6, gapsZ (lapOf N x) (beatsX N FS x), rfl, hl6, by rw [gapsZ_len]; omega, fun H7 k7 => ?_⟩
    obtain ⟨bd0, bd1⟩ := roundZ_bd lp (beatsX N FS x)
    obtain ⟨z, ez⟩ : ∃ z, z = roundZ (gapsZ (lapOf N x) (beatsX N FS x)) := ⟨_, rfl⟩
    rw [← ez] at bd0 bd1 ⊢
    have hz204 : z.toNat < 2 ^ 204 := by
      have h1 := hlap x hx
      have : ((2 ^ 204 : Nat) : Int) = 2 ^ 204 := by decide
      omega
    have etk : G (j + 1) = Nat.lcm (G j) z.toNat := by
      rw [eG]
      show ((ringsL N N.length).take (j + 1)).foldl (rndS N FS) 1 = _
      rw [List.take_add_one, hxj, List.foldl_append, ez]
      rfl
    refine ⟨G j, z.toNat, by rw [Int.toNat_of_nonneg bd0], ?_, ?_, ?_⟩
    · have : (2 : Nat) ^ (204 * j + 1) ≤ 2 ^ 13000 := Nat.pow_le_pow_right (by decide) (by omega)
      exact Nat.lt_of_lt_of_le hb this
    · exact Nat.lt_of_lt_of_le hz204 (Nat.pow_le_pow_right (by decide) (by decide))
    · refine ⟨_, _, _, by rw [etk]; rfl, ?_, k3.tr (k4.tr (k5.tr (k6.tr k7)))⟩
      rw [etk]
      have h3 := lcm_le_mul (G j) z.toNat
      have h4 : G j * z.toNat < 2 ^ (204 * j + 1) * 2 ^ 204 := Nat.mul_lt_mul'' hb hz204
      rw [← Nat.pow_add] at h4
      have e5 : 204 * j + 1 + 204 = 204 * (j + 1) + 1 := by omega
      rw [e5] at h4
      exact Nat.lt_of_le_of_lt h3 h4
  · obtain ⟨o4, o5, o6, rfl, hb, k3⟩ := hP
    rw [lrv] at hb ⊢
    have eN : G (ringsL N N.length).length = roundN N FS := by rw [eG]; show (List.take _ _).foldl _ _ = _; rw [List.take_length]; rfl
    refine ⟨.int (G (ringsL N N.length).length : Nat), rfl, ?_⟩
    rw [eN, eFS]
    exact q H3 R hR (k1.tr (k2.tr k3))
end

section
variable {P : Program} {w : World} {K : PySem.W.Frag} {mg : Str → Option Value} {base : Heap} {a : Ad}
def spNeedRing (TB : Addr) : Sp := fun vs H Q _ => ∃ (v : V) (N : Net) (x : Nat), vs = [v, .int x] ∧ Tu H v (netD N) ∧ NetOk N ∧ x < N.length ∧ wayA N x = [] ∧ GxR.TabG H TB ∧ ∀ H', Kp [] H H' → Q .non H'
theorem ok_need_ring (T : Tx K mg a) (TB : GxR.TabB base mg a.cd_is_net a.tb_is_net) : FnOk P w K mg base CX0 9 a.a_need_ring a.f_need_ring ["net", "lamp"] (spNeedRing a.tb_is_net) := by
  have G_way_of := ok_way_of (P := P) (w := w) (base := base) T TB
  refine T.need_ring.F.ok sc_need_ring (fun vs H Q E h => ?_) (fun cdv A outer s H vs Q E hr h => ?_)
  · obtain ⟨v, N, x, rfl, _⟩ := h
    rfl
  obtain ⟨v, N, x, rfl, hn, ok, hx, hA, ht, q⟩ := h
  refine ⟨_, (pss_cons (ps_asg (pe_call G_way_of (hr.mono (by decide)) (by rfl) T.way_of.g T.way_of.F.kp T.way_of.b .nil pass0 (pa_cons (pv 0) (pa_cons (pv 1) pa_nil))) (pg_tup (by rfl) (pgs_cons (pg_name (i := 2) sc_need_ring.nd rfl (by first | exact .inl rfl | exact .inr rfl)) (pgs_cons (pg_name (i := 3) sc_need_ring.nd rfl (by first | exact .inl rfl | exact .inr rfl)) pgs_nil))))
      (pss_one (ps_if (pt_truth (pv 2) (by intro _; rfl)) (pss_one ps_never) pss_nil))), ?_⟩
  refine ⟨v, rfl, .int x, rfl, [], v, N, x, rfl, hn.dx0, ok, hx, ht, fun v1 H1 k1 nw => ?_⟩
  obtain ⟨wa, pa, pr, rfl, _, hwa, hpa, hpr, _, _⟩ := way_at (nw [] fun s z => by cases z)
  refine ⟨wa, _, rfl, SqT.of hwa, rfl, _, _, rfl, _, _, rfl, rfl, ?_⟩
  rw [hA] at hpa
  refine ⟨.ref pa, rfl, _, (.inr (.inl ⟨_, SqT.of hpa, rfl⟩) : TruV K (.ref pa) H1 false), iteF ?_⟩
  exact q H1 k1
def spGaps (TB TB2 TB3 TB5 : Addr) : Sp := fun vs H Q _ => ∃ (v : V) (N : Net) (kl : Addr) (ks : Kds) (x : Nat), vs = [v, .ref kl, .int x] ∧ Tu H v (netD N) ∧ NetOk N ∧ LstOf H kl (ks.map kdD) ∧ KdsOk N ks ∧ ks.length ≤ 40 ∧ x < N.length ∧ wayA N x = [] ∧ GxR.TabG H TB ∧ GxR.TabG H TB2 ∧ GxR.TabG H TB3 ∧ GxR.TabG H TB5 ∧
  ∀ H' l' (R : List C4), Losses N ks R → LstOf H' l' ((gapsZ (lapOf N x) (beatsX N (fatesR N ks R) x)).map PyData.int) → H l' = none → Kp [] H H' → Q (.ref l') H'
theorem ok_gaps (T : Tx K mg a) (TB : GxR.TabB base mg a.cd_is_net a.tb_is_net) (TB2 : GxR.TabB base mg a.cd_lights_of a.tb_lights_of) (TB3 : GxR.TabB base mg a.cd_are_kindlings a.tb_are_kindlings) (TB5 : GxR.TabB base mg a.cd_gaps_of_beats a.tb_gaps_of_beats) : FnOk P w K mg base CX0 14 a.a_gaps a.f_gaps ["net", "kindlings", "lamp"] (spGaps a.tb_is_net a.tb_lights_of a.tb_are_kindlings a.tb_gaps_of_beats) := by
  have G_need_kindlings := ok_need_kindlings (P := P) (w := w) (base := base) T TB TB3
  have G_need_ring := ok_need_ring (P := P) (w := w) (base := base) T TB
  have G_way_of := ok_way_of (P := P) (w := w) (base := base) T TB
  have G_fates := ok_fates (P := P) (w := w) (base := base) T TB TB2 TB3
  have G_lap_of := ok_lap_of (P := P) (w := w) (base := base) T TB
  have G_beats_on_ring := ok_beats_on_ring (P := P) (w := w) (base := base) T
  have G_gaps_of_beats := ok_gaps_of_beats (P := P) (w := w) (base := base) T TB5
  refine T.gaps.F.ok sc_gaps (fun vs H Q E h => ?_) (fun cdv A outer s H vs Q E hr h => ?_)
  · obtain ⟨v, N, kl, ks, x, rfl, _⟩ := h
    rfl
  obtain ⟨v, N, kl, ks, x, rfl, hn, ok, hkl, hk, h40, hx, hA, ht, ht2, ht3, ht5, q⟩ := h
  refine ⟨_, (pss_cons (ps_expr (pe_call G_need_kindlings (hr.mono (by decide)) (by rfl) T.need_kindlings.g T.need_kindlings.F.kp T.need_kindlings.b .nil pass0 (pa_cons (pv 0) (pa_cons (pv 1) pa_nil))))
      (pss_cons (ps_expr (pe_call G_need_ring (hr.mono (by decide)) (by rfl) T.need_ring.g T.need_ring.F.kp T.need_ring.b .nil pass0 (pa_cons (pv 0) (pa_cons (pv 2) pa_nil))))
      (pss_cons (ps_asg (pe_call G_way_of (hr.mono (by decide)) (by rfl) T.way_of.g T.way_of.F.kp T.way_of.b .nil pass0 (pa_cons (pv 0) (pa_cons (pv 2) pa_nil))) (pg_tup (by rfl) (pgs_cons (pg_name (i := 3) sc_gaps.nd rfl (by first | exact .inl rfl | exact .inr rfl)) (pgs_cons (pg_name (i := 4) sc_gaps.nd rfl (by first | exact .inl rfl | exact .inr rfl)) pgs_nil))))
      (pss_cons (ps_asg (pe_call G_lap_of (hr.mono (by decide)) (by rfl) T.lap_of.g T.lap_of.F.kp T.lap_of.b .nil pass0 (pa_cons (pv 0) (pa_cons (pv 2) pa_nil))) (pg_tup (by rfl) (pgs_cons (pg_name (i := 5) sc_gaps.nd rfl (by first | exact .inl rfl | exact .inr rfl)) (pgs_cons (pg_name (i := 3) sc_gaps.nd rfl (by first | exact .inl rfl | exact .inr rfl)) pgs_nil))))
      (pss_one (ps_ret (pe_call G_gaps_of_beats (hr.mono (by decide)) (by rfl) T.gaps_of_beats.g T.gaps_of_beats.F.kp T.gaps_of_beats.b .nil pass0 (pa_cons (pe_call G_beats_on_ring (hr.mono (by decide)) (by rfl) T.beats_on_ring.g T.beats_on_ring.F.kp T.beats_on_ring.b .nil pass0 (pa_cons (pe_call G_fates (hr.mono (by decide)) (by rfl) T.fates.g T.fates.F.kp T.fates.b .nil pass0 (pa_cons (pv 0) (pa_cons (pv 1) pa_nil))) (pa_cons (pv 4) pa_nil))) (pa_cons (pv 5) pa_nil))))))))), ?_⟩
  obtain ⟨kw, hkw, hkt⟩ := hkl
  have hrr : x ∈ wayR N x := (ring_root hA).mpr (path_self N x)
  have hwr : wayR N x ≠ [] := fun e => by rw [e] at hrr; cases hrr
  have lp := lap_pos ok hx hwr
  refine ⟨v, rfl, .ref kl, rfl, v, N, kl, kw, ks, rfl, hn, ok, hkw, hkt, hk, h40, ht, ht3, fun H1 k1 => ?_⟩
  have hn1 := hn.kt k1.kt0
  refine ⟨v, rfl, .int x, rfl, v, N, x, rfl, hn1, ok, hx, hA, k1.tab _ ht, fun H2 k2 => ?_⟩
  have k02 := k1.tr k2
  have hn2 := hn.kt k02.kt0
  refine ⟨v, rfl, .int x, rfl, [], v, N, x, rfl, hn2.dx0, ok, hx, k02.tab _ ht, fun v3 H3 k3 nw => ?_⟩
  obtain ⟨wa, pa, pr, rfl, _, hwa, hpa, hpr, _, _⟩ := way_at (nw [] fun s z => by cases z)
  refine ⟨wa, _, rfl, SqT.of hwa, rfl, _, _, rfl, _, _, rfl, rfl, ?_⟩
  have k03 := k02.tr k3
  refine ⟨v, rfl, .int x, rfl, [], v, N, x, rfl, (hn.kt k03.kt0).dx0, ok, hx, k03.tab _ ht, fun v' H4 dl k4 nw hl => ?_⟩
  rcases hl with ⟨z, _⟩ | ⟨_, mm, _, _, rfl⟩
  · exact absurd z hwr
  obtain ⟨ta, rfl, hta⟩ : ∃ ta : Addr, v' = .ref ta ∧ H4 ta = some (.tup [.int (lensR N x).sum, .int mm]) := by
    have h0 := nw [] fun s z => by cases z
    cases h0 with
    | tup n h r =>
      cases r with
      | cons r1 r => cases r with
        | cons r2 r => cases r; cases r1; cases r2; exact ⟨_, rfl, h⟩
  have elap : (lensR N x).sum = lapOf N x := rfl
  rw [elap] at hta
  refine ⟨ta, _, rfl, SqT.of hta, rfl, _, _, rfl, _, _, rfl, rfl, ?_⟩
  have k04 := k03.tr k4
  have hpr4 := k4.kt0 _ _ hpr
  refine ⟨v, rfl, .ref kl, rfl, v, N, kl, kw, ks, rfl, hn.kt k04.kt0, ok, k04.lst (by simp) hkw, hkt.kt k04.kt0, hk, h40, k04.tab _ ht, k04.tab _ ht2, k04.tab _ ht3, fun R l fw H5 hR nl hl1 hfw1 k5 => ?_⟩
  have k05 := k04.tr k5
  refine ⟨.ref pr, rfl, l, pr, fatesR N ks R, wayR N x, rfl, ⟨fw, hl1, hfw1⟩, by rw [fatesR_len]; exact h40, k5.kt0 _ _ hpr4, hwr, Nat.le_trans (wayR_len ok hx) ok.hi, fun l6 H6 hl6 n6 k6 => ?_⟩
  have lbx : (beatsX N (fatesR N ks R) x).length ≤ 40 := by
    have := List.length_filterMap_le (beatE (minN (wayR N x))) (fatesR N ks R)
    rw [fatesR_len] at this
    exact Nat.le_trans this h40
  refine ⟨.int (lapOf N x), rfl, l6, beatsX N (fatesR N ks R) x, lapOf N x, rfl, hl6, lbx, lp, (k05.tr k6).tab _ ht5, fun l7 H7 hl7 n7 k7 => ?_⟩
  exact q H7 l7 R hR hl7 (Kp.free0 (k05.tr k6) n7) (k05.tr (k6.tr k7))
end

section
def spBurns2 (TB TB2 TB3 : Addr) : Sp := fun vs H Q _ => ∃ (v : V) (N : Net) (kl : Addr) (ks : Kds) (x : Nat), vs = [v, .ref kl, .int x] ∧ Tu H v (netD N) ∧ NetOk N ∧ LstOf H kl (ks.map kdD) ∧ KdsOk N ks ∧ ks.length ≤ 40 ∧ Short N ∧ x < N.length ∧ GxR.TabG H TB ∧ GxR.TabG H TB2 ∧ GxR.TabG H TB3 ∧
  ∀ u H', BurnV N ks x u → Kp [] H H' → Q u H'
theorem burns2_of {TB TB2 TB3 : Addr} (vs : List V) (H : Hp) (Q : VK) (E : XK) (h : spBurns2 TB TB2 TB3 vs H Q E) : spBurnsFrom TB TB2 TB3 vs H Q E := by
  obtain ⟨v, N, kl, ks, x, h1, h2, h3, h4, h5, h6, h7, h8, h9, h10, h11, q⟩ := h
  exact ⟨v, N, kl, ks, x, h1, h2, h3, h4, h5, h6, h7, h8, h9, h10, h11, fun H' r hr k => q _ H' (.inr ⟨r, rfl, hr⟩) k, fun H' hd k => q _ H' (.inl ⟨rfl, hd⟩) k⟩
end

section
variable {P : Program} {w : World} {K : PySem.W.Frag} {mg : Str → Option Value} {base : Heap} {a : Ad}
/-- a bag: three numbers, at most n draws were made -/
def Sack (H : Hp) (p : Addr) (n : Nat) : Prop := ∃ x y z : Int, H p = some (.lst [.int x, .int y, .int z]) ∧ 0 ≤ x ∧ 0 ≤ y ∧ y < 2 ^ 124 ∧ 0 ≤ z ∧ z ≤ 11 + 2 * n
theorem Sack.mono {H : Hp} {p : Addr} {n m : Nat} (h : Sack H p n) (l : n ≤ m) : Sack H p m := by
  obtain ⟨x, y, z, e, h1, h2, h3, h4, h5⟩ := h
  exact ⟨x, y, z, e, h1, h2, h3, h4, by omega⟩
theorem Sack.kp {S : List Addr} {H H1 : Hp} {p : Addr} {n : Nat} (h : Sack H p n) (k : Kp S H H1) (hp : p ∉ S) : Sack H1 p n := by
  obtain ⟨x, y, z, e, r⟩ := h
  exact ⟨x, y, z, k.lst hp e, r⟩
theorem Sack.new {H : Hp} {p q : Addr} {o : HO} {n : Nat} (h : Sack H p n) (nq : H q = none) : Sack (upd H q o) p n := h.kp (Kp.new (S := []) nq) (by simp)
theorem Sack.tr {H : Hp} {p : Addr} {n : Nat} (h : Sack H p n) : H p ≠ none := by
  obtain ⟨x, y, z, e, _⟩ := h
  rw [e]
  exact fun q => by cases q
theorem Sack.nt {H : Hp} {p : Addr} {n : Nat} (h : Sack H p n) : ∀ s ∈ [p], ∀ xs, H s ≠ some (.tup xs) := fun s hs xs => by
  obtain rfl : s = p := by simpa using hs
  obtain ⟨x, y, z, e, _⟩ := h
  rw [e]
  exact fun q => by cases q
def spMix : Sp := fun vs H Q _ => ∃ (p : Addr) (x y z : Int), vs = [.ref p] ∧ H p = some (.lst [.int x, .int y, .int z]) ∧ 0 ≤ y ∧ y < 2 ^ 124 ∧ 0 ≤ z ∧ z < 2 ^ 30 ∧
  ∀ y' H', 0 ≤ y' → y' < 2 ^ 124 → H' p = some (.lst [.int x, .int y', .int (z + 2)]) → Kp [p] H H' → Q .non H'
theorem ok_law_mix (T : Tx K mg a) : FnOk P w K mg base CX0 1 a.a_law_mix a.f_law_mix ["bag"] spMix := by
  refine T.law_mix.F.ok sc_law_mix (fun vs H Q E h => ?_) (fun cdv A outer s H vs Q E hr h => ?_)
  · obtain ⟨p, x, y, z, rfl, _⟩ := h
    rfl
  obtain ⟨p, x, y, z, rfl, hp, hy, hy2, hz, hz2, q⟩ := h
  refine ⟨_, (pss_cons (ps_set (i := 1) sc_law_mix.nd rfl (by first | exact .inl rfl | exact .inr rfl) (pe_ix ix_list (pv 0) pe_int (fun _ _ => rfl)))
      (pss_cons (ps_asg (pe_op op_mod (pe_op op_add (pe_op op_add (pe_op op_mulW (pv 1) (pv 1)) (pe_op op_mulW pe_int (pv 1))) (pe_ix ix_list (pv 0) pe_int (fun _ _ => rfl))) (pe_op op_add (pe_op op_powW pe_int pe_int) pe_int)) (pg_sub (pv 0) pe_int set_list))
      (pss_one (ps_asg (pe_op op_add (pe_ix ix_list (pv 0) pe_int (fun _ _ => rfl)) pe_int) (pg_sub (pv 0) pe_int set_list))))), ?_⟩
  have nt : ∀ (u : List V) ps, HO.lst u ≠ .tbl ps := fun u ps e => by cases e
  obtain ⟨M, eM⟩ : ∃ M, M = (10 : Int) ^ (37 : Int).toNat + 43 := ⟨_, rfl⟩
  have hM0 : 0 < M := by rw [eM]; decide
  have hM1 : M < 2 ^ 124 := by rw [eM]; decide
  have ya : y.natAbs < 2 ^ 124 := by omega
  refine ⟨.ref p, rfl, p, _, 1, .int y, rfl, rfl, SqL.of hp, atI_nat (j := 1) rfl, ?_⟩
  refine ⟨.int y, rfl, .int y, rfl, _, _, rfl, rfl, wide_mul (a := 124) (b := 124) ya ya (by decide) (by decide) (by decide), .int y, rfl, _, _, rfl, rfl, wide_mul (a := 20) (b := 124) (by decide) ya (by decide) (by decide) (by decide), _, _, rfl, rfl, ?_⟩
  refine ⟨.ref p, rfl, p, _, 2, .int z, rfl, rfl, SqL.of hp, atI_nat (j := 2) rfl, _, _, rfl, rfl, _, _, rfl, rfl, ⟨by decide, by decide⟩, _, _, rfl, rfl, _, _, rfl, rfl, ?_, .ref p, rfl, p, _, 1, 1, rfl, rfl, hp, rfl, ?_⟩
  · show 0 < (10 : Int) ^ (37 : Int).toNat + 43
    rw [← eM]; exact hM0
  obtain ⟨y', ey⟩ : ∃ y', y' = (y * y + 69069 * y + z) % M := ⟨_, rfl⟩
  have eH : upd H p (.lst ([V.int x, .int y, .int z].set 1 ((fun i j => V.int (i % j)) (y * y + 69069 * y + z) ((10 : Int) ^ (37 : Int).toNat + 43)))) = upd H p (.lst [.int x, .int y', .int z]) := by
    rw [ey, eM]
    rfl
  rw [eH]
  have y0 : 0 ≤ y' := by rw [ey]; exact Int.emod_nonneg _ (by omega)
  have y1 : y' < 2 ^ 124 := by have := Int.emod_lt_of_pos (y * y + 69069 * y + z) hM0; omega
  obtain ⟨H1, e1⟩ : ∃ H1, H1 = upd H p (.lst [.int x, .int y', .int z]) := ⟨_, rfl⟩
  rw [← e1]
  have hp1 : H1 p = some (.lst [.int x, .int y', .int z]) := by rw [e1]; exact upd_same
  have k1 : Kp [p] H H1 := e1 ▸ Kp.put (by simp) hp (nt _)
  refine ⟨.ref p, rfl, p, _, 2, .int z, rfl, rfl, SqL.of hp1, atI_nat (j := 2) rfl, _, _, rfl, rfl, .ref p, rfl, p, _, 2, 2, rfl, rfl, hp1, rfl, ?_⟩
  exact q y' _ y0 y1 upd_same (k1.tr (Kp.put (by simp) hp1 (nt _)))
def spBag : Sp := fun vs H Q _ => ∃ (c : Int), vs = [.int c] ∧ ∀ p, H p = none → ∀ H', Kp [] H H' → Sack H' p 0 → Q (.ref p) H'
theorem ok_law_bag (T : Tx K mg a) : FnOk P w K mg base CX0 2 a.a_law_bag a.f_law_bag ["cell"] spBag := by
  have G_law_mix := ok_law_mix (P := P) (w := w) (base := base) T
  refine T.law_bag.F.ok sc_law_bag (fun vs H Q E h => ?_) (fun cdv A outer s H vs Q E hr h => ?_)
  · obtain ⟨c, rfl, _⟩ := h
    rfl
  obtain ⟨c, rfl, q⟩ := h
  refine ⟨_, (pss_cons (ps_set (i := 1) sc_law_bag.nd rfl (by first | exact .inl rfl | exact .inr rfl) (pe_lst (pa_cons (pe_callB (call_max2 rfl) (by rfl) T.n_max (by decide +kernel) (pa_cons pe_int (pa_cons (pe_op op_sub (pv 0) (pe_op op_powW pe_int pe_int)) pa_nil))) (pa_cons (pe_op op_add (pe_op op_add (pe_op op_mulW (pe_op op_mod (pv 0) (pe_op op_powW pe_int pe_int)) pe_int) (pe_op op_powW pe_int pe_int)) pe_int) (pa_cons pe_int pa_nil)))))
      (pss_cons (ps_expr (pe_call G_law_mix (hr.mono (by decide)) (by rfl) T.law_mix.g T.law_mix.F.kp T.law_mix.b .nil pass0 (pa_cons (pv 1) pa_nil)))
      (pss_cons (ps_expr (pe_call G_law_mix (hr.mono (by decide)) (by rfl) T.law_mix.g T.law_mix.F.kp T.law_mix.b .nil pass0 (pa_cons (pv 1) pa_nil)))
      (pss_one (ps_ret (pv 1)))))), ?_⟩
  have l1 := Int.emod_nonneg c (show ((10 : Int) ^ (24 : Int).toNat) ≠ 0 by decide)
  have l2 := Int.emod_lt_of_pos c (show 0 < ((10 : Int) ^ (24 : Int).toNat) by decide)
  have l3 : ((10 : Int) ^ (24 : Int).toNat) < 2 ^ 80 := by decide
  have l5 : ((10 : Int) ^ (24 : Int).toNat) * 30011 + ((10 : Int) ^ (30 : Int).toNat) + 33 < 2 ^ 124 := by decide
  have l6 : 0 ≤ ((10 : Int) ^ (30 : Int).toNat) := by decide
  refine ⟨.int c, rfl, _, _, rfl, rfl, ⟨by decide, by decide⟩, _, _, rfl, rfl, _, _, rfl, ?_⟩
  refine ⟨.int c, rfl, _, _, rfl, rfl, ⟨by decide, by decide⟩, _, _, rfl, rfl, (by show (0 : Int) < _; decide), _, _, rfl, rfl, ?_, _, _, rfl, rfl, ⟨by decide, by decide⟩, _, _, rfl, rfl, _, _, rfl, rfl, by show 3 ≤ sizeLine; decide, fun p np => ?_⟩
  · refine wide_mul (a := 80) (b := 20) ?_ (by decide) (by decide) (by decide) (by decide)
    show (c % ((10 : Int) ^ (24 : Int).toNat)).natAbs < 2 ^ 80
    omega
  obtain ⟨x0, ex0⟩ : ∃ x0, x0 = (if (c - (10 : Int) ^ (18 : Int).toNat) > 0 then (c - (10 : Int) ^ (18 : Int).toNat) else 0) := ⟨_, rfl⟩
  obtain ⟨y0, ey0⟩ : ∃ y0, y0 = c % ((10 : Int) ^ (24 : Int).toNat) * 30011 + ((10 : Int) ^ (30 : Int).toNat) + 33 := ⟨_, rfl⟩
  have x00 : 0 ≤ x0 := by rw [ex0]; split <;> omega
  have y00 : 0 ≤ y0 := by rw [ey0]; omega
  have y01 : y0 < 2 ^ 124 := by
    rw [ey0]
    generalize c % ((10 : Int) ^ (24 : Int).toNat) = u at l1 l2
    generalize ((10 : Int) ^ (24 : Int).toNat) = v at l2 l3 l5
    generalize ((10 : Int) ^ (30 : Int).toNat) = w at l5 l6
    omega
  show gName 1 (V.ref p) _ (upd H p (.lst [.int (if (c - (10 : Int) ^ (18 : Int).toNat) > 0 then (c - (10 : Int) ^ (18 : Int).toNat) else 0), .int (c % ((10 : Int) ^ (24 : Int).toNat) * 30011 + ((10 : Int) ^ (30 : Int).toNat) + 33), .int 7])) _
  rw [← ex0, ← ey0]
  obtain ⟨H1, e1⟩ : ∃ H1, H1 = upd H p (.lst [.int x0, .int y0, .int 7]) := ⟨_, rfl⟩
  rw [← e1]
  have hp1 : H1 p = some (.lst [.int x0, .int y0, .int 7]) := by rw [e1]; exact upd_same
  have k1 : Kp [] H H1 := e1 ▸ Kp.new np
  refine ⟨.ref p, rfl, p, x0, y0, 7, rfl, hp1, y00, y01, by omega, by omega, fun y1 H2 a1 b1 hp2 k2 => ?_⟩
  refine ⟨.ref p, rfl, p, x0, y1, 7 + 2, rfl, hp2, a1, b1, by omega, by omega, fun y2 H3 a2 b2 hp3 k3 => ?_⟩
  exact ⟨.ref p, rfl, q p np H3 (Kp.drop np (k1.of0.tr (k2.tr k3))) ⟨x0, y2, 7 + 2 + 2, hp3, x00, a2, b2, by omega, by omega⟩⟩
def spDraw : Sp := fun vs H Q _ => ∃ (p : Addr) (m : Int) (n : Nat), vs = [.ref p, .int m] ∧ 0 < m ∧ m < 2 ^ 8000 ∧ Sack H p n ∧ n < 100000 ∧ ∀ r H', 0 ≤ r → r < m → Kp [p] H H' → Sack H' p (n + 1) → Q (.int r) H'
theorem ok_law_draw (T : Tx K mg a) : FnOk P w K mg base CX0 2 a.a_law_draw a.f_law_draw ["bag", "many"] spDraw := by
  have G_law_mix := ok_law_mix (P := P) (w := w) (base := base) T
  refine T.law_draw.F.ok sc_law_draw (fun vs H Q E h => ?_) (fun cdv A outer s H vs Q E hr h => ?_)
  · obtain ⟨p, m, n, rfl, _⟩ := h
    rfl
  obtain ⟨p, m, n, rfl, hm, hm2, ⟨x, y, z, hp, hx, hy, hy2, hz, hz2⟩, hn, q⟩ := h
  refine ⟨_, (pss_cons (ps_if (pt_cmpR op_gt (pe_ix ix_list (pv 0) pe_int (fun _ _ => rfl)) pe_int (nomark _)) (pss_cons (ps_set (i := 2) sc_law_draw.nd rfl (by first | exact .inl rfl | exact .inr rfl) (pe_op op_mod (pe_ix ix_list (pv 0) pe_int (fun _ _ => rfl)) (pv 1)))
      (pss_cons (ps_asg (pe_op op_fdivW (pe_ix ix_list (pv 0) pe_int (fun _ _ => rfl)) (pv 1)) (pg_sub (pv 0) pe_int set_list))
      (pss_one (ps_ret (pv 2))))) pss_nil)
      (pss_cons (ps_expr (pe_call G_law_mix (hr.mono (by decide)) (by rfl) T.law_mix.g T.law_mix.F.kp T.law_mix.b .nil pass0 (pa_cons (pv 0) pa_nil)))
      (pss_one (ps_ret (pe_op op_mod (pe_op op_fdivW (pe_ix ix_list (pv 0) pe_int (fun _ _ => rfl)) (pe_op op_powW pe_int pe_int)) (pv 1)))))), ?_⟩
  have nt : ∀ ps, HO.lst [V.int x, .int y, .int z] ≠ .tbl ps := fun ps e => by cases e
  refine ⟨.ref p, rfl, p, _, 0, .int x, rfl, rfl, SqL.of hp, atI_nat (j := 0) rfl, _, _, rfl, rfl, _, rfl, ite2 (fun e => ?_) (fun e => ?_)⟩
  · refine ⟨.ref p, rfl, p, _, 0, .int x, rfl, rfl, SqL.of hp, atI_nat (j := 0) rfl, .int m, rfl, x, m, rfl, rfl, hm, ?_⟩
    refine ⟨.ref p, rfl, p, _, 0, .int x, rfl, rfl, SqL.of hp, atI_nat (j := 0) rfl, .int m, rfl, x, m, rfl, rfl, ⟨hm, big_log hm hm2⟩, ?_⟩
    refine ⟨.ref p, rfl, p, _, 0, 0, rfl, rfl, hp, rfl, ?_⟩
    refine ⟨.int (x % m), rfl, ?_⟩
    refine q _ _ (Int.emod_nonneg _ (by omega)) (Int.emod_lt_of_pos _ hm) (Kp.put (by simp) hp nt) ⟨x / m, y, z, upd_same, Int.ediv_nonneg hx (by omega), hy, hy2, hz, by omega⟩
  · refine ⟨.ref p, rfl, p, x, y, z, rfl, hp, hy, hy2, hz, by omega, fun y1 H1 a1 b1 hp1 k1 => ?_⟩
    refine ⟨.ref p, rfl, p, _, 1, .int y1, rfl, rfl, SqL.of hp1, atI_nat (j := 1) rfl, _, _, rfl, rfl, ⟨by decide, by decide⟩, _, _, rfl, rfl, ⟨by decide, by decide⟩, .int m, rfl, _, _, rfl, rfl, hm, ?_⟩
    exact q _ _ (Int.emod_nonneg _ (by omega)) (Int.emod_lt_of_pos _ hm) k1 ⟨x, y1, z + 2, hp1, hx, a1, b1, by omega, by omega⟩
/-- one of some things -/
def spSome : Sp := fun vs H Q _ => ∃ (p l : Addr) (xs : List V) (n : Nat), vs = [.ref p, .ref l] ∧ Sack H p n ∧ n < 100000 ∧ H l = some (.lst xs) ∧ l ≠ p ∧ 0 < xs.length ∧ xs.length ≤ 1000 ∧ ∀ (i : Nat) v H', xs[i]? = some v → Kp [p] H H' → Sack H' p (n + 1) → Q v H'
theorem ok_law_some (T : Tx K mg a) : FnOk P w K mg base CX0 3 a.a_law_some a.f_law_some ["bag", "rows"] spSome := by
  have G_law_draw := ok_law_draw (P := P) (w := w) (base := base) T
  refine T.law_some.F.ok sc_law_some (fun vs H Q E h => ?_) (fun cdv A outer s H vs Q E hr h => ?_)
  · obtain ⟨p, l, xs, n, rfl, _⟩ := h
    rfl
  obtain ⟨p, l, xs, n, rfl, hj, hn, hl, nlp, h0, h1, q⟩ := h
  refine ⟨_, (pss_one (ps_ret (pe_ix ix_list (pv 1) (pe_call G_law_draw (hr.mono (by decide)) (by rfl) T.law_draw.g T.law_draw.F.kp T.law_draw.b .nil pass0 (pa_cons (pv 0) (pa_cons (pe_callB call_len_seq (by rfl) T.n_len (by decide +kernel) (pa_cons (pv 1) pa_nil)) pa_nil))) (fun _ _ => rfl)))), ?_⟩
  refine ⟨.ref l, rfl, .ref p, rfl, .ref l, rfl, l, xs, rfl, .inl (SqL.of hl), p, _, n, rfl, by omega, by
    have : (1000 : Int) < 2 ^ 8000 := by decide
    omega, hj, hn, fun r H1 a1 b1 k1 j1 => ?_⟩
  obtain ⟨v, hv⟩ : ∃ v, xs[r.toNat]? = some v := ⟨_, List.getElem?_eq_getElem (by omega)⟩
  have hl1 := k1.lst (by simpa using nlp) hl
  have er : r = ((r.toNat : Nat) : Int) := by omega
  refine ⟨l, xs, r, v, rfl, rfl, SqL.of hl1, ?_, q r.toNat v H1 hv k1 j1⟩
  rw [er]
  exact atI_nat hv
end
--END

section
variable {P : Program} {w : World} {K : PySem.W.Frag} {mg : Str → Option Value} {base : Heap} {a : Ad}
def spNet : Sp := fun vs H Q _ => ∃ (p l : Addr) (mo n : Nat) (ls : List Int), vs = [.ref p, .int mo, .ref l] ∧ Sack H p n ∧ n < 80000 ∧ 1 ≤ mo ∧ mo ≤ 12 ∧ H l = some (.lst (ls.map V.int)) ∧ l ≠ p ∧ 0 < ls.length ∧ ls.length ≤ 100 ∧ (∀ i ∈ ls, 1 ≤ i ∧ i < 10 ^ 60) ∧
  ∀ v H' N, NetOk N → Short N → N.length ≤ mo → (∀ z ∈ N, z.1 ∈ ls) → Tu H' v (netD N) → Kp [p] H H' → Sack H' p (n + 40) → Q v H'
theorem ok_law_net (T : Tx K mg a) : FnOk P w K mg base CX0 4 a.a_law_net a.f_law_net ["bag", "most", "lengths"] spNet := by
  have G_law_draw := ok_law_draw (P := P) (w := w) (base := base) T
  have G_law_some := ok_law_some (P := P) (w := w) (base := base) T
  refine T.law_net.F.ok sc_law_net (fun vs H Q E h => ?_) (fun cdv A outer s H vs Q E hr h => ?_)
  · obtain ⟨p, l, mo, n, ls, rfl, _⟩ := h
    rfl
  obtain ⟨p, l, mo, n, ls, rfl, hj, hn, hmo1, hmo2, hl, nlp, hl0, hl1, hls, q⟩ := h
  refine ⟨_, (pss_cons (ps_set (i := 3) sc_law_net.nd rfl (by first | exact .inl rfl | exact .inr rfl) (pe_op op_add pe_int (pe_call G_law_draw (hr.mono (by decide)) (by rfl) T.law_draw.g T.law_draw.F.kp T.law_draw.b .nil pass0 (pa_cons (pv 0) (pa_cons (pv 1) pa_nil)))))
      (pss_cons (ps_set (i := 4) sc_law_net.nd rfl (by first | exact .inl rfl | exact .inr rfl) (pe_lst pa_nil))
      (pss_cons (ps_for PassesOwn.never rfl (pi_range1 (by rfl) T.n_range (pa_cons (pv 3) pa_nil)) (pg_name (i := 5) sc_law_net.nd rfl (by first | exact .inl rfl | exact .inr rfl)) (pss_cons (ps_set (i := 6) sc_law_net.nd rfl (by first | exact .inl rfl | exact .inr rfl) (pe_call G_law_draw (hr.mono (by decide)) (by rfl) T.law_draw.g T.law_draw.F.kp T.law_draw.b .nil pass0 (pa_cons (pv 0) (pa_cons pe_int pa_nil))))
      (pss_cons (ps_set (i := 7) sc_law_net.nd rfl (by first | exact .inl rfl | exact .inr rfl) (pe_ix ix_list (pe_lst (pa_cons (pe_op op_mod (pe_op op_add (pv 5) pe_int) (pv 3)) (pa_cons (pe_call G_law_draw (hr.mono (by decide)) (by rfl) T.law_draw.g T.law_draw.F.kp T.law_draw.b .nil pass0 (pa_cons (pv 0) (pa_cons (pv 3) pa_nil))) (pa_cons (pv 5) (pa_cons pe_non pa_nil))))) (pe_ix ix_list (pe_lst (pa_cons pe_int (pa_cons pe_int (pa_cons pe_int (pa_cons pe_int (pa_cons pe_int (pa_cons pe_int (pa_cons pe_int (pa_cons pe_int pa_nil))))))))) (pv 6) (fun _ _ => rfl)) (fun _ _ => rfl)))
      (pss_one (ps_expr (pe_bm PySem.F.plainAttrs_list PySem.F.slot_list_append PySem.F.type_list_append mt_append (pv 4) (pa_cons (pe_tup (pa_cons (pe_call G_law_some (hr.mono (by decide)) (by rfl) T.law_some.g T.law_some.F.kp T.law_some.b .nil pass0 (pa_cons (pv 0) (pa_cons (pv 2) pa_nil))) (pa_cons (pv 7) pa_nil))) pa_nil)))))))
      (pss_one (ps_ret (pe_callTy call_tuple_of (by rfl) T.n_tuple (by decide +kernel) (pa_cons (pv 4) pa_nil))))))), ?_⟩
  have small : ∀ n : Int, n ≤ 1001 → n < 2 ^ 8000 := fun n h => by
    have : ((1001 : Int)) < 2 ^ 8000 := by decide
    omega
  -- many = 1 + _law_draw(bag, most)
  refine ⟨.ref p, rfl, .int mo, rfl, p, mo, n, rfl, by omega, small _ (by omega), hj, by omega, fun r1 H1 a1 b1 k1 j1 => ⟨_, _, rfl, rfl, ?_⟩⟩
  obtain ⟨m, em⟩ : ∃ m : Nat, (1 + r1 : Int) = m := ⟨(1 + r1).toNat, by omega⟩
  show tSeq _ _ _ (List.set _ 3 (some (V.int (1 + r1)))) _
  rw [em]
  have hm1 : 1 ≤ m ∧ m ≤ mo := by omega
  -- found = []
  refine ⟨Nat.zero_le _, fun f nf => ?_⟩
  obtain ⟨H2, e2⟩ : ∃ H2, H2 = upd H1 f (.lst []) := ⟨_, rfl⟩
  rw [← e2]
  have k2 : Kp [] H1 H2 := e2 ▸ Kp.new nf
  have hf2 : H2 f = some (.lst []) := by rw [e2]; exact upd_same
  have j2 := j1.kp k2 (by simp)
  have nfp : f ≠ p := fun e => j1.tr (e ▸ nf)
  have hl2 := k2.lst (by simp) (k1.lst (by simpa using nlp) hl)
  have nlf : l ≠ f := fun e => by rw [← e] at nf; rw [k1.lst (by simpa using nlp) hl] at nf; cases nf
  -- for spot in range(many)
  refine ⟨.int m, rfl, m, rfl, by omega, by omega, for_range (n := m) (fun i σ H' => ∃ (o5 o6 o7 : Option V) (ws : List V) (N : Net), σ = [some (.ref p), some (.int mo), some (.ref l), some (.int m), some (.ref f), o5, o6, o7] ∧ H' f = some (.lst ws) ∧ TuA H' ws (N.map lampD) ∧ N.length = i ∧ (∀ z ∈ N, z.1 ∈ ls ∧ ∀ y, z.2 = some y → y < m) ∧ Sack H' p (n + 1 + 3 * i) ∧ Kp [f, p] H2 H') ⟨none, none, none, [], [], rfl, hf2, .nil, rfl, fun z hz => (by cases hz), j2.mono (by omega), .rfl'⟩ (fun i σ H3 hi hP => ?_) (fun σ H3 hP => ?_)⟩
  · obtain ⟨o5, o6, o7, ws, N, rfl, hf3, hws3, hNl, hN, j3, k3⟩ := hP
    rw [show (0 + (i : Int)) = (i : Int) by omega]
    -- way = _law_draw(bag, 8)
    refine ⟨.ref p, rfl, p, 8, _, rfl, by decide, by decide, j3, by omega, fun r4 H4 a4 b4 k4 j4 => ?_⟩
    -- following = [..][..]
    refine ⟨.int i, rfl, _, _, rfl, rfl, .int m, rfl, _, _, rfl, rfl, by show (0 : Int) < (m : Nat); omega, ?_⟩
    refine ⟨.ref p, rfl, .int m, rfl, p, m, _, rfl, by omega, small _ (by omega), j4, by omega, fun r5 H5 a5 b5 k5 j5 => ?_⟩
    refine ⟨.int i, rfl, by show 4 ≤ sizeLine; decide, fun l1 nl1 => ?_⟩
    obtain ⟨H6, e6⟩ : ∃ H6, H6 = upd H5 l1 (.lst [(fun i j => V.int (i % j)) (((i : Nat) : Int) + 1) ((m : Nat) : Int), .int r5, .int ((i : Nat) : Int), .non]) := ⟨_, rfl⟩
    have k6 : Kp [] H5 H6 := e6 ▸ Kp.new nl1
    have hl16 : H6 l1 = some (.lst [.int ((((i : Nat) : Int) + 1) % m), .int r5, .int i, .non]) := by rw [e6]; exact upd_same
    first
      | rw [← e6]
      | (have e6' := e6.symm; simp only at e6'; rw [e6'])
    refine ⟨by show 8 ≤ sizeLine; decide, fun l2 nl2 => ?_⟩
    obtain ⟨H7, e7⟩ : ∃ H7, H7 = upd H6 l2 (.lst [.int 0, .int 0, .int 0, .int 0, .int 1, .int 1, .int 2, .int 3]) := ⟨_, rfl⟩
    rw [← e7]
    have k7 : Kp [] H6 H7 := e7 ▸ Kp.new nl2
    have hl27 : H7 l2 = some (.lst [.int 0, .int 0, .int 0, .int 0, .int 1, .int 1, .int 2, .int 3]) := by rw [e7]; exact upd_same
    obtain ⟨wv, hwv, hw4⟩ : ∃ wv : Int, atI [V.int 0, .int 0, .int 0, .int 0, .int 1, .int 1, .int 2, .int 3] r4 = some (.int wv) ∧ (wv = 0 ∨ wv = 1 ∨ wv = 2 ∨ wv = 3) := by
      have : r4 = 0 ∨ r4 = 1 ∨ r4 = 2 ∨ r4 = 3 ∨ r4 = 4 ∨ r4 = 5 ∨ r4 = 6 ∨ r4 = 7 := by omega
      rcases this with rfl | rfl | rfl | rfl | rfl | rfl | rfl | rfl
      · exact ⟨0, rfl, .inl rfl⟩
      · exact ⟨0, rfl, .inl rfl⟩
      · exact ⟨0, rfl, .inl rfl⟩
      · exact ⟨0, rfl, .inl rfl⟩
      · exact ⟨1, rfl, .inr (.inl rfl)⟩
      · exact ⟨1, rfl, .inr (.inl rfl)⟩
      · exact ⟨2, rfl, .inr (.inr (.inl rfl))⟩
      · exact ⟨3, rfl, .inr (.inr (.inr rfl))⟩
    obtain ⟨fo, hfo, hfm⟩ : ∃ fo : Option Nat, atI [V.int ((((i : Nat) : Int) + 1) % m), .int r5, .int i, .non] wv = some (nxV fo) ∧ ∀ y, fo = some y → y < m := by
      rcases hw4 with rfl | rfl | rfl | rfl
      · have h0 := Int.emod_nonneg ((i : Int) + 1) (show ((m : Nat) : Int) ≠ 0 by omega)
        have h1 := Int.emod_lt_of_pos ((i : Int) + 1) (show (0 : Int) < (m : Nat) by omega)
        refine ⟨some ((((i : Nat) : Int) + 1) % m).toNat, ?_, fun y hy => by cases hy; omega⟩
        show some (V.int ((((i : Nat) : Int) + 1) % m)) = some (V.int ((((((i : Nat) : Int) + 1) % m).toNat : Nat) : Int))
        rw [Int.toNat_of_nonneg h0]
      · refine ⟨some r5.toNat, ?_, fun y hy => by cases hy; omega⟩
        show some (V.int r5) = some (V.int ((r5.toNat : Nat) : Int))
        rw [Int.toNat_of_nonneg a5]
      · exact ⟨some i, rfl, fun y hy => by cases hy; exact hi⟩
      · exact ⟨none, rfl, fun y hy => by cases hy⟩
    refine ⟨.int r4, rfl, l2, _, r4, .int wv, rfl, rfl, SqL.of hl27, hwv, l1, _, wv, nxV fo, rfl, rfl, SqL.of (k7.lst (by simp) hl16), hfo, ?_⟩
    have k57 := k6.tr k7
    have k37 : Kp [p] H3 H7 := k4.tr (k5.tr k57.of0)
    have j7 := j5.kp k57 (by simp)
    have hf7 := k37.lst (by simpa using nfp) hf3
    have pnt : ∀ s ∈ [p], ∀ zs, H3 s ≠ some (.tup zs) := j3.nt
    have t37 := k37.kt pnt
    have hl7 := k37.lst (by simpa using nlp) (k3.lst (by simp [nlf, nlp]) hl2)
    -- found.append((_law_some(bag, lengths), following))
    refine ⟨.ref f, rfl, .inl ⟨rfl, _, SqL.of hf7⟩, .ref p, rfl, .ref l, rfl, p, l, ls.map V.int, _, rfl, j7, by omega, hl7, nlp, by rw [List.length_map]; exact hl0, by rw [List.length_map]; omega, fun i9 v9 H9 hv9 k9 j9 => ?_⟩
    rw [List.getElem?_map] at hv9
    cases hb9 : ls[i9]? with
    | none => rw [hb9] at hv9; cases hv9
    | some b9 =>
      rw [hb9] at hv9
      cases hv9
      have hb9m := List.mem_of_getElem? hb9
      have k39 := k37.tr k9
      have hf9 := k9.lst (by simpa using nfp) hf7
      refine ⟨nxV fo, rfl, by show 2 ≤ sizeLine; decide, fun tn ntn => ?_⟩
      have kn : Kp [] H9 (upd H9 tn (.tup [.int b9, nxV fo])) := Kp.new ntn
      have hf10 := kn.lst (by simp) hf9
      have lws : ws.length ≤ 12 := by rw [hws3.len, List.length_map]; omega
      have t39 : Kt H3 H9 := k39.kt pnt
      have t10 : Kt (upd H9 tn (.tup [.int b9, nxV fo])) (upd (upd H9 tn (.tup [.int b9, nxV fo])) f (.lst (ws ++ [.ref tn]))) := Kt.put hf10 fun _ z => by cases z
      refine ⟨f, ws, .ref tn, rfl, rfl, hf10, Nat.lt_of_le_of_lt lws (by decide), _, _, _, ws ++ [.ref tn], N ++ [(b9, fo)], rfl, upd_same, ?_, by rw [List.length_append, hNl]; rfl, fun z hz => ?_, ?_, ?_⟩
      · rw [List.map_append]
        refine ((hws3.kt t39).kt (kn.kt0.tr t10)).app (.cons (.tup (t10 _ _ upd_same) (.cons (.int _) (.cons (nx_tu _) .nil))) .nil)
      · rcases List.mem_append.mp hz with y | y
        · exact hN z y
        · rw [List.mem_singleton.mp y]
          exact ⟨hb9m, hfm⟩
      · exact ((j9.kp kn (by simp)).kp (Kp.put (S := [f]) (by simp) hf10 fun _ z => by cases z) (by simpa using nfp.symm)).mono (by omega)
      · exact k3.tr ((k39.wk fun x z => by rw [List.mem_singleton.mp z]; simp).tr (kn.of0.tr (Kp.put (by simp) hf10 fun _ z => by cases z)))
  · obtain ⟨o5, o6, o7, ws, N, rfl, hf3, hws3, hNl, hN, j3, k3⟩ := hP
    refine ⟨.ref f, rfl, f, ws, rfl, .inl ⟨SqL.of hf3, fun tp ntp => ?_⟩⟩
    have okN : NetOk N := ⟨by omega, by omega, fun z hz => (hls _ (hN z hz).1).1, fun z hz y hy => by rw [hNl]; exact (hN z hz).2 y hy⟩
    have nfH : H f = none := by
      cases z : H f with
      | none => rfl
      | some o => exact absurd nf (k1.tr_ f (by rw [z]; exact fun y => by cases y))
    refine q (.ref tp) _ N okN (fun z hz => (hls _ (hN z hz).1).2) (by omega) (fun z hz => (hN z hz).1) (.tup upd_same (hws3.kt (Kt.new ntp))) (Kp.drop nfH ((k1.wk fun x z => by rw [List.mem_singleton.mp z]; simp).tr (k2.of0.tr (k3.tr (Kp.new ntp))))) ((j3.kp (Kp.new (S := []) ntp) (by simp)).mono (by omega))
/-- a lamp's ring from it on, or nothing -/
def ringOf (N : Net) (x : Nat) : List Nat := if wayA N x = [] then wayR N x else []
def spRing : Sp := fun vs H Q _ => ∃ (v : V) (N : Net) (x : Nat), vs = [v, .int x] ∧ Tu H v (netD N) ∧ NetOk N ∧ x < N.length ∧ ∀ l H', H l = none → H' l = some (.lst (natV (ringOf N x))) → Kp [] H H' → Q (.ref l) H'
theorem ok_law_ring (T : Tx K mg a) : FnOk P w K mg base CX0 1 a.a_law_ring a.f_law_ring ["lamps", "spot"] spRing := by
  refine T.law_ring.F.ok sc_law_ring (fun vs H Q E h => ?_) (fun cdv A outer s H vs Q E hr h => ?_)
  · obtain ⟨v, N, x, rfl, _⟩ := h
    rfl
  obtain ⟨v, N, x, rfl, hd, ok, hx, q⟩ := h
  refine ⟨_, (pss_cons (ps_set (i := 2) sc_law_ring.nd rfl (by first | exact .inl rfl | exact .inr rfl) (pe_lst (pa_cons (pv 1) pa_nil)))
      (pss_cons (ps_for PassesOwn.never rfl (pi_range1 (by rfl) T.n_range (pa_cons (pe_callB call_len_seq (by rfl) T.n_len (by decide +kernel) (pa_cons (pv 0) pa_nil)) pa_nil)) (pg_name (i := 3) sc_law_ring.nd rfl (by first | exact .inl rfl | exact .inr rfl)) (pss_cons (ps_set (i := 4) sc_law_ring.nd rfl (by first | exact .inl rfl | exact .inr rfl) (pe_ix ix_tup (pe_ix ix_tup (pv 0) (pe_ix ix_list (pv 2) (pe_un un_neg pe_int) (fun _ _ => rfl)) (fun _ _ => rfl)) pe_int (fun _ _ => rfl)))
      (pss_cons (ps_if (pt_cmpR op_isN (pv 4) pe_non (nomark _)) (pss_one (ps_ret (pe_lst pa_nil))) pss_nil)
      (pss_cons (ps_if (pt_cmpR (op_eqD hr.units) (pv 4) (pv 1) (nomark _)) (pss_one (ps_ret (pv 2))) pss_nil)
      (pss_one (ps_expr (pe_bm PySem.F.plainAttrs_list PySem.F.slot_list_append PySem.F.type_list_append mt_append (pv 2) (pa_cons (pv 4) pa_nil))))))))
      (pss_one (ps_ret (pe_lst pa_nil))))), ?_⟩
  have h12 := ok.hi
  -- found = [spot]
  refine ⟨.int x, rfl, by show 1 ≤ sizeLine; decide, fun f nf => ?_⟩
  obtain ⟨H1, e1⟩ : ∃ H1, H1 = upd H f (.lst [.int x]) := ⟨_, rfl⟩
  rw [← e1]
  have k1 : Kp [] H H1 := e1 ▸ Kp.new nf
  have hf1 : H1 f = some (.lst (natV [x])) := by rw [e1]; exact upd_same
  obtain ⟨ad, xs, rfl, hxs, hln, hat⟩ := tnet_at (hd.kt k1.kt0)
  refine ⟨.ref ad, rfl, ad, xs, rfl, .inr (SqT.of hxs), N.length, by rw [hln], by omega, by omega, for_range (n := N.length) (fun i σ H' => ∃ (o3 o4 : Option V) (g : List Nat) (z : Nat), σ = [some (.ref ad), some (.int x), some (.ref f), o3, o4] ∧ H' f = some (.lst (natV g)) ∧ g.length = i + 1 ∧ g[g.length - 1]? = some z ∧ goS N i x = some z ∧ z < N.length ∧ (wayA N x = [] → i < (path N x).length ∧ g = (path N x).take (i + 1)) ∧ Kp [f] H1 H' ∧ Kt H1 H') ⟨none, none, [x], x, rfl, hf1, rfl, rfl, rfl, hx, fun _ => ?_, .rfl', .rfl'⟩ (fun i σ H2 hi hP => ?_) (fun σ H2 hP => ?_)⟩
  · obtain ⟨t, e⟩ := path_head N x
    rw [e]
    exact ⟨by simp, rfl⟩
  · obtain ⟨o3, o4, g, z, rfl, hf2, hgl, hgz, hgo, hz, hring, k2, t2⟩ := hP
    have hNz := List.getElem?_eq_getElem hz
    obtain ⟨la, hxl, hla⟩ := hat z _ hNz
    have hat1 : atI (natV g) (-1) = some (.int (z : Nat)) := atI_end (by rw [natV_len]; exact natV_get hgz)
    refine ⟨.ref ad, rfl, .ref f, rfl, _, rfl, f, natV g, -1, .int (z : Nat), rfl, rfl, SqL.of hf2, hat1, ad, xs, z, .ref la, rfl, rfl, SqT.of (t2 _ _ hxs), atI_nat hxl, la, _, 1, nxV (N[z]'hz).2, rfl, rfl, SqT.of (t2 _ _ hla), atI_nat (j := 1) rfl, ?_⟩
    have enx : (N[z]'hz).2 = nxt N z := (nxt_get hNz).symm
    rw [enx]
    have hgoS : goS N (i + 1) x = nxt N z := by
      show (goS N i x).bind (nxt N) = _
      rw [hgo]; rfl
    have hA : ∀ y, goS N (i + 1) x = some y → y = x → wayA N x = [] := fun y h e => by
      rw [e] at h
      exact root_ahead ok hx ((wayR_iff ok hx).mpr ⟨⟨0, rfl⟩, i + 1, by omega, h⟩)
    have cut0 : wayA N x = [] → cutN N x = 0 := fun h => by
      have := wayA_len ok hx
      rw [h] at this
      exact this.symm
    have lenP := (path_been ok hx).le
    have posP := (path_been ok hx).pos
    cases hnz : nxt N z with
    | none =>
      rw [hnz] at hgoS
      refine ⟨.non, rfl, rfl, _, rfl, iteT ?_⟩
      have e0 : ringOf N x = [] := by
        unfold ringOf
        split
        · rename_i h
          exfalso
          have hr : wayR N x ≠ [] := by
            rw [ahead_path h]
            exact fun e => by rw [e] at posP; exact absurd posP (by decide)
          obtain ⟨y, hy, _⟩ := goS_on ok hx hr (i + 1)
          rw [hgoS] at hy
          cases hy
        · rfl
      rw [e0] at q
      exact ⟨Nat.zero_le _, fun p np => q p _ (by
        cases z : H p with
        | none => rfl
        | some o => exact absurd np (k2.tr_ p (k1.tr_ p (by rw [z]; exact fun y => by cases y)))) upd_same (Kp.drop nf (k1.of0.tr (k2.tr (Kp.new np))))⟩
    | some y =>
      rw [hnz] at hgoS
      have hyl : y < N.length := by
        rw [hnz] at enx
        exact ok.nx _ (List.getElem_mem hz) y enx
      refine ⟨.int y, rfl, rfl, _, rfl, iteF ?_⟩
      refine ⟨.int y, rfl, .int x, rfl, .int y, .int x, .int _, .int _, rfl, rfl, _, rfl, ?_⟩
      by_cases hyx : y = x
      · subst hyx
        rw [SeqAt.eqv_refl _ rfl]
        refine iteT ⟨.ref f, rfl, ?_⟩
        have h0 := hA y hgoS rfl
        obtain ⟨hil, hg⟩ := hring h0
        have hfull : (path N y).length = i + 1 := by
          rcases Nat.lt_or_ge (i + 1) (path N y).length with q1 | q1
          · exfalso
            have h1 := goS_path (i + 1) _ (List.getElem?_eq_getElem q1)
            rw [hgoS] at h1
            have h1 := Option.some.inj h1
            obtain ⟨t, e⟩ := path_head N y
            have h2 : (path N y)[0]? = some y := by rw [e]; rfl
            have h3 : (path N y)[i + 1]? = some y := by rw [List.getElem?_eq_getElem q1, ← h1]
            have := nodup_get (path_been ok hx).nd h2 h3
            omega
          · omega
        have eg : ringOf N y = g := by
          unfold ringOf
          rw [if_pos h0, ahead_path h0, hg, ← hfull, List.take_length]
        exact q f H2 nf (by rw [eg]; exact hf2) (Kp.drop nf (k1.of0.tr k2))
      · rw [show PyData.eqv (.int ((y : Nat) : Int)) (.int ((x : Nat) : Int)) = false from by
          show (((y : Nat) : Int) == ((x : Nat) : Int)) = false
          rw [beq_eq_false_iff_ne]
          omega]
        refine iteF ⟨.ref f, rfl, .inl ⟨rfl, _, SqL.of hf2⟩, .int y, rfl, f, natV g, .int y, rfl, rfl, hf2, Nat.lt_of_le_of_lt (show (natV g).length ≤ 13 by rw [natV_len]; omega) (by decide), ?_⟩
        have t3 : Kt H2 (upd H2 f (.lst (natV g ++ [.int ((y : Nat) : Int)]))) := Kt.put hf2 fun _ z => by cases z
        refine ⟨_, _, g ++ [y], y, rfl, by rw [← natV_app]; exact upd_same, by rw [List.length_append, hgl]; rfl, by rw [List.length_append, hgl]; show (g ++ [y])[i + 1 + 1 - 1]? = _; rw [List.getElem?_append_right (by omega), hgl]; simp, hgoS, hyl, fun h0 => ?_, k2.tr (Kp.put (by simp) hf2 fun _ z => by cases z), t2.tr t3⟩
        obtain ⟨hil, hg⟩ := hring h0
        have hlt : i + 1 < (path N x).length := by
          rcases Nat.lt_or_ge (i + 1) (path N x).length with q1 | q1
          · exact q1
          · exfalso
            have e1 : i + 1 = (path N x).length := by omega
            have h1 := goS_len ok hx
            rw [cut0 h0, if_pos (by omega), ← e1, hgoS] at h1
            obtain ⟨t, e⟩ := path_head N x
            rw [e] at h1
            exact hyx (Option.some.inj h1)
        refine ⟨hlt, ?_⟩
        have h1 := goS_path (i + 1) _ (List.getElem?_eq_getElem hlt)
        rw [hgoS] at h1
        have h1 := Option.some.inj h1
        rw [List.take_add_one, List.getElem?_eq_getElem hlt, ← h1, ← hg]
        rfl
  · obtain ⟨o3, o4, g, z, rfl, hf2, hgl, hgz, hgo, hz, hring, k2, t2⟩ := hP
    have e0 : ringOf N x = [] := by
      unfold ringOf
      split
      · rename_i h
        have := (hring h).1
        have := (path_been ok hx).le
        omega
      · rfl
    rw [e0] at q
    exact ⟨Nat.zero_le _, fun p np => q p _ (by
      cases z : H p with
      | none => rfl
      | some o => exact absurd np (k2.tr_ p (k1.tr_ p (by rw [z]; exact fun y => by cases y)))) upd_same (Kp.drop nf (k1.of0.tr (k2.tr (Kp.new np))))⟩
/-- the lap and the greatest length -/
def LapOf (N : Net) (x : Nat) (lap m : Int) : Prop := lap = ((ringOf N x).map (burnOf N)).sum ∧ (∀ y ∈ ringOf N x, burnOf N y ≤ m) ∧ (m = 0 ∨ ∃ y ∈ ringOf N x, m = burnOf N y)
def spLapL : Sp := fun vs H Q _ => ∃ (v : V) (N : Net) (x : Nat), vs = [v, .int x] ∧ Tu H v (netD N) ∧ NetOk N ∧ x < N.length ∧ ∀ t H' lap m, H' t = some (.tup [.int lap, .int m]) → LapOf N x lap m → 0 ≤ m → Kp [] H H' → Q (.ref t) H'
theorem ok_law_lap (T : Tx K mg a) : FnOk P w K mg base CX0 2 a.a_law_lap a.f_law_lap ["lamps", "spot"] spLapL := by
  have G_law_ring := ok_law_ring (P := P) (w := w) (base := base) T
  refine T.law_lap.F.ok sc_law_lap (fun vs H Q E h => ?_) (fun cdv A outer s H vs Q E hr h => ?_)
  · obtain ⟨v, N, x, rfl, _⟩ := h
    rfl
  obtain ⟨v, N, x, rfl, hd, ok, hx, q⟩ := h
  refine ⟨_, (pss_cons (ps_setLc (i := 2) (own := [("one", 3)]) (g := gName 3) (by rfl) sc_law_lap.nd rfl rfl (sw_true rfl rfl rfl (by decide +kernel)) (pi_list (pe_call G_law_ring (hr.mono (by decide)) (by rfl) T.law_ring.g T.law_ring.F.kp T.law_ring.b .nil pass0 (pa_cons (pv 0) (pa_cons (pv 1) pa_nil)))) (blkOk_by (own := [("one", 3)]) (N := s_law_lap_N) (sc := defScope s_law_lap) (by decide +kernel)) (fun _ _ _ _ _ => (pg_name (i := 3) sc_law_lap.nd rfl (by first | exact .inl rfl | exact .inr rfl))) (fun _ _ _ _ _ => pts_nil) (fun _ _ _ _ _ => (pe_ix (ix_tupK (K := K) rfl) (pe_ix (ix_tupK (K := K) rfl) (pv 0) (pv 3) (fun _ _ => rfl)) pe_int (fun _ _ => rfl))))
      (pss_one (ps_ret (pe_tup (pa_cons (pe_callB (cr_sum rfl) (by rfl) T.n_sum (by decide +kernel) (pa_cons (pv 2) pa_nil)) (pa_cons (pe_callB (cr_max rfl) (by rfl) T.n_max (by decide +kernel) (pa_cons (pe_op op_catL (pe_lst (pa_cons pe_int pa_nil)) (pv 2)) pa_nil)) pa_nil)))))), ?_⟩
  refine ⟨v, rfl, .int x, rfl, v, N, x, rfl, hd, ok, hx, fun l H1 nl hl k1 => ?_⟩
  have hd1 := hd.kt k1.kt0
  obtain ⟨ad, xs, rfl, hxs, hln, hat⟩ := tnet_at hd1
  have h12 := ok.hi
  obtain ⟨G, hG⟩ : ∃ G, G = ringOf N x := ⟨_, rfl⟩
  rw [← hG] at hl
  have hGlt : ∀ y ∈ G, y < N.length := fun y hy => by
    rw [hG] at hy
    unfold ringOf at hy
    split at hy
    · exact way_sub ok hx y hy
    · cases hy
  have lG : G.length ≤ 12 := by
    rw [hG]
    unfold ringOf
    split
    · have e := way_cat N x
      have l1 := (path_been ok hx).le
      rw [← e, List.length_append] at l1
      omega
    · exact Nat.zero_le _
  refine ⟨l, rfl, ⟨_, SqL.of hl⟩, fun D nD => lcm_list G (fun n : Nat => PyData.int (n : Int)) (fun i : Int => PyData.int i) (burnOf N) hl (nat_tu G) nD (by omega) (fun j z u Hj Q' R' hz hu hzt kj qq => ?_) (fun ws H2 hD hws k2 => ?_)⟩
  · cases hzt
    have hzl := hGlt z (List.mem_of_getElem? hz)
    have hNz := List.getElem?_eq_getElem hzl
    obtain ⟨la, hxl, hla⟩ := hat z _ hNz
    refine ⟨rfl, .ref ad, rfl, .int (z : Nat), rfl, ad, xs, z, .ref la, rfl, rfl, SqT.of (kj.kt0 _ _ hxs), atI_nat hxl, la, _, 0, .int (N[z]'hzl).1, rfl, rfl, SqT.of (kj.kt0 _ _ hla), atI_nat (j := 0) rfl, qq _ _ .rfl' ?_⟩
    rw [burnOf_get hNz]
    exact .int _
  have ews : ws = (G.map (burnOf N)).map V.int := tu_int hws
  rw [ews] at hD
  refine ⟨.ref D, rfl, D, G.map (burnOf N), rfl, SqL.of hD, ?_⟩
  refine ⟨by show 1 ≤ sizeLine; decide, fun z0 nz0 => ?_⟩
  obtain ⟨H3, e3⟩ : ∃ H3, H3 = upd H2 z0 (.lst [.int 0]) := ⟨_, rfl⟩
  rw [← e3]
  have k3 : Kp [] H2 H3 := e3 ▸ Kp.new nz0
  have hz0 : H3 z0 = some (.lst [.int 0]) := by rw [e3]; exact upd_same
  refine ⟨.ref D, rfl, z0, D, _, _, rfl, rfl, SqL.of hz0, SqL.of (k3.lst (by simp) hD), Nat.le_trans (show [V.int 0].length + ((G.map (burnOf N)).map V.int).length ≤ 13 by rw [List.length_map, List.length_map]; show 1 + _ ≤ _; omega) (by decide), fun c nc => ?_⟩
  obtain ⟨H4, e4⟩ : ∃ H4, H4 = upd H3 c (.lst ([V.int 0] ++ (G.map (burnOf N)).map V.int)) := ⟨_, rfl⟩
  rw [← e4]
  have k4 : Kp [] H3 H4 := e4 ▸ Kp.new nc
  have hc4 : H4 c = some (.lst ((0 :: G.map (burnOf N)).map V.int)) := by rw [e4]; exact upd_same
  refine ⟨c, 0 :: G.map (burnOf N), rfl, SqL.of hc4, by simp, fun m hm1 hm2 => ⟨by show 2 ≤ sizeLine; decide, fun tp ntp => ?_⟩⟩
  refine q tp _ _ m upd_same ⟨by rw [hG], fun y hy => hm2 _ (List.mem_cons_of_mem _ (List.mem_map.mpr ⟨y, by rw [hG]; exact hy, rfl⟩)), ?_⟩ (hm2 0 List.mem_cons_self) (k1.tr (k2.tr (k3.tr (k4.tr (Kp.new ntp)))))
  rcases List.mem_cons.mp hm1 with e | e
  · exact .inl e
  · obtain ⟨y, hy, e⟩ := List.mem_map.mp e
    exact .inr ⟨y, by rw [← hG]; exact hy, e.symm⟩
end
--END

section
variable {P : Program} {w : World} {K : PySem.W.Frag} {mg : Str → Option Value} {base : Heap} {a : Ad}
/-- kindlings of a net, not late -/
def RowsOk (N : Net) (mo la : Nat) (ks : Kds) : Prop := KdsOk N ks ∧ (∀ z ∈ ks, (z.1 : Int) < la + totN N)
def spRows : Sp := fun vs H Q _ => ∃ (p : Addr) (n : Nat) (v : V) (N : Net) (mo la : Nat), vs = [.ref p, v, .int mo, .int la] ∧ Sack H p n ∧ n < 50000 ∧ Tu H v (netD N) ∧ NetOk N ∧ Short N ∧ mo ≤ 38 ∧ 1 ≤ la ∧ (la : Int) < 10 ^ 60 ∧
  ∀ l H' ks, H l = none → LstOf H' l (ks.map kdD) → RowsOk N mo la ks → ks.length ≤ 40 → Kp [p] H H' → Sack H' p (n + 200) → Q (.ref l) H'
theorem ok_law_rows (T : Tx K mg a) : FnOk P w K mg base CX0 3 a.a_law_rows a.f_law_rows ["bag", "lamps", "most", "late"] spRows := by
  have G_law_draw := ok_law_draw (P := P) (w := w) (base := base) T
  have G_law_lap := ok_law_lap (P := P) (w := w) (base := base) T
  refine T.law_rows.F.ok sc_law_rows (fun vs H Q E h => ?_) (fun cdv A outer s H vs Q E hr h => ?_)
  · obtain ⟨p, n, v, N, mo, la, rfl, _⟩ := h
    rfl
  obtain ⟨p, n, v, N, mo, la, rfl, hj, hn, hd, ok, sh, hmo, hla1, hla2, q⟩ := h
  refine ⟨_, (pss_cons (ps_setLc (i := 4) (own := [("turn", 5)]) (g := gName 5) (by rfl) sc_law_rows.nd rfl rfl (sw_true rfl rfl rfl (by decide +kernel)) (pi_range1 (by rfl) T.n_range (pa_cons (pe_call G_law_draw (hr.mono (by decide)) (by rfl) T.law_draw.g T.law_draw.F.kp T.law_draw.b .nil pass0 (pa_cons (pv 0) (pa_cons (pe_op op_add (pv 2) pe_int) pa_nil))) pa_nil)) (blkOk_by (own := [("turn", 5)]) (N := s_law_rows_N) (sc := defScope s_law_rows) (by decide +kernel)) (fun _ _ _ _ _ => (pg_name (i := 5) sc_law_rows.nd rfl (by first | exact .inl rfl | exact .inr rfl))) (fun _ _ _ _ _ => pts_nil) (fun _ _ _ _ _ => (pe_tup (pa_cons (pe_call G_law_draw (hr.mono (by decide)) (by rfl) T.law_draw.g T.law_draw.F.kp T.law_draw.b .nil pass0 (pa_cons (pv 0) (pa_cons (pv 3) pa_nil))) (pa_cons (pe_call G_law_draw (hr.mono (by decide)) (by rfl) T.law_draw.g T.law_draw.F.kp T.law_draw.b .nil pass0 (pa_cons (pv 0) (pa_cons (pe_callB (call_len_seqK (K := K) rfl) (by rfl) T.n_len (by decide +kernel) (pa_cons (pv 1) pa_nil)) pa_nil))) pa_nil)))))
      (pss_cons (ps_set (i := 6) sc_law_rows.nd rfl (by first | exact .inl rfl | exact .inr rfl) (pe_call G_law_draw (hr.mono (by decide)) (by rfl) T.law_draw.g T.law_draw.F.kp T.law_draw.b .nil pass0 (pa_cons (pv 0) (pa_cons (pe_callB call_len_seq (by rfl) T.n_len (by decide +kernel) (pa_cons (pv 1) pa_nil)) pa_nil))))
      (pss_cons (ps_asg (pe_call G_law_lap (hr.mono (by decide)) (by rfl) T.law_lap.g T.law_lap.F.kp T.law_lap.b .nil pass0 (pa_cons (pv 1) (pa_cons (pv 6) pa_nil))) (pg_tup (by rfl) (pgs_cons (pg_name (i := 7) sc_law_rows.nd rfl (by first | exact .inl rfl | exact .inr rfl)) (pgs_cons (pg_name (i := 8) sc_law_rows.nd rfl (by first | exact .inl rfl | exact .inr rfl)) pgs_nil))))
      (pss_cons (ps_if (PW.pt (pw_and (pt_cmpR op_gt (pv 7) pe_int (nomark _)) (pw_and1 (pt_cmpR op_eq (pe_call G_law_draw (hr.mono (by decide)) (by rfl) T.law_draw.g T.law_draw.F.kp T.law_draw.b .nil pass0 (pa_cons (pv 0) (pa_cons pe_int pa_nil))) pe_int (nomark _))))) (pss_cons (ps_set (i := 9) sc_law_rows.nd rfl (by first | exact .inl rfl | exact .inr rfl) (pe_call G_law_draw (hr.mono (by decide)) (by rfl) T.law_draw.g T.law_draw.F.kp T.law_draw.b .nil pass0 (pa_cons (pv 0) (pa_cons (pv 3) pa_nil))))
      (pss_cons (ps_setLc (i := 10) (own := [("turn", 5)]) (g := gName 5) (by rfl) sc_law_rows.nd rfl rfl (sw_true rfl rfl rfl (by decide +kernel)) (pi_range1 (by rfl) T.n_range (pa_cons (pe_callB (call_min2 rfl) (by rfl) T.n_min (by decide +kernel) (pa_cons (pv 2) (pa_cons (pe_op op_add (pe_op op_fdivW (pv 7) (pv 8)) (pe_call G_law_draw (hr.mono (by decide)) (by rfl) T.law_draw.g T.law_draw.F.kp T.law_draw.b .nil pass0 (pa_cons (pv 0) (pa_cons pe_int pa_nil)))) pa_nil))) pa_nil)) (blkOk_by (own := [("turn", 5)]) (N := s_law_rows_N) (sc := defScope s_law_rows) (by decide +kernel)) (fun _ _ _ _ _ => (pg_name (i := 5) sc_law_rows.nd rfl (by first | exact .inl rfl | exact .inr rfl))) (fun _ _ _ _ _ => pts_nil) (fun _ _ _ _ _ => (pe_tup (pa_cons (pe_op op_add (pv 9) (pe_op op_mulW (pv 5) (pv 8))) (pa_cons (pv 6) pa_nil)))))
      (pss_cons (ps_set (i := 4) sc_law_rows.nd rfl (by first | exact .inl rfl | exact .inr rfl) (pe_slice sl_list (pv 4) po_none (po_some (pe_call G_law_draw (hr.mono (by decide)) (by rfl) T.law_draw.g T.law_draw.F.kp T.law_draw.b .nil pass0 (pa_cons (pv 0) (pa_cons pe_int pa_nil))))))
      (pss_one (ps_while PassesOwn.never (pt_cmpR (op_neD hr.units) (pv 10) (pe_lst pa_nil) (nomark _)) (pss_one (ps_expr (pe_bm PySem.F.plainAttrs_list PySem.F.slot_list_append PySem.F.type_list_append mt_append (pv 4) (pa_cons (pe_bm PySem.F.plainAttrs_list PySem.F.slot_list_pop PySem.F.type_list_pop mt_popAt (pv 10) (pa_cons (pe_call G_law_draw (hr.mono (by decide)) (by rfl) T.law_draw.g T.law_draw.F.kp T.law_draw.b .nil pass0 (pa_cons (pv 0) (pa_cons (pe_callB call_len_seq (by rfl) T.n_len (by decide +kernel) (pa_cons (pv 10) pa_nil)) pa_nil))) pa_nil)) pa_nil))))))))) pss_nil)
      (pss_one (ps_ret (pv 4))))))), ?_⟩
  have h12 := ok.hi
  have h1N := ok.lo
  have small : ∀ n : Int, n ≤ 1001 → n < 2 ^ 8000 := fun n h => by
    have : ((1001 : Int)) < 2 ^ 8000 := by decide
    omega
  have sla : (la : Int) < 2 ^ 8000 := by
    have : (10 : Int) ^ 60 < 2 ^ 8000 := by decide
    omega
  have htot : 0 ≤ totN N := sumB_nonneg ok fun y hy => List.mem_range.mp hy
  obtain ⟨ad, xn, rfl, hxn, hln, hat⟩ := tnet_at hd
  have jnt := hj.nt
  -- found
  refine ⟨.ref p, rfl, .int mo, rfl, _, _, rfl, rfl, p, (mo : Int) + 1, n, rfl, by omega, small _ (by omega), hj, by omega, fun r1 H1 a1 b1 k1 j1 => ?_⟩
  obtain ⟨m1, rfl⟩ := Int.eq_ofNat_of_zero_le a1
  have t1 : Kt H H1 := k1.kt jnt
  refine ⟨(m1 : Int), rfl, by omega, by omega, fun D nD => ?_⟩
  have nDp : D ≠ p := fun e => j1.tr (e ▸ nD)
  refine lc_range (n := m1) (fun i H' => ∃ (ws : List V) (ks : Kds), H' D = some (.lst ws) ∧ TuA H' ws (ks.map kdD) ∧ ks.length = i ∧ RowsOk N mo la ks ∧ Sack H' p (n + 1 + 2 * i) ∧ Kp [p] H1 H' ∧ Kt H1 H') ⟨[], [], upd_same, .nil, rfl, ⟨fun _ h => (by cases h), fun _ h => (by cases h)⟩, j1.kp (Kp.new (S := []) nD) (by simp), (Kp.new nD).of0, Kt.new nD⟩ (fun i H2 hi hP => ?_) (fun H2 hP => ?_)
  · obtain ⟨ws, ks, hD, hws, hkl, hro, j2, k2, t2⟩ := hP
    refine ⟨rfl, .ref p, rfl, .int la, rfl, p, la, _, rfl, by omega, sla, j2, by omega, fun r3 H3 a3 b3 k3 j3 => ?_⟩
    have t3 : Kt H2 H3 := k3.kt j2.nt
    have t03 := t1.tr (t2.tr t3)
    refine ⟨.ref p, rfl, .ref ad, rfl, ad, xn, rfl, .inr (SqT.of (t03 _ _ hxn)), p, _, _, rfl, by rw [hln]; omega, small _ (by rw [hln]; omega), j3, by omega, fun r4 H4 a4 b4 k4 j4 => ?_⟩
    rw [hln] at b4
    have t4 : Kt H3 H4 := k4.kt j3.nt
    obtain ⟨b3', rfl⟩ := Int.eq_ofNat_of_zero_le a3
    obtain ⟨x4, rfl⟩ := Int.eq_ofNat_of_zero_le a4
    refine ⟨by show 2 ≤ sizeLine; decide, fun tn ntn => ?_⟩
    have k5 : Kp [] H4 (upd H4 tn (.tup [.int (b3' : Nat), .int (x4 : Nat)])) := Kp.new ntn
    have h5 : upd H4 tn (.tup [.int (b3' : Nat), .int (x4 : Nat)]) tn = some (.tup [.int (b3' : Nat), .int (x4 : Nat)]) := upd_same
    have hD5 := k5.lst (by simp) (k4.lst (by simpa using nDp) (k3.lst (by simpa using nDp) hD))
    have j5 := j4.kp k5 (by simp)
    generalize upd H4 tn (.tup [.int (b3' : Nat), .int (x4 : Nat)]) = H5 at k5 h5 hD5 j5 ⊢
    have k6 : Kp [D] H5 (upd H5 D (.lst (ws ++ [.ref tn]))) := Kp.put (by simp) hD5 fun ps z => by cases z
    have t6 : Kt H5 (upd H5 D (.lst (ws ++ [.ref tn]))) := Kt.put hD5 fun _ z => by cases z
    have hwl : ws.length = i := by rw [hws.len, List.length_map, hkl]
    refine ⟨ws, hD5, by
      have : 100 < sizeLine := by decide
      omega, ws ++ [.ref tn], ks ++ [(b3', x4)], upd_same, ?_, by rw [List.length_append, hkl]; rfl, ⟨fun z hz => ?_, fun z hz => ?_⟩, (j5.kp k6 (by simpa using nDp.symm)).mono (by omega), ?_, t2.tr (t3.tr (t4.tr (k5.kt0.tr t6)))⟩
    · rw [List.map_append]
      exact (hws.kt (t3.tr (t4.tr (k5.kt0.tr t6)))).app (.cons (kd_of (t6 _ _ h5)) .nil)
    · rcases List.mem_append.mp hz with h | h
      · exact hro.1 z h
      · rw [List.mem_singleton.mp h]
        show x4 < N.length
        omega
    · rcases List.mem_append.mp hz with h | h
      · exact hro.2 z h
      · rw [List.mem_singleton.mp h]
        show (b3' : Int) < _
        omega
    · exact Kp.drop (S := [p]) nD (((k2.tr (k3.tr k4)).tr k5.of0).wk (fun y z => by rw [List.mem_singleton.mp z]; simp) |>.tr (k6.wk fun y z => by rw [List.mem_singleton.mp z]; simp))
  obtain ⟨ws, ks, hD, hws, hkl, hro, j2, k2, t2⟩ := hP
  have hwl : ws.length = m1 := by rw [hws.len, List.length_map, hkl]
  have t02 : Kt H H2 := t1.tr t2
  have nDH : H D = none := by
    cases z : H D with
    | none => rfl
    | some o => exact absurd nD (k1.tr_ D (by rw [z]; exact fun y => by cases y))
  -- spot, lap, longest
  refine ⟨.ref p, rfl, .ref ad, rfl, ad, xn, rfl, .inr (SqT.of (t02 _ _ hxn)), p, _, _, rfl, by rw [hln]; omega, small _ (by rw [hln]; omega), j2, by omega, fun r3 H3 a3 b3 k3 j3 => ?_⟩
  rw [hln] at b3
  obtain ⟨x, rfl⟩ := Int.eq_ofNat_of_zero_le a3
  have hx : x < N.length := by omega
  have t3 : Kt H2 H3 := k3.kt j2.nt
  have hd3 := hd.kt (t02.tr t3)
  refine ⟨.ref ad, rfl, .int x, rfl, .ref ad, N, x, rfl, hd3, ok, hx, fun tq H4 lap m htq hlo hm0 k4 => ?_⟩
  refine ⟨tq, _, rfl, SqT.of htq, rfl, _, _, rfl, _, _, rfl, rfl, ?_⟩
  have t04 := t02.tr (t3.tr k4.kt0)
  have j4 := j3.kp k4 (by simp)
  have hD4 := k4.lst (by simp) (k3.lst (by simpa using nDp) hD)
  have hws4 := hws.kt (t3.tr k4.kt0)
  have k04 : Kp [p] H H4 := k1.tr (k2.tr (k3.tr k4.of0))
  have fin : ∀ H' l (ks' : Kds) (n' : Nat), H l = none → LstOf H' l (ks'.map kdD) → RowsOk N mo la ks' → ks'.length ≤ 40 → Kp [p] H H' → Sack H' p n' → n' ≤ n + 200 → Q (.ref l) H' := fun H' l ks' n' h1 h2 h3 h4 h5 h6 h7 => q l H' ks' h1 h2 h3 h4 h5 (h6.mono h7)
  refine ⟨.int lap, rfl, _, _, rfl, rfl, _, rfl, ?_⟩
  by_cases hlp : 0 < lap
  rotate_left
  · rw [decide_eq_false hlp]
    refine iteF (iteF ?_)
    exact ⟨.ref D, rfl, fin H4 D ks _ nDH ⟨ws, hD4, hws4⟩ hro (by omega) k04 j4 (by omega)⟩
  rw [decide_eq_true hlp]
  refine iteT ?_
  refine ⟨.ref p, rfl, p, 2, _, rfl, by decide, by decide, j4, by omega, fun r5 H5 a5 b5 k5 j5 => ⟨rfl, _, rfl, ?_⟩⟩
  have t5 := k5.kt j4.nt
  have hD5 := k5.lst (by simpa using nDp) hD4
  have hws5 := hws4.kt t5
  have k05 : Kp [p] H H5 := k04.tr k5
  by_cases e5 : V.int r5 = V.int 0
  rotate_left
  · rw [decide_eq_false e5]
    refine iteF ?_
    exact ⟨.ref D, rfl, fin H5 D ks _ nDH ⟨ws, hD5, hws5⟩ hro (by omega) k05 j5 (by omega)⟩
  rw [decide_eq_true e5]
  refine iteT ?_
  -- the ring, its lap
  have hA : wayA N x = [] := by
    by_cases h : wayA N x = []
    · exact h
    · exfalso
      have : lap = 0 := by
        rw [hlo.1]
        unfold ringOf
        rw [if_neg h]
        rfl
      omega
  have elap : lap = lapOf N x := by
    rw [hlo.1]
    unfold ringOf
    rw [if_pos hA]
    rfl
  have hm : 0 < m ∧ m < 10 ^ 60 := by
    rcases hlo.2.2 with h | ⟨y, hy, e⟩
    · exfalso
      have h1 := hlo.2.1 x (by
        unfold ringOf
        rw [if_pos hA, ahead_path hA]
        obtain ⟨t, e⟩ := path_head N x
        rw [e]; exact List.mem_cons_self)
      have := burn_pos ok hx
      omega
    · have hy' : y < N.length := by
        unfold ringOf at hy
        rw [if_pos hA] at hy
        exact way_sub ok hx y hy
      have h1 := burn_pos ok hy'
      have h2 := sh _ (List.getElem_mem hy')
      rw [← burnOf_get (List.getElem?_eq_getElem hy')] at h2
      omega
  have hlt := tot_lap ok hx
  rw [← elap] at hlt
  -- begins
  refine ⟨.ref p, rfl, .int la, rfl, p, la, _, rfl, by omega, sla, j5, by omega, fun r6 H6 a6 b6 k6 j6 => ?_⟩
  obtain ⟨bg, rfl⟩ := Int.eq_ofNat_of_zero_le a6
  obtain ⟨mn, rfl⟩ := Int.eq_ofNat_of_zero_le (show 0 ≤ m by omega)
  obtain ⟨Ln, rfl⟩ := Int.eq_ofNat_of_zero_le (show 0 ≤ lap by omega)
  have smn : ((mn : Nat) : Int) < 2 ^ 8000 := by
    have : (10 : Int) ^ 60 < 2 ^ 8000 := by decide
    omega
  -- spaced
  refine ⟨.int mo, rfl, .int (Ln : Nat), rfl, .int (mn : Nat), rfl, _, _, rfl, rfl, ⟨by omega, big_log (by omega) smn⟩, .ref p, rfl, p, 2, _, rfl, by decide, by decide, j6, by omega, fun r7 H7 a7 b7 k7 j7 => ⟨_, _, rfl, rfl, _, _, rfl, ?_⟩⟩
  obtain ⟨c, hc, hc1, hc2⟩ : ∃ c : Nat, (if (Ln : Int) / mn + r7 < mo then (Ln : Int) / mn + r7 else (mo : Int)) = c ∧ c ≤ mo ∧ c ≤ Ln / mn + 1 := by
    obtain ⟨qn, hqn⟩ : ∃ qn, qn = Ln / mn := ⟨_, rfl⟩
    have h0 : (Ln : Int) / mn = (qn : Int) := by rw [hqn]; exact (Int.natCast_ediv Ln mn).symm
    rw [h0, ← hqn]
    split
    · exact ⟨((qn : Int) + r7).toNat, by omega, by omega, by omega⟩
    · exact ⟨mo, rfl, by omega, by omega⟩
  have j7' := j7
  have t67 : Kt H5 H7 := (k6.kt j5.nt).tr (k7.kt j6.nt)
  have hmul : ∀ i, i < c → mn * i ≤ Ln := fun i hi => by
    have h1 : i ≤ Ln / mn := by omega
    have h2 := Nat.mul_le_mul_left mn h1
    have h3 := Nat.mul_div_le Ln mn
    omega
  refine ⟨(c : Int), congrArg (fun z => [V.int z]) hc, by omega, by omega, fun D2 nD2 => lcm_range (n := c) kdD (fun i => (bg + mn * i, x)) nD2 (by omega) (fun i H' Q' R' hi k qq => ?_) (fun ws2 H8 hD2 hws2 k8 => ?_)⟩
  · refine ⟨rfl, .int bg, rfl, .int i, rfl, .int mn, rfl, _, _, rfl, rfl, ?_, _, _, rfl, rfl, .int x, rfl, by show 2 ≤ sizeLine; decide, fun tn ntn => qq _ _ (Kp.new ntn) (kd_of ?_)⟩
    · refine wide_mul (a := 20) (b := 200) (by omega) ?_ (by decide) (by decide) (by decide)
      have : (10 : Int) ^ 60 < 2 ^ 200 := by decide
      omega
    · rw [Int.natCast_add, Int.natCast_mul, Int.mul_comm (mn : Int)]
      exact upd_same
  obtain ⟨sp, esp⟩ : ∃ sp : Kds, sp = (List.range c).map fun i => (bg + mn * i, x) := ⟨_, rfl⟩
  rw [← esp] at hws2
  have hsp : RowsOk N mo la sp ∧ sp.length = c := by
    rw [esp]
    refine ⟨⟨fun z hz => ?_, fun z hz => ?_⟩, by rw [List.length_map, List.length_range]⟩
    · obtain ⟨i, _, rfl⟩ := List.mem_map.mp hz
      exact hx
    · obtain ⟨i, hi, rfl⟩ := List.mem_map.mp hz
      have := hmul i (List.mem_range.mp hi)
      show ((bg + mn * i : Nat) : Int) < _
      omega
  have hD8 := k8.lst (by simp) (k7.lst (by simpa using nDp) (k6.lst (by simpa using nDp) hD5))
  have hws8 := hws5.kt (t67.tr k8.kt0)
  have j8 := j7.kp k8 (by simp)
  have nD2p : D2 ≠ p := fun e => j7.tr (e ▸ nD2)
  have k08 : Kp [p] H H8 := k05.tr (k6.tr (k7.tr k8.of0))
  have nD2H : H D2 = none := by
    cases z : H D2 with
    | none => rfl
    | some o => exact absurd nD2 ((k05.tr (k6.tr k7)).tr_ D2 (by rw [z]; exact fun y => by cases y))
  -- found = found[:..]
  refine ⟨.ref D, rfl, .ref p, rfl, p, 3, _, rfl, by decide, by decide, j8, by omega, fun r9 H9 a9 b9 k9 j9 => ?_⟩
  have hD9 := k9.lst (by simpa using nDp) hD8
  refine ⟨r9, rfl, D, ws, rfl, SqL.of hD9, fun f nf => ?_⟩
  obtain ⟨u9, rfl⟩ := Int.eq_ofNat_of_zero_le a9
  rw [cutLoA]
  obtain ⟨H10, e10⟩ : ∃ H10, H10 = upd H9 f (.lst (ws.take (min u9 ws.length))) := ⟨_, rfl⟩
  rw [← e10]
  have k10 : Kp [] H9 H10 := e10 ▸ Kp.new nf
  have hf10 : H10 f = some (.lst (ws.take (min u9 ws.length))) := by rw [e10]; exact upd_same
  have hD210 := k10.lst (by simp) (k9.lst (by simpa using nD2p) hD2)
  have t9 := k9.kt j8.nt
  have hws10 := (hws8.kt (t9.tr k10.kt0)).takeF (min u9 ws.length)
  have hws210 := hws2.kt (t9.tr k10.kt0)
  have j10 := j9.kp k10 (by simp)
  have nfp : f ≠ p := fun e => j9.tr (e ▸ nf)
  have nfD2 : f ≠ D2 := fun e => by rw [e, k9.lst (by simpa using nD2p) hD2] at nf; cases nf
  have k010 : Kp [p] H H10 := k08.tr (k9.tr k10.of0)
  have nfH : H f = none := by
    cases z : H f with
    | none => rfl
    | some o => exact absurd nf ((k08.tr k9).tr_ f (by rw [z]; exact fun y => by cases y))
  obtain ⟨A0, eA0⟩ : ∃ A0 : Kds, A0 = ks.take (min u9 ws.length) := ⟨_, rfl⟩
  rw [← List.map_take, ← eA0] at hws10
  have lA0 : A0.length ≤ 2 := by
    rw [eA0, List.length_take]
    omega
  have hA0 : RowsOk N mo la A0 := ⟨fun z hz => hro.1 z (by rw [eA0] at hz; exact List.mem_of_mem_take hz), fun z hz => hro.2 z (by rw [eA0] at hz; exact List.mem_of_mem_take hz)⟩
  show tWhile _ _ _ [some (.ref p), some (.ref ad), some (.int (mo : Nat)), some (.int (la : Nat)), some (.ref f), none, some (.int (x : Nat)), some (.int (Ln : Nat)), some (.int (mn : Nat)), some (.int (bg : Nat)), some (.ref D2)] _
  refine ⟨fun m' σ H' => ∃ (wa wb : List V) (A B : Kds), σ = [some (.ref p), some (.ref ad), some (.int (mo : Nat)), some (.int (la : Nat)), some (.ref f), none, some (.int (x : Nat)), some (.int (Ln : Nat)), some (.int (mn : Nat)), some (.int (bg : Nat)), some (.ref D2)] ∧ H' f = some (.lst wa) ∧ TuA H' wa (A.map kdD) ∧ H' D2 = some (.lst wb) ∧ TuA H' wb (B.map kdD) ∧ B.length = m' ∧ A.length + B.length ≤ 40 ∧ B.length ≤ 38 ∧ RowsOk N mo la A ∧ RowsOk N mo la B ∧ Sack H' p (n + 189 - m') ∧ Kp [p, f, D2] H10 H',
    ⟨c, _, _, A0, sp, rfl, hf10, hws10, hD210, hws210, hsp.2, by rw [hsp.2]; omega, by rw [hsp.2]; omega, hA0, hsp.1, j10.mono (by omega), .rfl'⟩, ?_⟩
  rintro m' σ H' ⟨wa, wb, A, B, rfl, hfA, hwa, hDB, hwb, hBm, hAB, hB38, hrA, hrB, j', k'⟩
  refine ⟨.ref D2, rfl, Nat.zero_le _, fun eb neb => ?_⟩
  have kn : Kp [] H' (upd H' eb (.lst [])) := Kp.new neb
  have heb : upd H' eb (.lst []) eb = some (.lst []) := upd_same
  generalize upd H' eb (.lst []) = H11 at kn heb ⊢
  have hfB := kn.lst (by simp) hfA
  have hDC := kn.lst (by simp) hDB
  have hwa1 := hwa.kt kn.kt0
  have hwb1 := hwb.kt kn.kt0
  have j11 := j'.kp kn (by simp)
  refine ⟨_, .list [], .lst (SqL.of hDC) (hwb1.dpl (nodict kd_lay B)), .lst (SqL.of heb) .nil, (map_shaped kd_lay kd_depth B).1, by decide, _, rfl, ?_⟩
  rw [eqv_nil]
  have lwb : wb.length = B.length := by rw [hwb.len, List.length_map]
  have lwa : wa.length = A.length := by rw [hwa.len, List.length_map]
  by_cases hB0 : B = []
  · rw [decide_eq_true (show B.map kdD = [] by rw [hB0]; rfl)]
    show (if (false = true) then _ else _)
    refine iteF ?_
    have kk : Kp [p, f, D2] H H11 := (k010.wk fun y z => by rw [List.mem_singleton.mp z]; simp).tr (k'.tr kn.of0)
    have kk2 : Kp [p] H H11 := by
      have h1 : Kp ([p] ++ [f] ++ [D2]) H H11 := kk
      have h2 : Kp [p, f] H H11 := Kp.drop nD2H (kk.wk fun y z => by
        simp only [List.mem_cons, List.not_mem_nil, or_false] at z ⊢
        rcases z with z | z | z <;> simp [z])
      exact Kp.drop nfH (h2.wk fun y z => by
        simp only [List.mem_cons, List.not_mem_nil, or_false] at z ⊢
        exact z.symm)
    exact ⟨.ref f, rfl, fin H11 f A _ nfH ⟨wa, hfB, hwa1⟩ hrA (by omega) kk2 j11 (by omega)⟩
  rw [decide_eq_false (show ¬ B.map kdD = [] from fun z => hB0 (List.map_eq_nil_iff.mp z))]
  show (if (true = true) then _ else _)
  refine iteT ?_
  have hBp : 0 < B.length := List.length_pos_iff.mpr hB0
  refine ⟨fun σ' H' => ∃ (wa wb : List V) (A B : Kds), σ' = [some (.ref p), some (.ref ad), some (.int (mo : Nat)), some (.int (la : Nat)), some (.ref f), none, some (.int (x : Nat)), some (.int (Ln : Nat)), some (.int (mn : Nat)), some (.int (bg : Nat)), some (.ref D2)] ∧ H' f = some (.lst wa) ∧ TuA H' wa (A.map kdD) ∧ H' D2 = some (.lst wb) ∧ TuA H' wb (B.map kdD) ∧ B.length = m' - 1 ∧ A.length + B.length ≤ 40 ∧ B.length ≤ 38 ∧ RowsOk N mo la A ∧ RowsOk N mo la B ∧ Sack H' p (n + 189 - (m' - 1)) ∧ Kp [p, f, D2] H10 H', fun σ' H' h => ⟨m' - 1, by omega, h⟩, ?_⟩
  refine ⟨.ref f, rfl, .inl ⟨rfl, _, SqL.of hfB⟩, .ref D2, rfl, .inl ⟨rfl, _, SqL.of hDC⟩, .ref p, rfl, .ref D2, rfl, D2, wb, rfl, .inl (SqL.of hDC), p, _, _, rfl, by omega, small _ (by omega), j11, by omega, fun r12 H12 a12 b12 k12 j12 => ?_⟩
  obtain ⟨r, rfl⟩ := Int.eq_ofNat_of_zero_le a12
  have hrl : r < wb.length := by omega
  have hD12 := k12.lst (by simpa using nD2p) hDC
  have hf12 := k12.lst (by simpa using nfp) hfB
  have t12 := k12.kt j11.nt
  refine ⟨D2, wb, r, r, wb[r], rfl, rfl, hD12, by omega, by omega, ?_, List.getElem?_eq_getElem hrl, ?_⟩
  · simp [seqIndex?]
    omega
  have k13 : Kp [D2] H12 (upd H12 D2 (.lst (wb.eraseIdx r))) := Kp.put (by simp) hD12 fun ps z => by cases z
  have t13 : Kt H12 (upd H12 D2 (.lst (wb.eraseIdx r))) := Kt.put hD12 fun ps z => by cases z
  have hD13 : upd H12 D2 (.lst (wb.eraseIdx r)) D2 = some (.lst (wb.eraseIdx r)) := upd_same
  generalize upd H12 D2 (.lst (wb.eraseIdx r)) = H13 at k13 t13 hD13 ⊢
  have hf13 := k13.lst (by simpa using nfD2) hf12
  refine ⟨f, wa, wb[r], rfl, rfl, hf13, by
    have : 100 < sizeLine := by decide
    omega, ?_⟩
  have k14 : Kp [f] H13 (upd H13 f (.lst (wa ++ [wb[r]]))) := Kp.put (by simp) hf13 fun ps z => by cases z
  have t14 : Kt H13 (upd H13 f (.lst (wa ++ [wb[r]]))) := Kt.put hf13 fun ps z => by cases z
  have hf14 : upd H13 f (.lst (wa ++ [wb[r]])) f = some (.lst (wa ++ [wb[r]])) := upd_same
  generalize upd H13 f (.lst (wa ++ [wb[r]])) = H14 at k14 t14 hf14 ⊢
  have t1114 := t12.tr (t13.tr t14)
  have hrB' : r < B.length := by omega
  obtain ⟨zz, hzz⟩ : ∃ zz, B[r]? = some zz := ⟨_, List.getElem?_eq_getElem hrB'⟩
  have hzm := List.mem_of_getElem? hzz
  have hval : Tu H14 wb[r] (kdD zz) := by
    obtain ⟨d, g1, g2⟩ := (hwb1.kt t1114).get (List.getElem?_eq_getElem hrl)
    rw [List.getElem?_map, hzz] at g1
    cases g1
    exact g2
  have hsub : ∀ z ∈ B.eraseIdx r, z ∈ B := fun z hz => (List.eraseIdx_sublist B r).subset hz
  have hlen : (B.eraseIdx r).length = B.length - 1 := List.length_eraseIdx_of_lt hrB'
  refine ⟨wa ++ [wb[r]], wb.eraseIdx r, A ++ [zz], B.eraseIdx r, rfl, hf14, ?_, k14.lst (by simpa using nfD2.symm) hD13, ?_, by omega, by rw [List.length_append, hlen]; show A.length + 1 + _ ≤ 40; omega, by omega, ⟨fun z hz => ?_, fun z hz => ?_⟩, ⟨fun z hz => hrB.1 z (hsub z hz), fun z hz => hrB.2 z (hsub z hz)⟩, ((j12.kp k13 (by simpa using nD2p.symm)).kp k14 (by simpa using nfp.symm)).mono (by omega), ?_⟩
  · rw [List.map_append]
    exact (hwa1.kt t1114).app (.cons hval .nil)
  · have := (hwb1.kt t1114).erase r
    rw [List.eraseIdx_eq_take_drop_succ (l := B), List.map_append, List.map_take, List.map_drop, ← List.eraseIdx_eq_take_drop_succ]
    exact this
  · rcases List.mem_append.mp hz with h | h
    · exact hrA.1 z h
    · rw [List.mem_singleton.mp h]
      exact hrB.1 zz hzm
  · rcases List.mem_append.mp hz with h | h
    · exact hrA.2 z h
    · rw [List.mem_singleton.mp h]
      exact hrB.2 zz hzm
  · exact k'.tr (kn.of0.tr ((k12.wk fun y z => by rw [List.mem_singleton.mp z]; simp).tr ((k13.wk fun y z => by rw [List.mem_singleton.mp z]; simp).tr (k14.wk fun y z => by rw [List.mem_singleton.mp z]; simp))))
end
--END

section
open Classical
variable {N : Net} {ks : Kds} {c d : Nat}
noncomputable def burnZ (N : Net) (ks : Kds) (x : Nat) : PyData := if h : ∃ r, EverFrom N ks x r then .int ((Classical.choose h : Nat) : Int) else .none
theorem burnZ_tu {x : Nat} {u : V} (h : BurnV N ks x u) (H : Hp) : Tu H u (burnZ N ks x) := by
  unfold burnZ
  rcases h with ⟨rfl, hn⟩ | ⟨r, rfl, hr⟩
  · have : ¬ ∃ r, EverFrom N ks x r := fun ⟨r, hr, _⟩ => by
      obtain ⟨t, t1, t2⟩ := hn r
      exact t2 (hr t t1)
    rw [dif_neg this]
    exact .non
  · have he : ∃ r, EverFrom N ks x r := ⟨r, hr⟩
    rw [dif_pos he, ever_uniq (Classical.choose_spec he) hr]
    exact .int _
theorem burnZ_at (N : Net) (ks : Kds) (x : Nat) : burnZ N ks x = .none ∨ ∃ i : Int, burnZ N ks x = .int i := by
  unfold burnZ
  split
  · exact .inr ⟨_, rfl⟩
  · exact .inl rfl
noncomputable def canD (N : Net) (x : Nat) : PyData := .bool (decide (CanP N x))
theorem canD_of {N : Net} {x : Nat} {b : Bool} (hb : b = true ↔ CanP N x) : canD N x = .bool b := by
  unfold canD
  cases b with
  | true => exact congrArg PyData.bool (decide_eq_true (hb.mp rfl))
  | false => exact congrArg PyData.bool (decide_eq_false fun h => by have := hb.mpr h; cases this)
def gapsI (N : Net) (FS : List Fate) (x : Nat) : List Int := gapsZ (lapOf N x) (beatsX N FS x)
def listI (l : List Int) : PyData := .list (l.map PyData.int)
def mulI (c : Int) (l : List Int) : List Int := l.map fun g => g * c
def turnN (N : Net) : List Nat := (List.range N.length).filter fun x => decide (wayA N x = [])
/-- so many times as great, and so much later: a number, or none -/
def mulD (c d : Int) : PyData → PyData
  | .int i => .int (i * c + d)
  | e => e
def toldL (first again round : Int) (G : List (List Int)) (B : List PyData) (C : List PyData) : PyData :=
  .list [.list [.int first, .int again], .int round, .list (G.map listI), .list B, .list C]
noncomputable def toldT (N : Net) (ks : Kds) (R : List C4) (first : Int) : PyData :=
  toldL first (againF N (fatesR N ks R) : Nat) (roundN N (fatesR N ks R) : Nat) ((turnN N).map (gapsI N (fatesR N ks R))) ((List.range N.length).map (burnZ N ks)) ((List.range N.length).map (canD N))
def dueL (c d al : Int) (first again round : Int) (G : List (List Int)) (B : List PyData) (C : List PyData) : PyData :=
  toldL (first * c + d * al) (if (G.filter fun g => !g.isEmpty) = [] then again else again * c) (if (G.filter fun g => !g.isEmpty) = [] then round else round * c) (G.map (mulI c)) (B.map (mulD c d)) C
noncomputable def dueT (N : Net) (ks : Kds) (R : List C4) (first : Int) (c d al : Int) : PyData :=
  dueL c d al first (againF N (fatesR N ks R) : Nat) (roundN N (fatesR N ks R) : Nat) ((turnN N).map (gapsI N (fatesR N ks R))) ((List.range N.length).map (burnZ N ks)) ((List.range N.length).map (canD N))
theorem goer_turn (FS : List Fate) : (((turnN N).map (gapsI N FS)).filter fun g => !g.isEmpty) = [] ↔ ¬ Goer N FS := by
  rw [List.filter_eq_nil_iff]
  constructor
  · rintro h ⟨x, hx, hA, hg⟩
    have := h _ (List.mem_map.mpr ⟨x, List.mem_filter.mpr ⟨List.mem_range.mpr hx, decide_eq_true hA⟩, rfl⟩)
    have e : gapsI N FS x = [] := by
      cases q : gapsI N FS x with
      | nil => rfl
      | cons a r => rw [q] at this; exact absurd rfl this
    exact hg e
  · intro h g hg
    obtain ⟨x, hx, rfl⟩ := List.mem_map.mp hg
    obtain ⟨h1, h2⟩ := List.mem_filter.mp hx
    cases q : gapsI N FS x with
    | nil => exact fun z => by cases z
    | cons a r => exact absurd ⟨x, List.mem_range.mp h1, of_decide_eq_true h2, by rw [show gapsZ (lapOf N x) (beatsX N FS x) = gapsI N FS x from rfl, q]; exact List.cons_ne_nil _ _⟩ h
theorem scl_can (o : NetOk N) (hc : 1 ≤ c) {x : Nat} (hx : x < N.length) : CanP (tmN N c) x ↔ CanP N x := by
  have cc : (0 : Int) < (c : Int) := by omega
  unfold CanP
  have e : lensR (tmN N c) x = (lensR N x).map (· * (c : Int)) := by
    unfold lensR
    rw [tm_wayR, List.map_map]
    exact List.map_congr_left fun y hy => tm_burn (way_sub o hx y hy)
  rw [tm_wayA, e, tm_burn hx, sum_mul]
  refine and_congr Iff.rfl (and_congr ⟨fun h y hy => ?_, fun h y hy => ?_⟩ ⟨fun h => ?_, fun h => ?_⟩)
  · exact Int.le_of_mul_le_mul_right (h _ (List.mem_map.mpr ⟨y, hy, rfl⟩)) cc
  · obtain ⟨z, hz, rfl⟩ := List.mem_map.mp hy
    exact Int.mul_le_mul_of_nonneg_right (h z hz) (Int.le_of_lt cc)
  · exact Int.dvd_of_mul_dvd_mul_right (by omega) h
  · exact Int.mul_dvd_mul_right _ h
theorem scl_told (o : NetOk N) (hk : KdsOk N ks) (hc : 1 ≤ c) {R R' : List C4} (hR : Losses N ks R) (hR' : Losses (tmN N c) (shK d (tmK ks c)) R') {first first' : Int} (h : RestOk N ks R first) (h' : RestOk (tmN N c) (shK d (tmK ks c)) R' first') {al : Int} (a1 : ks = [] → (d : Int) * al = 0) (a2 : ks ≠ [] → (d : Int) * al = d) :
    toldT (tmN N c) (shK d (tmK ks c)) R' first' = dueT N ks R first c d al := by
  unfold toldT dueT dueL
  obtain ⟨r1, r2⟩ := scl_rest o hk hc hR hR' h h'
  obtain ⟨g1, g2⟩ := scl_again o hk hc hR hR'
  obtain ⟨n1, n2⟩ := scl_round o hk hc hR hR'
  have eT : turnN (tmN N c) = turnN N := by
    unfold turnN
    rw [tmN_len]
    exact List.filter_congr fun x _ => by rw [tm_wayA]
  have e1 : first' = first * c + d * al := by
    by_cases q : ks = []
    · obtain ⟨b1, b2⟩ := r1 q
      rw [b1, b2, a1 q]
      omega
    · rw [r2 q, a2 q]
  have eG : (turnN N).map (gapsI (tmN N c) (fatesR (tmN N c) (shK d (tmK ks c)) R')) = ((turnN N).map (gapsI N (fatesR N ks R))).map (mulI c) := by
    rw [List.map_map]
    refine List.map_congr_left fun x hx => ?_
    exact scl_gaps o hk hc hR hR' (List.mem_range.mp (List.mem_filter.mp hx).1)
  have eB : (List.range N.length).map (burnZ (tmN N c) (shK d (tmK ks c))) = ((List.range N.length).map (burnZ N ks)).map (mulD c d) := by
    rw [List.map_map]
    refine List.map_congr_left fun x hx => ?_
    show burnZ (tmN N c) (shK d (tmK ks c)) x = mulD c d (burnZ N ks x)
    unfold burnZ
    by_cases q : ∃ r, EverFrom N ks x r
    · have q' : ∃ r, EverFrom (tmN N c) (shK d (tmK ks c)) x r := ⟨_, scl_ever o hk hc (Classical.choose_spec q)⟩
      rw [dif_pos q, dif_pos q', ever_uniq (Classical.choose_spec q') (scl_ever o hk hc (Classical.choose_spec q))]
      show PyData.int _ = .int (_ * _ + _)
      rw [Int.natCast_add, Int.natCast_mul]
    · rw [dif_neg q, dif_neg fun z => q (scl_ever' o hk hc z)]
      rfl
  have eC : (List.range N.length).map (canD (tmN N c)) = (List.range N.length).map (canD N) := by
    refine List.map_congr_left fun x hx => ?_
    have := scl_can o hc (List.mem_range.mp hx)
    exact canD_of (by rw [decide_eq_true_iff]; exact this.symm)
  rw [eT, tmN_len, eG, eB, eC, e1]
  by_cases q : Goer N (fatesR N ks R)
  · rw [if_neg (by rw [goer_turn]; exact fun z => z q), if_neg (by rw [goer_turn]; exact fun z => z q), g1 q, n1 q, Int.natCast_mul, Int.natCast_mul]
  · rw [if_pos ((goer_turn _).mpr q), if_pos ((goer_turn _).mpr q), g2 q, n2 q]
end

section
variable {P : Program} {w : World} {K : PySem.W.Frag} {mg : Str → Option Value} {base : Heap} {a : Ad}
theorem natV_inv {o : List Nat} {i : Nat} {v : V} (h : (natV o)[i]? = some v) : ∃ x, o[i]? = some x ∧ v = .int (x : Nat) := by
  unfold natV at h
  rw [List.getElem?_map] at h
  cases q : o[i]? with
  | none => rw [q] at h; cases h
  | some u => rw [q] at h; exact ⟨u, rfl, (Option.some.inj h).symm⟩
theorem scal_dx {S : List Addr} {H : Hp} : ∀ {ws : List V} {ds : List PyData}, TuA H ws ds → (∀ d ∈ ds, d = .none ∨ (∃ i, d = .int i) ∨ ∃ b, d = .bool b) → DxA S H ws ds
  | _, _, .nil, _ => .nil
  | _, _, .cons h t, hs => by
    refine .cons ?_ (scal_dx t fun d hd => hs d (List.mem_cons_of_mem _ hd))
    rcases hs _ List.mem_cons_self with rfl | ⟨i, rfl⟩ | ⟨b, rfl⟩
    · cases h; exact .non
    · cases h; exact .int _
    · cases h; exact .bl _
def spTold (TB TB2 TB3 TB4 TB5 : Addr) : Sp := fun vs H Q _ => ∃ (v : V) (N : Net) (kl : Addr) (ks : Kds), vs = [v, .ref kl] ∧ Tu H v (netD N) ∧ NetOk N ∧ LstOf H kl (ks.map kdD) ∧ KdsOk N ks ∧ ks.length ≤ 40 ∧ Short N ∧ GxR.TabG H TB ∧ GxR.TabG H TB2 ∧ GxR.TabG H TB3 ∧ GxR.TabG H TB4 ∧ GxR.TabG H TB5 ∧
  ∀ l H' R first, H l = none → Losses N ks R → RestOk N ks R first → (∀ S : List Addr, (∀ s ∈ S, H s ≠ none) → Dx S H' (.ref l) (toldT N ks R first)) → Kp [] H H' → Q (.ref l) H'
theorem ok_law_told (T : Tx K mg a) (TB : GxR.TabB base mg a.cd_is_net a.tb_is_net) (TB2 : GxR.TabB base mg a.cd_lights_of a.tb_lights_of) (TB3 : GxR.TabB base mg a.cd_are_kindlings a.tb_are_kindlings) (TB4 : GxR.TabB base mg a.cd_rests_from a.tb_rests_from) (TB5 : GxR.TabB base mg a.cd_gaps_of_beats a.tb_gaps_of_beats) : FnOk P w K mg base CX0 16 a.a_law_told a.f_law_told ["lamps", "rows"] (spTold a.tb_is_net a.tb_lights_of a.tb_are_kindlings a.tb_rests_from a.tb_gaps_of_beats) := by
  have G_law_ring := ok_law_ring (P := P) (w := w) (base := base) T
  have G_rest_of := ok_rest_of (P := P) (w := w) (base := base) T TB TB2 TB3 TB4
  have G_round_of_lamps := ok_round_of_lamps (P := P) (w := w) (base := base) T TB TB2 TB3 TB5
  have G_gaps := ok_gaps (P := P) (w := w) (base := base) T TB TB2 TB3 TB5
  have G_burns_from := (ok_burns_from (P := P) (w := w) (base := base) T TB TB2 TB3).imp burns2_of
  have G_can_burn := ok_can_burn (P := P) (w := w) (base := base) T TB
  refine T.law_told.F.ok sc_law_told (fun vs H Q E h => ?_) (fun cdv A outer s H vs Q E hr h => ?_)
  · obtain ⟨v, N, kl, ks, rfl, _⟩ := h
    rfl
  obtain ⟨v, N, kl, ks, rfl, hd, ok, hkl, hk, lks, sh, ht, ht2, ht3, ht4, ht5, q⟩ := h
  refine ⟨_, (pss_cons (ps_set (i := 2) sc_law_told.nd rfl (by first | exact .inl rfl | exact .inr rfl) (pe_lst (pa_cons (pe_callTy call_list_of (by rfl) T.n_list (by decide +kernel) (pa_cons (pe_call G_rest_of (hr.mono (by decide)) (by rfl) T.rest_of.g T.rest_of.F.kp T.rest_of.b .nil pass0 (pa_cons (pv 0) (pa_cons (pv 1) pa_nil))) pa_nil)) (pa_cons (pe_call G_round_of_lamps (hr.mono (by decide)) (by rfl) T.round_of_lamps.g T.round_of_lamps.F.kp T.round_of_lamps.b .nil pass0 (pa_cons (pv 0) (pa_cons (pv 1) pa_nil))) pa_nil))))
      (pss_cons (ps_setLc (i := 3) (own := [("spot", 4)]) (g := gName 4) (by rfl) sc_law_told.nd rfl rfl (sw_true rfl rfl rfl (by decide +kernel)) (pi_range1 (by rfl) T.n_range (pa_cons (pe_callB call_len_seq (by rfl) T.n_len (by decide +kernel) (pa_cons (pv 0) pa_nil)) pa_nil)) (blkOk_by (own := [("spot", 4)]) (N := s_law_told_N) (sc := defScope s_law_told) (by decide +kernel)) (fun _ _ _ _ _ => (pg_name (i := 4) sc_law_told.nd rfl (by first | exact .inl rfl | exact .inr rfl))) (fun _ _ _ _ _ => (pts_one (pt_cmpR (op_neDK (K := K) rfl hr.units) (pe_call G_law_ring (hr.mono (by decide)) (by rfl) T.law_ring.g T.law_ring.F.kp T.law_ring.b .nil pass0 (pa_cons (pv 0) (pa_cons (pv 4) pa_nil))) (pe_lst pa_nil) (nomark _)))) (fun _ _ _ _ _ => (pv 4)))
      (pss_cons (ps_set (i := 2) sc_law_told.nd rfl (by first | exact .inl rfl | exact .inr rfl) (pe_op op_catL (pv 2) (pe_lst (pa_cons (pe_lc (own := [("spot", 4)]) (g := gName 4) (by rfl) sc_law_told.nd (pi_list (pv 3)) (blkOk_by (own := [("spot", 4)]) (N := s_law_told_N) (sc := defScope s_law_told) (by decide +kernel)) (fun _ _ _ _ _ => (pg_name (i := 4) sc_law_told.nd rfl (by first | exact .inl rfl | exact .inr rfl))) (fun _ _ _ _ _ => pts_nil) (fun _ _ _ _ _ => (pe_call G_gaps (hr.mono (by decide)) (by rfl) T.gaps.g T.gaps.F.kp T.gaps.b .nil pass0 (pa_cons (pv 0) (pa_cons (pv 1) (pa_cons (pv 4) pa_nil)))))) pa_nil))))
      (pss_cons (ps_set (i := 2) sc_law_told.nd rfl (by first | exact .inl rfl | exact .inr rfl) (pe_op op_catL (pv 2) (pe_lst (pa_cons (pe_lc (own := [("spot", 4)]) (g := gName 4) (by rfl) sc_law_told.nd (pi_range1 (by rfl) T.n_range (pa_cons (pe_callB call_len_seq (by rfl) T.n_len (by decide +kernel) (pa_cons (pv 0) pa_nil)) pa_nil)) (blkOk_by (own := [("spot", 4)]) (N := s_law_told_N) (sc := defScope s_law_told) (by decide +kernel)) (fun _ _ _ _ _ => (pg_name (i := 4) sc_law_told.nd rfl (by first | exact .inl rfl | exact .inr rfl))) (fun _ _ _ _ _ => pts_nil) (fun _ _ _ _ _ => (pe_call G_burns_from (hr.mono (by decide)) (by rfl) T.burns_from.g T.burns_from.F.kp T.burns_from.b .nil pass0 (pa_cons (pv 0) (pa_cons (pv 1) (pa_cons (pv 4) pa_nil)))))) pa_nil))))
      (pss_one (ps_ret (pe_op op_catL (pv 2) (pe_lst (pa_cons (pe_lc (own := [("spot", 4)]) (g := gName 4) (by rfl) sc_law_told.nd (pi_range1 (by rfl) T.n_range (pa_cons (pe_callB call_len_seq (by rfl) T.n_len (by decide +kernel) (pa_cons (pv 0) pa_nil)) pa_nil)) (blkOk_by (own := [("spot", 4)]) (N := s_law_told_N) (sc := defScope s_law_told) (by decide +kernel)) (fun _ _ _ _ _ => (pg_name (i := 4) sc_law_told.nd rfl (by first | exact .inl rfl | exact .inr rfl))) (fun _ _ _ _ _ => pts_nil) (fun _ _ _ _ _ => (pe_call G_can_burn (hr.mono (by decide)) (by rfl) T.can_burn.g T.can_burn.F.kp T.can_burn.b .nil pass0 (pa_cons (pv 0) (pa_cons (pv 4) pa_nil))))) pa_nil))))))))), ?_⟩
  obtain ⟨R, hR⟩ := losses_ex ok hk
  obtain ⟨ad, xn, rfl, hxn, hln, hat⟩ := tnet_at hd
  have h12 := ok.hi
  have hlap := short_lap ok sh
  obtain ⟨first, hfirst⟩ := rest_ex N ks R
  have eF : ∀ (p : Nat × Nat) (F : Fate), restF N p F = restR N p F := fun p F => by cases F <;> rfl
  have mkR : ∀ (x : Int), (ks = [] → x = 0) → (ks ≠ [] → (∃ f, f < ks.length ∧ x = restF N (ks.getD f (0, 0)) ((fatesR N ks R).getD f (.ended 0 0))) ∧ ∀ f, f < ks.length → restF N (ks.getD f (0, 0)) ((fatesR N ks R).getD f (.ended 0 0)) ≤ x) → x = first := fun x h1 h2 => by
    refine RestOk.one (R := R) (ks := ks) (N := N) ⟨h1, fun h => ?_, fun f hf => ?_⟩ hfirst
    · obtain ⟨⟨f, hf, e⟩, _⟩ := h2 h
      exact ⟨f, hf, by rw [← eF]; exact e⟩
    · have hne : ks ≠ [] := fun e => by rw [e] at hf; exact absurd hf (Nat.not_lt_zero _)
      rw [← eF]
      exact (h2 hne).2 f hf
  have tabs : ∀ H', Kp [] H H' → GxR.TabG H' a.tb_is_net ∧ GxR.TabG H' a.tb_lights_of ∧ GxR.TabG H' a.tb_are_kindlings ∧ GxR.TabG H' a.tb_rests_from ∧ GxR.TabG H' a.tb_gaps_of_beats := fun H' k => ⟨k.tab _ ht, k.tab _ ht2, k.tab _ ht3, k.tab _ ht4, k.tab _ ht5⟩
  have sz : ∀ n : Nat, n ≤ 12 → n < sizeLine := fun n h => Nat.lt_of_le_of_lt h (by decide)
  have fr : ∀ {S : List Addr} {Hk : Hp} {x : Addr}, (∀ s ∈ S, H s ≠ none) → Kp [] H Hk → Hk x = none → x ∉ S := fun hS k n hs => k.tr_ _ (hS _ hs) n
  -- [list(rest_of(..)), round_of_lamps(..)]
  refine ⟨.ref ad, rfl, .ref kl, rfl, .ref ad, N, kl, ks, rfl, hd, ok, hkl, hk, lks, hlap, ht, ht2, ht3, ht4, fun tp H1 R1 fi hR1 c1 c2 htp ntp k1 => ?_⟩
  obtain rfl := losses_one hR hR1
  obtain rfl := mkR fi c1 c2
  refine ⟨tp, _, rfl, .inr (SqT.of htp), fun lq nlq => ?_⟩
  generalize e2 : upd H1 lq _ = H2
  have k2 : Kp [] H1 H2 := by rw [← e2]; exact Kp.new nlq
  have hlq : H2 lq = some (.lst [.int fi, .int (againF N (fatesR N ks R) : Nat)]) := by rw [← e2]; exact upd_same
  have k02 := k1.tr k2
  obtain ⟨x1, x2, x3, x4, x5⟩ := tabs H2 k02
  refine ⟨.ref ad, rfl, .ref kl, rfl, .ref ad, N, kl, ks, rfl, hd.kt k02.kt0, ok, hkl.kp0 k02, hk, lks, hlap, x1, x2, x3, x5, fun H3 R1 hR1 k3 => ?_⟩
  obtain rfl := losses_one hR hR1
  refine ⟨by show 2 ≤ sizeLine; decide, fun l1 nl1 => ?_⟩
  generalize e4 : upd H3 l1 _ = H4
  have k4 : Kp [] H3 H4 := by rw [← e4]; exact Kp.new nl1
  have hl1 : H4 l1 = some (.lst [.ref lq, .int (roundN N (fatesR N ks R) : Nat)]) := by rw [← e4]; exact upd_same
  have k24 := k3.tr k4
  have k04 := k02.tr k24
  have dQ4 : ∀ S : List Addr, (∀ s ∈ S, H s ≠ none) → Dx S H4 (.ref lq) (.list [.int fi, .int (againF N (fatesR N ks R) : Nat)]) := fun S hS => .lst (fr hS k1 nlq) (k24.lst (by simp) hlq) (.cons (.int _) (.cons (.int _) .nil))
  -- turning
  have hxn4 := k04.kt0 _ _ hxn
  refine ⟨.ref ad, rfl, ad, xn, rfl, .inr (SqT.of hxn4), N.length, by rw [hln], by omega, by omega, fun D nD => lc_range (n := N.length) (fun i H' => H' D = some (.lst (natV ((List.range i).filter fun x => decide (wayA N x = [])))) ∧ Kp [] H4 H') ⟨upd_same, Kp.new nD⟩ (fun i H' hi hP => ?_) (fun H5 hP => ?_)⟩
  · obtain ⟨hD, k⟩ := hP
    rw [show (0 + (i : Int)) = (i : Int) by omega]
    refine ⟨rfl, .ref ad, rfl, .int (i : Nat), rfl, .ref ad, N, i, rfl, hd.kt (k04.tr k).kt0, ok, hi, fun lr H5 nlr hlr k5 => ?_⟩
    refine ⟨by show 0 ≤ sizeLine; decide, fun le nle => ?_⟩
    generalize e6 : upd H5 le _ = H6
    have k6 : Kp [] H5 H6 := by rw [← e6]; exact Kp.new nle
    have hle : H6 le = some (.lst []) := by rw [← e6]; exact upd_same
    have k46 := k5.tr k6
    have sh : ∀ g : List Nat, SeqAt.shaped (.list (g.map fun n : Nat => PyData.int (n : Int))) = true := fun g => (map_shaped (f := fun n : Nat => PyData.int (n : Int)) (fun _ => rfl) (fun _ => by show 0 ≤ 7; decide) g).1
    refine ⟨.list ((ringOf N i).map fun n : Nat => PyData.int (n : Int)), .list (([] : List Nat).map fun n : Nat => PyData.int (n : Int)), .lst (SqL.of (k6.lst (by simp) hlr)) ((nat_tu _).dpl (nodict (fun _ => rfl) _)), .lst (SqL.of hle) .nil, sh _, sh _, _, rfl, ?_⟩
    rw [show PyData.eqv (.list ((ringOf N i).map fun n : Nat => PyData.int (n : Int))) (.list (([] : List Nat).map fun n : Nat => PyData.int (n : Int))) = decide ((ringOf N i).map (fun n : Nat => PyData.int (n : Int)) = []) from eqv_nil _]
    have hD6 := k46.lst (by simp) hD
    by_cases hA2 : wayA N i = []
    · have hrr : i ∈ wayR N i := (ring_root hA2).mpr (path_self N i)
      have hne : ringOf N i ≠ [] := fun e => by
        unfold ringOf at e
        rw [if_pos hA2] at e
        rw [e] at hrr
        cases hrr
      rw [decide_eq_false (by simpa using hne)]
      refine iteT ⟨.int (i : Nat), rfl, _, hD6, ?_, ?_, Kp.drop nD ((k.tr k46).of0.tr (Kp.put (by simp) hD6 fun ps z => by cases z))⟩
      · rw [natV_len]
        have := List.length_filter_le (fun x => decide (wayA N x = [])) (List.range i)
        rw [List.length_range] at this
        exact sz _ (by omega)
      · rw [upd_same, List.range_succ, List.filter_append, List.filter_cons_of_pos (by rw [decide_eq_true hA2])]
        show _ = some (HO.lst (natV (_ ++ [i])))
        rw [natV_app]
    · have e0 : ringOf N i = [] := if_neg hA2
      rw [e0]
      refine iteF ⟨?_, k.tr k46⟩
      rw [List.range_succ, List.filter_append, List.filter_cons_of_neg (by rw [decide_eq_false hA2]; exact Bool.false_ne_true)]
      show H6 D = some (.lst (natV (_ ++ [])))
      rw [List.append_nil]
      exact hD6
  obtain ⟨hD, k5⟩ := hP
  have hD : H5 D = some (.lst (natV (turnN N))) := hD
  have lT : (turnN N).length ≤ 12 := by
    have := List.length_filter_le (fun x => decide (wayA N x = [])) (List.range N.length)
    rw [List.length_range] at this
    exact Nat.le_trans this h12
  have k05 := k04.tr k5
  -- gaps
  refine ⟨.ref l1, rfl, .ref D, rfl, D, rfl, ⟨_, SqL.of hD⟩, fun G nG => lc_list (xs := natV (turnN N)) (fun i H' => ∃ ws, H' G = some (.lst ws) ∧ (∀ S : List Addr, (∀ s ∈ S, H s ≠ none) → DxA (G :: S) H' ws (((turnN N).take i).map (fun x => listI (gapsI N (fatesR N ks R) x)))) ∧ Kp [] H5 H') ⟨[], upd_same, fun _ _ => .nil, Kp.new nG⟩ (fun i H' _ hP => ?_) (fun i x H' hx hP => ?_) (fun H6 hP => ?_)⟩
  · obtain ⟨_, _, _, k⟩ := hP
    exact SqL.of (k.lst (by simp) hD)
  · obtain ⟨ws, hG, hws, k⟩ := hP
    obtain ⟨z, hz, rfl⟩ := natV_inv hx
    obtain ⟨zm1, zm2⟩ := List.mem_filter.mp (List.mem_of_getElem? hz)
    have hzl := List.mem_range.mp zm1
    have hzA : wayA N z = [] := of_decide_eq_true zm2
    have kk := k05.tr k
    obtain ⟨x1, x2, x3, x4, x5⟩ := tabs H' kk
    refine ⟨rfl, .ref ad, rfl, .ref kl, rfl, .int (z : Nat), rfl, .ref ad, N, kl, ks, z, rfl, hd.kt kk.kt0, ok, hkl.kp0 kk, hk, lks, hzl, hzA, x1, x2, x3, x5, fun H7 lg R1 hR1 hlg nlg k7 => ?_⟩
    obtain rfl := losses_one hR hR1
    have hG7 := k7.lst (by simp) hG
    have ngG : lg ≠ G := fun e => by rw [e, hG] at nlg; cases nlg
    obtain ⟨gw, hgw, hgt⟩ := hlg
    have wl := (hws [] fun s z => by cases z).len
    have kG : Kp [G] H7 (upd H7 G (.lst (ws ++ [.ref lg]))) := Kp.put (by simp) hG7 fun ps z => by cases z
    refine ⟨ws, hG7, ?_, ws ++ [.ref lg], upd_same, ?_, Kp.drop nG ((k.tr k7).of0.tr kG)⟩
    · rw [wl, List.length_map, List.length_take]
      exact sz _ (by omega)
    · intro S hS
      have sub : ∀ x ∈ [G], x ∈ G :: S := fun x z => by rw [List.mem_singleton.mp z]; exact List.mem_cons_self
      rw [List.take_add_one, hz, List.map_append]
      refine (((hws S hS).kp k7 fun _ z => by cases z).kp kG sub).app (.cons ?_ .nil)
      have : Dx (G :: S) H7 (.ref lg) (listI (gapsI N (fatesR N ks R) z)) := .lst (fun q => by
        rcases List.mem_cons.mp q with q | q
        · exact ngG q
        · exact fr hS kk nlg q) hgw (scal_dx hgt fun d hd => by
          obtain ⟨i, _, rfl⟩ := List.mem_map.mp hd
          exact .inr (.inl ⟨i, rfl⟩))
      exact this.kp kG sub
  obtain ⟨gw, hG, hgw, k6⟩ := hP
  rw [natV_len, List.take_length] at hgw
  refine ⟨by show 1 ≤ sizeLine; decide, fun l2 nl2 => ?_⟩
  generalize e7 : upd H6 l2 _ = H7
  have k7 : Kp [] H6 H7 := by rw [← e7]; exact Kp.new nl2
  have hl2 : H7 l2 = some (.lst [.ref G]) := by rw [← e7]; exact upd_same
  have k47 := k5.tr (k6.tr k7)
  refine ⟨l1, l2, _, _, rfl, rfl, SqL.of (k47.lst (by simp) hl1), SqL.of hl2, by show 2 + 1 ≤ sizeLine; decide, fun l3 nl3 => ?_⟩
  generalize e8 : upd H7 l3 _ = H8
  have k8 : Kp [] H7 H8 := by rw [← e8]; exact Kp.new nl3
  have hl3 : H8 l3 = some (.lst ([V.ref lq, .int (roundN N (fatesR N ks R) : Nat)] ++ [.ref G])) := by rw [← e8]; exact upd_same
  have k48 := k47.tr k8
  have k08 := k04.tr k48
  have hxn8 := k08.kt0 _ _ hxn
  -- burns
  refine ⟨.ref l3, rfl, .ref ad, rfl, ad, xn, rfl, .inr (SqT.of hxn8), N.length, by rw [hln], by omega, by omega, fun B nB => lc_range (n := N.length) (fun i H' => ∃ ws, H' B = some (.lst ws) ∧ TuA H' ws ((List.range i).map (burnZ N ks)) ∧ Kp [] H8 H') ⟨[], upd_same, .nil, Kp.new nB⟩ (fun i H' hi hP => ?_) (fun H9 hP => ?_)⟩
  · obtain ⟨ws, hG, hws, k⟩ := hP
    rw [show (0 + (i : Int)) = (i : Int) by omega]
    have kk := k08.tr k
    obtain ⟨x1, x2, x3, x4, x5⟩ := tabs H' kk
    refine ⟨rfl, .ref ad, rfl, .ref kl, rfl, .int (i : Nat), rfl, .ref ad, N, kl, ks, i, rfl, hd.kt kk.kt0, ok, hkl.kp0 kk, hk, lks, sh, hi, x1, x2, x3, fun u H9 hu k9 => ?_⟩
    have hG9 := k9.lst (by simp) hG
    have kG : Kp [B] H9 (upd H9 B (.lst (ws ++ [u]))) := Kp.put (by simp) hG9 fun ps z => by cases z
    have tG : Kt H9 (upd H9 B (.lst (ws ++ [u]))) := Kt.put hG9 fun _ z => by cases z
    refine ⟨ws, hG9, ?_, ws ++ [u], upd_same, ?_, Kp.drop nB ((k.tr k9).of0.tr kG)⟩
    · rw [hws.len, List.length_map, List.length_range]
      exact sz _ (by omega)
    · rw [List.range_succ, List.map_append]
      exact ((hws.kt k9.kt0).kt tG).app (.cons (burnZ_tu hu _) .nil)
  obtain ⟨bw, hB, hbw, k9⟩ := hP
  refine ⟨by show 1 ≤ sizeLine; decide, fun l4 nl4 => ?_⟩
  generalize e10 : upd H9 l4 _ = H10
  have k10 : Kp [] H9 H10 := by rw [← e10]; exact Kp.new nl4
  have hl4 : H10 l4 = some (.lst [.ref B]) := by rw [← e10]; exact upd_same
  have k810 := k9.tr k10
  refine ⟨l3, l4, _, _, rfl, rfl, SqL.of (k810.lst (by simp) hl3), SqL.of hl4, by show 3 + 1 ≤ sizeLine; decide, fun l5 nl5 => ?_⟩
  generalize e11 : upd H10 l5 _ = H11
  have k11 : Kp [] H10 H11 := by rw [← e11]; exact Kp.new nl5
  have hl5 : H11 l5 = some (.lst (([V.ref lq, .int (roundN N (fatesR N ks R) : Nat)] ++ [.ref G]) ++ [.ref B])) := by rw [← e11]; exact upd_same
  have k811 := k810.tr k11
  have k011 := k08.tr k811
  have hxn11 := k011.kt0 _ _ hxn
  -- cans
  refine ⟨.ref l5, rfl, .ref ad, rfl, ad, xn, rfl, .inr (SqT.of hxn11), N.length, by rw [hln], by omega, by omega, fun C nC => lc_range (n := N.length) (fun i H' => ∃ ws, H' C = some (.lst ws) ∧ TuA H' ws ((List.range i).map (canD N)) ∧ Kp [] H11 H') ⟨[], upd_same, .nil, Kp.new nC⟩ (fun i H' hi hP => ?_) (fun H12 hP => ?_)⟩
  · obtain ⟨ws, hG, hws, k⟩ := hP
    rw [show (0 + (i : Int)) = (i : Int) by omega]
    have kk := k011.tr k
    obtain ⟨x1, x2, x3, x4, x5⟩ := tabs H' kk
    refine ⟨rfl, .ref ad, rfl, .int (i : Nat), rfl, .ref ad, N, i, rfl, hd.kt kk.kt0, ok, hi, x1, fun H9 b hb k9 => ?_⟩
    have hG9 := k9.lst (by simp) hG
    have kG : Kp [C] H9 (upd H9 C (.lst (ws ++ [.bl b]))) := Kp.put (by simp) hG9 fun ps z => by cases z
    have tG : Kt H9 (upd H9 C (.lst (ws ++ [.bl b]))) := Kt.put hG9 fun _ z => by cases z
    refine ⟨ws, hG9, ?_, ws ++ [.bl b], upd_same, ?_, Kp.drop nC ((k.tr k9).of0.tr kG)⟩
    · rw [hws.len, List.length_map, List.length_range]
      exact sz _ (by omega)
    · rw [List.range_succ, List.map_append]
      exact ((hws.kt k9.kt0).kt tG).app (.cons (by rw [canD_of hb]; exact .bl _) .nil)
  obtain ⟨cw, hC, hcw, k12⟩ := hP
  refine ⟨by show 1 ≤ sizeLine; decide, fun l6 nl6 => ?_⟩
  generalize e13 : upd H12 l6 _ = H13
  have k13 : Kp [] H12 H13 := by rw [← e13]; exact Kp.new nl6
  have hl6 : H13 l6 = some (.lst [.ref C]) := by rw [← e13]; exact upd_same
  have k1113 := k12.tr k13
  refine ⟨l5, l6, _, _, rfl, rfl, SqL.of (k1113.lst (by simp) hl5), SqL.of hl6, by show 4 + 1 ≤ sizeLine; decide, fun l7 nl7 => ?_⟩
  generalize e14 : upd H13 l7 _ = H14
  have k14 : Kp [] H13 H14 := by rw [← e14]; exact Kp.new nl7
  have hl7 : H14 l7 = some (.lst ((([V.ref lq, .int (roundN N (fatesR N ks R) : Nat)] ++ [.ref G]) ++ [.ref B]) ++ [.ref C])) := by rw [← e14]; exact upd_same
  have k1114 := k1113.tr k14
  have k1214 := k13.tr k14
  have k914 := (k10.tr k11).tr k1114
  have k614 := (k7.tr k8).tr (k811.tr k1114)
  have k414 := k48.tr (k811.tr k1114)
  have k014 := k011.tr k1114
  refine q l7 H14 R fi ?_ hR hfirst (fun S hS => ?_) k014
  · cases z : H l7 with
    | none => rfl
    | some u => exact absurd nl7 ((k011.tr k1113).tr_ l7 (by rw [z]; exact fun q => by cases q))
  · have dQ := (dQ4 S hS).kp k414 fun _ z => by cases z
    have dG : Dx S H14 (.ref G) (.list ((turnN N).map fun x => listI (gapsI N (fatesR N ks R) x))) := (Dx.lst (fr hS k05 nG) hG ((hgw S hS).wk fun _ z => List.mem_cons_of_mem _ z)).kp k614 fun _ z => by cases z
    have dB : Dx S H14 (.ref B) (.list ((List.range N.length).map (burnZ N ks))) := (Dx.lst (fr hS k08 nB) hB (scal_dx hbw fun d hd => by
      obtain ⟨x, _, rfl⟩ := List.mem_map.mp hd
      rcases burnZ_at N ks x with e | ⟨i, e⟩
      · exact .inl e
      · exact .inr (.inl ⟨i, e⟩))).kp k914 fun _ z => by cases z
    have dC : Dx S H14 (.ref C) (.list ((List.range N.length).map (canD N))) := (Dx.lst (fr hS k011 nC) hC (scal_dx hcw fun d hd => by
      obtain ⟨x, _, rfl⟩ := List.mem_map.mp hd
      exact .inr (.inr ⟨_, rfl⟩))).kp k1214 fun _ z => by cases z
    refine .lst (fr hS (k011.tr k1113) nl7) hl7 (.cons dQ (.cons (.int _) (.cons ?_ (.cons dB (.cons dC .nil)))))
    rw [List.map_map]
    exact dG
def Sm (i : Int) : Prop := 0 ≤ i ∧ i < 2 ^ 250
theorem Sm.nat {i : Int} (h : Sm i) : i.natAbs < 2 ^ 250 := by
  obtain ⟨n, rfl⟩ := Int.eq_ofNat_of_zero_le h.1
  have h2 := h.2
  rw [Int.natAbs_natCast]
  have : ((n : Nat) : Int) < ((2 ^ 250 : Nat) : Int) := by rw [Int.natCast_pow]; exact h2
  exact Int.ofNat_lt.mp this
theorem Sm.mul {i j : Int} (h : Sm i) (k : Sm j) : CMulW i j := wide_mul (a := 250) (b := 250) h.nat k.nat (by decide) (by decide) (by decide)
def spDue : Sp := fun vs H Q _ => ∃ (l : Addr) (c d : Int) (al : Bool) (first again round : Int) (G : List (List Int)) (B C : List PyData), vs = [.ref l, .int c, .int d, .bl al] ∧ Dx [] H (.ref l) (toldL first again round G B C) ∧
  Sm c ∧ Sm d ∧ Sm first ∧ Sm again ∧ Sm round ∧ G.length ≤ 12 ∧ (∀ g ∈ G, g.length ≤ 41 ∧ ∀ z ∈ g, Sm z) ∧ B.length ≤ 12 ∧ (∀ b ∈ B, b = .none ∨ ∃ i, b = .int i ∧ Sm i) ∧
  ∀ l' H', Dx [] H' (.ref l') (dueL c d (if al then 1 else 0) first again round G B C) → Kp [] H H' → Q (.ref l') H'
theorem ok_law_due (T : Tx K mg a) : FnOk P w K mg base CX0 1 a.a_law_due a.f_law_due ["told", "times", "later", "any_lit"] spDue := by
  refine T.law_due.F.ok sc_law_due (fun vs H Q E h => ?_) (fun cdv A outer s H vs Q E hr h => ?_)
  · obtain ⟨l, c, d, al, first, again, round, G, B, C, rfl, _⟩ := h
    rfl
  obtain ⟨l, c, d, al, first, again, round, G, B, C, rfl, hl, sc, sd, sf, sa, sr, lG, sG, lB, sB, q⟩ := h
  refine ⟨_, (pss_cons (ps_asg (pv 0) (pg_lst (by rfl) (pgs_cons (pg_name (i := 4) sc_law_due.nd rfl (by first | exact .inl rfl | exact .inr rfl)) (pgs_cons (pg_name (i := 5) sc_law_due.nd rfl (by first | exact .inl rfl | exact .inr rfl)) (pgs_cons (pg_name (i := 6) sc_law_due.nd rfl (by first | exact .inl rfl | exact .inr rfl)) (pgs_cons (pg_name (i := 7) sc_law_due.nd rfl (by first | exact .inl rfl | exact .inr rfl)) (pgs_cons (pg_name (i := 8) sc_law_due.nd rfl (by first | exact .inl rfl | exact .inr rfl)) pgs_nil)))))))
      (pss_cons (ps_set (i := 9) sc_law_due.nd rfl (by first | exact .inl rfl | exact .inr rfl) (pe_cmpR (op_neD hr.units) (pe_lc (own := [("one", 10)]) (g := gName 10) (by rfl) sc_law_due.nd (pi_list (pv 6)) (blkOk_by (own := [("one", 10)]) (N := s_law_due_N) (sc := defScope s_law_due) (by decide +kernel)) (fun _ _ _ _ _ => (pg_name (i := 10) sc_law_due.nd rfl (by first | exact .inl rfl | exact .inr rfl))) (fun _ _ _ _ _ => (pts_one (pt_cmpR (op_neDK (K := K) rfl hr.units) (pv 10) (pe_lst pa_nil) (nomark _)))) (fun _ _ _ _ _ => (pv 10))) (pe_lst pa_nil) (nomark _)))
      (pss_cons (ps_setLc (i := 11) (own := [("one", 10)]) (g := gName 10) (by rfl) sc_law_due.nd rfl rfl (sw_true rfl rfl rfl (by decide +kernel)) (pi_list (pe_lst (pa_cons (pe_ix ix_list (pv 4) pe_int (fun _ _ => rfl)) (pa_cons (pv 5) pa_nil)))) (blkOk_by (own := [("one", 10)]) (N := s_law_due_N) (sc := defScope s_law_due) (by decide +kernel)) (fun _ _ _ _ _ => (pg_name (i := 10) sc_law_due.nd rfl (by first | exact .inl rfl | exact .inr rfl))) (fun _ _ _ _ _ => pts_nil) (fun _ _ _ _ _ => (pe_ifExp (pt_val (pv 9)) (pe_op op_mulW (pv 10) (pv 1)) (pv 10))))
      (pss_cons (ps_set (i := 12) sc_law_due.nd rfl (by first | exact .inl rfl | exact .inr rfl) (pe_lst (pa_cons (pe_lst (pa_cons (pe_op op_add (pe_op op_mulW (pe_ix ix_list (pv 4) pe_int (fun _ _ => rfl)) (pv 1)) (pe_op op_mulW (pv 2) (pe_callTy call_int1 (by rfl) T.n_int (by decide +kernel) (pa_cons (pv 3) pa_nil)))) (pa_cons (pe_ix ix_list (pv 11) pe_int (fun _ _ => rfl)) pa_nil))) (pa_cons (pe_ix ix_list (pv 11) pe_int (fun _ _ => rfl)) pa_nil))))
      (pss_cons (ps_set (i := 12) sc_law_due.nd rfl (by first | exact .inl rfl | exact .inr rfl) (pe_op op_catL (pv 12) (pe_lst (pa_cons (pe_lc (own := [("one", 10)]) (g := gName 10) (by rfl) sc_law_due.nd (pi_list (pv 6)) (blkOk_by (own := [("one", 10)]) (N := s_law_due_N) (sc := defScope s_law_due) (by decide +kernel)) (fun _ _ _ _ _ => (pg_name (i := 10) sc_law_due.nd rfl (by first | exact .inl rfl | exact .inr rfl))) (fun _ _ _ _ _ => pts_nil) (fun _ _ _ _ _ => (pe_lc (own := [("gap", 13)]) (g := gName 13) (by rfl) sc_law_due.nd (pi_listK (K := K) rfl (pv 10)) (blkOk_by (own := [("gap", 13)]) (N := s_law_due_N) (sc := ({ kind := PySem.ScopeKind.function, names := [ (PySem.Str.ofString ".0", PySem.NameKind.local), (PySem.Str.ofString "one", PySem.NameKind.local), (PySem.Str.ofString "times", PySem.NameKind.cell)], isGenerator := false, isCoroutine := false, more := [] : PySem.Scope })) (by decide +kernel)) (fun _ _ _ _ _ => (pg_name (i := 13) sc_law_due.nd rfl (by first | exact .inl rfl | exact .inr rfl))) (fun _ _ _ _ _ => pts_nil) (fun _ _ _ _ _ => (pe_op op_mulW (pv 13) (pv 1)))))) pa_nil))))
      (pss_one (ps_ret (pe_op op_catL (pv 12) (pe_lst (pa_cons (pe_lc (own := [("one", 10)]) (g := gName 10) (by rfl) sc_law_due.nd (pi_list (pv 7)) (blkOk_by (own := [("one", 10)]) (N := s_law_due_N) (sc := defScope s_law_due) (by decide +kernel)) (fun _ _ _ _ _ => (pg_name (i := 10) sc_law_due.nd rfl (by first | exact .inl rfl | exact .inr rfl))) (fun _ _ _ _ _ => pts_nil) (fun _ _ _ _ _ => (pe_ifExp (pt_cmpR op_isN (pv 10) pe_non (nomark _)) pe_non (pe_op op_add (pe_op op_mulW (pv 10) (pv 1)) (pv 2))))) (pa_cons (pv 8) pa_nil))))))))))), ?_⟩
  have sz : ∀ n : Nat, n ≤ 41 → n < sizeLine := fun n h => Nat.lt_of_le_of_lt h (by decide)
  obtain ⟨lq, gp, bp, cp, h0, dq, dG, dB, dC⟩ : ∃ lq gp bp cp : Addr, H l = some (.lst [.ref lq, .int round, .ref gp, .ref bp, .ref cp]) ∧ Dx [] H (.ref lq) (.list [.int first, .int again]) ∧ Dx [] H (.ref gp) (.list (G.map listI)) ∧ Dx [] H (.ref bp) (.list B) ∧ Dx [] H (.ref cp) (.list C) := by
    cases hl with
    | lst n h r =>
      cases r with
      | cons r1 r =>
        cases r with
        | cons r2 r =>
          cases r with
          | cons r3 r =>
            cases r with
            | cons r4 r =>
              cases r with
              | cons r5 r =>
                cases r
                cases r2
                cases r1 with
                | lst n1 h1 q1 =>
                  cases r3 with
                  | lst n3 h3 q3 =>
                    cases r4 with
                    | lst n4 h4 q4 =>
                      cases r5 with
                      | lst n5 h5 q5 => exact ⟨_, _, _, _, h, .lst n1 h1 q1, .lst n3 h3 q3, .lst n4 h4 q4, .lst n5 h5 q5⟩
  have hq : H lq = some (.lst [.int first, .int again]) := by
    cases dq with
    | lst n h r =>
      cases r with
      | cons r1 r =>
        cases r with
        | cons r2 r =>
          cases r
          cases r1
          cases r2
          exact h
  obtain ⟨gw, hgp, hgw⟩ : ∃ gw, H gp = some (.lst gw) ∧ DxA [] H gw (G.map listI) := by
    cases dG with
    | lst n h r => exact ⟨_, h, r⟩
  obtain ⟨bw, hbp, hbw⟩ : ∃ bw, H bp = some (.lst bw) ∧ DxA [] H bw B := by
    cases dB with
    | lst n h r => exact ⟨_, h, r⟩
  have lgw : gw.length = G.length := by rw [hgw.len, List.length_map]
  have layI : ∀ g : List Int, (listI g).canLay0 = true := fun g => all_lay (f := PyData.int) (fun _ => rfl) _
  have depI : ∀ g : List Int, (listI g).depth ≤ 7 := fun g => by
    have := all_depth (f := PyData.int) (n := 0) (fun _ => Nat.le_refl _) g
    show PyData.depthAll _ + 1 ≤ 7
    omega
  have shI : ∀ g : List Int, SeqAt.shaped (listI g) = true := fun g => (map_shaped (f := PyData.int) (fun _ => rfl) (fun _ => by show 0 ≤ 7; decide) g).1
  refine ⟨.ref l, rfl, l, _, rfl, SqL.of h0, rfl, _, _, rfl, _, _, rfl, _, _, rfl, _, _, rfl, _, _, rfl, rfl, ?_⟩
  -- goes
  obtain ⟨ne, hne⟩ : ∃ ne : List Int → Bool, ne = fun g => !g.isEmpty := ⟨_, rfl⟩
  refine ⟨.ref gp, rfl, gp, rfl, ⟨_, SqL.of hgp⟩, fun E nE => lc_list (xs := gw) (fun i H' => ∃ ws, H' E = some (.lst ws) ∧ DxA [E] H' ws (((G.take i).filter ne).map listI) ∧ Kp [] H H') ⟨[], upd_same, .nil, Kp.new nE⟩ (fun i H' _ hP => ?_) (fun i x H' hx hP => ?_) (fun H1 hP => ?_)⟩
  · obtain ⟨_, _, _, k⟩ := hP
    exact SqL.of (k.lst (by simp) hgp)
  · obtain ⟨ws, hE, hws, k⟩ := hP
    obtain ⟨dd, hdd, hxd⟩ := hgw.get hx
    rw [List.getElem?_map] at hdd
    obtain ⟨g, hg, rfl⟩ : ∃ g, G[i]? = some g ∧ dd = listI g := by
      cases q1 : G[i]? with
      | none => rw [q1] at hdd; cases hdd
      | some u => rw [q1] at hdd; exact ⟨u, rfl, (Option.some.inj hdd).symm⟩
    have hxk := hxd.kp k fun _ z => z
    refine ⟨rfl, x, rfl, by show 0 ≤ sizeLine; decide, fun le nle => ?_⟩
    generalize e3 : upd H' le _ = H3
    have k3 : Kp [] H' H3 := by rw [← e3]; exact Kp.new nle
    have hle : H3 le = some (.lst []) := by rw [← e3]; exact upd_same
    refine ⟨listI g, .list (([] : List Nat).map fun n : Nat => PyData.int (n : Int)), (hxk.kp k3 fun _ z => z).dp (PyData.hasDict_of_canLay _ (layI g)), .lst (SqL.of hle) .nil, shI g, (map_shaped (f := fun n : Nat => PyData.int (n : Int)) (fun _ => rfl) (fun _ => by show 0 ≤ 7; decide) []).1, _, rfl, ?_⟩
    rw [show PyData.eqv (listI g) (.list (([] : List Nat).map fun n : Nat => PyData.int (n : Int))) = decide (g.map PyData.int = []) from eqv_nil _]
    have hE3 := k3.lst (by simp) hE
    have lws : ws.length ≤ 12 := by
      rw [hws.len, List.length_map]
      exact Nat.le_trans (List.length_filter_le _ _) (by rw [List.length_take]; omega)
    cases g with
    | nil =>
      refine iteF ⟨ws, hE3, ?_, k.tr k3⟩
      rw [List.take_add_one, hg, List.filter_append, show (some ([] : List Int)).toList = [[]] from rfl, List.filter_cons_of_neg (by rw [hne]; decide)]
      show DxA [E] H3 ws ((_ ++ []).map listI)
      rw [List.append_nil]
      exact hws.kp k3 fun _ z => by cases z
    | cons z r =>
      refine iteT ⟨x, rfl, ws, hE3, sz _ (by omega), ws ++ [x], upd_same, ?_, Kp.drop nE ((k.tr k3).of0.tr (Kp.put (by simp) hE3 fun ps z => by cases z))⟩
      have kE : Kp [E] H3 (upd H3 E (.lst (ws ++ [x]))) := Kp.put (by simp) hE3 fun ps z => by cases z
      rw [List.take_add_one, hg, List.filter_append, show (some (z :: r)).toList = [z :: r] from rfl, List.filter_cons_of_pos (by rw [hne]; rfl), List.map_append]
      have hx3 : Dx [E] H3 x (listI (z :: r)) := ((hxd.ap nE).kp k fun _ z => by cases z).kp k3 fun _ z => by cases z
      exact ((hws.kp k3 fun _ z => by cases z).kp kE fun _ z => z).app (.cons (hx3.kp kE fun _ z => z) .nil)
  obtain ⟨ew, hE, hew, k1⟩ := hP
  rw [lgw, List.take_length] at hew
  obtain ⟨F, hF⟩ : ∃ F, F = G.filter ne := ⟨_, rfl⟩
  rw [← hF] at hew
  refine ⟨by show 0 ≤ sizeLine; decide, fun le nle => ?_⟩
  generalize e2 : upd H1 le _ = H2
  have k2 : Kp [] H1 H2 := by rw [← e2]; exact Kp.new nle
  have hle : H2 le = some (.lst []) := by rw [← e2]; exact upd_same
  have dE2 : Dx [] H2 (.ref E) (.list (F.map listI)) := (Dx.lst (by simp) hE (hew.wk fun _ z => by cases z)).kp k2 fun _ z => z
  have shF := map_shaped (f := listI) layI depI F
  refine ⟨.list (F.map listI), .list (([] : List Nat).map fun n : Nat => PyData.int (n : Int)), dE2.dp (PyData.hasDict_of_canLay _ shF.2.1), .lst (SqL.of hle) .nil, shF.1, (map_shaped (f := fun n : Nat => PyData.int (n : Int)) (fun _ => rfl) (fun _ => by show 0 ≤ 7; decide) []).1, ?_⟩
  rw [show PyData.eqv (.list (F.map listI)) (.list (([] : List Nat).map fun n : Nat => PyData.int (n : Int))) = decide (F.map listI = []) from eqv_nil _]
  obtain ⟨gb, hgb⟩ : ∃ gb, gb = !decide (F.map listI = []) := ⟨_, rfl⟩
  rw [← hgb]
  have egb : ∀ n : Int, (if (G.filter fun g => !g.isEmpty) = [] then n else n * c) = if gb = true then n * c else n := fun n => by
    rw [show (G.filter fun g => !g.isEmpty) = F by rw [hF, hne], hgb]
    cases F with
    | nil => rfl
    | cons z r => rfl
  have k02 := k1.tr k2
  have hq2 := k02.lst (by simp) hq
  -- rounds
  refine ⟨.ref lq, rfl, lq, _, 1, .int again, rfl, rfl, SqL.of hq2, atI_nat (j := 1) rfl, .int round, rfl, by show 2 ≤ sizeLine; decide, fun l1 nl1 => ?_⟩
  generalize e3 : upd H2 l1 _ = H3
  have k3 : Kp [] H2 H3 := by rw [← e3]; exact Kp.new nl1
  have hl1 : H3 l1 = some (.lst (([again, round] : List Int).map V.int)) := by rw [← e3]; exact upd_same
  refine ⟨l1, rfl, ⟨_, SqL.of hl1⟩, fun D nD => lc_list (xs := ([again, round] : List Int).map V.int) (fun i H' => H' D = some (.lst (((([again, round] : List Int).take i).map fun n => if gb = true then n * c else n).map V.int)) ∧ Kp [] H3 H') ⟨upd_same, Kp.new nD⟩ (fun i H' _ hP => SqL.of (hP.2.lst (by simp) hl1)) (fun i x H' hx hP => ?_) (fun H4 hP => ?_)⟩
  · obtain ⟨hD, k⟩ := hP
    rw [List.getElem?_map] at hx
    obtain ⟨n, hn, rfl⟩ : ∃ n, ([again, round] : List Int)[i]? = some n ∧ x = .int n := by
      cases q1 : ([again, round] : List Int)[i]? with
      | none => rw [q1] at hx; cases hx
      | some u => rw [q1] at hx; exact ⟨u, rfl, (Option.some.inj hx).symm⟩
    have sn : Sm n := by
      have := List.mem_of_getElem? hn
      simp only [List.mem_cons, List.not_mem_nil, or_false] at this
      rcases this with rfl | rfl
      · exact sa
      · exact sr
    have fin : ∃ acc, H' D = some (.lst acc) ∧ acc.length < sizeLine ∧ (upd H' D (.lst (acc ++ [.int (if gb = true then n * c else n)]))) D = some (.lst (((([again, round] : List Int).take (i + 1)).map fun n => if gb = true then n * c else n).map V.int)) ∧ Kp [] H3 (upd H' D (.lst (acc ++ [.int (if gb = true then n * c else n)]))) := by
      refine ⟨_, hD, ?_, ?_, Kp.drop nD (k.of0.tr (Kp.put (by simp) hD fun ps z => by cases z))⟩
      · rw [List.length_map, List.length_map, List.length_take]
        exact sz _ (Nat.le_trans (Nat.min_le_right _ _) (by show 2 ≤ 41; decide))
      · rw [upd_same, List.take_add_one, hn, List.map_append, List.map_append]
        rfl
    cases gb with
    | true => exact ⟨rfl, .bl true, rfl, true, rfl, iteT ⟨.int n, rfl, .int c, rfl, _, _, rfl, rfl, sn.mul sc, fin⟩⟩
    | false => exact ⟨rfl, .bl false, rfl, false, rfl, iteF ⟨.int n, rfl, fin⟩⟩
  obtain ⟨hD, k4⟩ := hP
  have hD : H4 D = some (.lst [.int (if gb = true then again * c else again), .int (if gb = true then round * c else round)]) := hD
  have k24 := k3.tr k4
  have k04 := k02.tr k24
  have hq4 := k04.lst (by simp) hq
  -- found
  have s01 : Sm (if al = true then 1 else 0) := by
    cases al with
    | true => exact ⟨by decide, by decide⟩
    | false => exact ⟨by decide, by decide⟩
  refine ⟨.ref lq, rfl, lq, _, 0, .int first, rfl, rfl, SqL.of hq4, rfl, .int c, rfl, _, _, rfl, rfl, sf.mul sc, .int d, rfl, .bl al, rfl, .inr ⟨al, rfl, _, _, rfl, rfl, sd.mul s01, _, _, rfl, rfl, .ref D, rfl, D, _, 0, .int (if gb = true then again * c else again), rfl, rfl, SqL.of hD, rfl, by show 2 ≤ sizeLine; decide, fun l2 nl2 => ?_⟩⟩
  generalize e5 : upd H4 l2 _ = H5
  have k5 : Kp [] H4 H5 := by rw [← e5]; exact Kp.new nl2
  have hl2 : H5 l2 = some (.lst [.int (first * c + d * (if al = true then 1 else 0)), .int (if gb = true then again * c else again)]) := by rw [← e5]; exact upd_same
  refine ⟨.ref D, rfl, D, _, 1, .int (if gb = true then round * c else round), rfl, rfl, SqL.of (k5.lst (by simp) hD), atI_nat (j := 1) rfl, by show 2 ≤ sizeLine; decide, fun l3 nl3 => ?_⟩
  generalize e6 : upd H5 l3 _ = H6
  have k6 : Kp [] H5 H6 := by rw [← e6]; exact Kp.new nl3
  have hl3 : H6 l3 = some (.lst [.ref l2, .int (if gb = true then round * c else round)]) := by rw [← e6]; exact upd_same
  have k06 := k04.tr (k5.tr k6)
  have hgp6 := k06.lst (by simp) hgp
  -- gaps
  refine ⟨.ref l3, rfl, .ref gp, rfl, gp, rfl, ⟨_, SqL.of hgp6⟩, fun M nM => lc_list (xs := gw) (fun i H' => ∃ ws, H' M = some (.lst ws) ∧ DxA [M] H' ws ((G.take i).map fun g => listI (mulI c g)) ∧ Kp [] H6 H') ⟨[], upd_same, .nil, Kp.new nM⟩ (fun i H' _ hP => ?_) (fun i x H' hx hP => ?_) (fun H7 hP => ?_)⟩
  · obtain ⟨_, _, _, k⟩ := hP
    exact SqL.of (k.lst (by simp) hgp6)
  · obtain ⟨ws, hM, hws, k⟩ := hP
    obtain ⟨dd, hdd, hxd⟩ := hgw.get hx
    rw [List.getElem?_map] at hdd
    obtain ⟨g, hg, rfl⟩ : ∃ g, G[i]? = some g ∧ dd = listI g := by
      cases q1 : G[i]? with
      | none => rw [q1] at hdd; cases hdd
      | some u => rw [q1] at hdd; exact ⟨u, rfl, (Option.some.inj hdd).symm⟩
    obtain ⟨lg, sg⟩ := sG g (List.mem_of_getElem? hg)
    have hxk := hxd.kp (k06.tr k) fun _ z => z
    obtain ⟨lx, us, rfl, hlx, hus⟩ : ∃ lx us, x = .ref lx ∧ H' lx = some (.lst us) ∧ us = g.map V.int := by
      cases hxk with
      | lst n h r =>
        refine ⟨_, _, rfl, h, ?_⟩
        have : ∀ (g : List Int) (us : List V), DxA [] H' us (g.map PyData.int) → us = g.map V.int := by
          intro g
          induction g with
          | nil => intro us h; cases h; rfl
          | cons z g ih =>
            intro us h
            cases h with
            | cons h1 h2 =>
              cases h1
              rw [ih _ h2]
              rfl
        exact this g _ r
    subst hus
    refine ⟨rfl, .ref lx, rfl, lx, rfl, ⟨_, SqL.of hlx⟩, fun Y nY => lc_list (xs := g.map V.int) (fun j H2 => H2 Y = some (.lst ((mulI c (g.take j)).map V.int)) ∧ Kp [] H' H2) ⟨upd_same, Kp.new nY⟩ (fun j H2 _ hP => SqL.of (hP.2.lst (by simp) hlx)) (fun j y H2 hy hP => ?_) (fun H2 hP => ?_)⟩
    · obtain ⟨hY, k2⟩ := hP
      rw [List.getElem?_map] at hy
      obtain ⟨n, hn, rfl⟩ : ∃ n, g[j]? = some n ∧ y = .int n := by
        cases q1 : g[j]? with
        | none => rw [q1] at hy; cases hy
        | some u => rw [q1] at hy; exact ⟨u, rfl, (Option.some.inj hy).symm⟩
      refine ⟨rfl, .int n, rfl, .int c, rfl, _, _, rfl, rfl, (sg n (List.mem_of_getElem? hn)).mul sc, _, hY, ?_, ?_, Kp.drop nY (k2.of0.tr (Kp.put (by simp) hY fun ps z => by cases z))⟩
      · unfold mulI
        rw [List.length_map, List.length_map, List.length_take]
        exact sz _ (by omega)
      · unfold mulI
        rw [upd_same, List.take_add_one, hn, List.map_append, List.map_append]
        rfl
    · obtain ⟨hY, k2⟩ := hP
      rw [List.length_map, List.take_length] at hY
      have neYM : Y ≠ M := fun e => by rw [e, hM] at nY; cases nY
      have hM2 := k2.lst (by simp) hM
      have kM : Kp [M] H2 (upd H2 M (.lst (ws ++ [.ref Y]))) := Kp.put (by simp) hM2 fun ps z => by cases z
      refine ⟨ws, hM2, ?_, ws ++ [.ref Y], upd_same, ?_, Kp.drop nM ((k.tr k2).of0.tr kM)⟩
      · rw [hws.len, List.length_map, List.length_take]
        exact sz _ (by omega)
      · rw [List.take_add_one, hg, List.map_append]
        have dY : Dx [M] H2 (.ref Y) (listI (mulI c g)) := .lst (by simpa using neYM) hY (by
          have : ∀ g : List Int, DxA [M] H2 (g.map V.int) (g.map PyData.int) := by
            intro g
            induction g with
            | nil => exact .nil
            | cons z g ih => exact .cons (.int z) ih
          exact this _)
        exact ((hws.kp k2 fun _ z => by cases z).kp kM fun _ z => z).app (.cons (dY.kp kM fun _ z => z) .nil)
  obtain ⟨mw, hM, hmw, k7⟩ := hP
  rw [lgw, List.take_length] at hmw
  refine ⟨by show 1 ≤ sizeLine; decide, fun l4 nl4 => ?_⟩
  generalize e8 : upd H7 l4 _ = H8
  have k8 : Kp [] H7 H8 := by rw [← e8]; exact Kp.new nl4
  have hl4 : H8 l4 = some (.lst [.ref M]) := by rw [← e8]; exact upd_same
  have k68 := k7.tr k8
  refine ⟨l3, l4, _, _, rfl, rfl, SqL.of (k68.lst (by simp) hl3), SqL.of hl4, by show 2 + 1 ≤ sizeLine; decide, fun l5 nl5 => ?_⟩
  generalize e9 : upd H8 l5 _ = H9
  have k9 : Kp [] H8 H9 := by rw [← e9]; exact Kp.new nl5
  have hl5 : H9 l5 = some (.lst ([V.ref l2, .int (if gb = true then round * c else round)] ++ [.ref M])) := by rw [← e9]; exact upd_same
  have k69 := k68.tr k9
  have k09 := k06.tr k69
  have hbp9 := k09.lst (by simp) hbp
  -- begun
  refine ⟨.ref l5, rfl, .ref bp, rfl, bp, rfl, ⟨_, SqL.of hbp9⟩, fun W nW => lc_list (xs := bw) (fun i H' => ∃ ws, H' W = some (.lst ws) ∧ DxA [W] H' ws ((B.take i).map (mulD c d)) ∧ Kp [] H9 H') ⟨[], upd_same, .nil, Kp.new nW⟩ (fun i H' _ hP => ?_) (fun i x H' hx hP => ?_) (fun H10 hP => ?_)⟩
  · obtain ⟨_, _, _, k⟩ := hP
    exact SqL.of (k.lst (by simp) hbp9)
  · obtain ⟨ws, hW, hws, k⟩ := hP
    obtain ⟨b, hb, hxb⟩ := hbw.get hx
    have kW : ∀ u, Kp [W] H' (upd H' W (.lst (ws ++ [u]))) := fun u => Kp.put (by simp) hW fun ps z => by cases z
    have fin : ∀ u, Dx [W] H' u (mulD c d b) → ∃ acc, H' W = some (.lst acc) ∧ acc.length < sizeLine ∧ ∃ ws, (upd H' W (.lst (acc ++ [u]))) W = some (.lst ws) ∧ DxA [W] (upd H' W (.lst (acc ++ [u]))) ws ((B.take (i + 1)).map (mulD c d)) ∧ Kp [] H9 (upd H' W (.lst (acc ++ [u]))) := fun u hu => by
      refine ⟨ws, hW, ?_, ws ++ [u], upd_same, ?_, Kp.drop nW (k.of0.tr (kW u))⟩
      · rw [hws.len, List.length_map, List.length_take]
        exact sz _ (by omega)
      · rw [List.take_add_one, hb, List.map_append]
        exact (hws.kp (kW u) fun _ z => z).app (.cons (hu.kp (kW u) fun _ z => z) .nil)
    rcases sB b (List.mem_of_getElem? hb) with rfl | ⟨n, rfl, sn⟩
    · cases hxb
      exact ⟨rfl, .non, rfl, rfl, _, rfl, iteT (fin _ .non)⟩
    · cases hxb
      exact ⟨rfl, .int n, rfl, rfl, _, rfl, iteF ⟨.int n, rfl, .int c, rfl, _, _, rfl, rfl, sn.mul sc, .int d, rfl, _, _, rfl, rfl, fin _ (.int _)⟩⟩
  obtain ⟨vw, hW, hvw, k10⟩ := hP
  rw [hbw.len, List.take_length] at hvw
  refine ⟨.ref cp, rfl, by show 2 ≤ sizeLine; decide, fun l6 nl6 => ?_⟩
  generalize e11 : upd H10 l6 _ = H11
  have k11 : Kp [] H10 H11 := by rw [← e11]; exact Kp.new nl6
  have hl6 : H11 l6 = some (.lst [.ref W, .ref cp]) := by rw [← e11]; exact upd_same
  have k911 := k10.tr k11
  refine ⟨l5, l6, _, _, rfl, rfl, SqL.of (k911.lst (by simp) hl5), SqL.of hl6, by show 3 + 2 ≤ sizeLine; decide, fun l7 nl7 => ?_⟩
  generalize e12 : upd H11 l7 _ = H12
  have k12 : Kp [] H11 H12 := by rw [← e12]; exact Kp.new nl7
  have hl7 : H12 l7 = some (.lst (([V.ref l2, .int (if gb = true then round * c else round)] ++ [.ref M]) ++ [.ref W, .ref cp])) := by rw [← e12]; exact upd_same
  have k912 := k911.tr k12
  have k012 := k09.tr k912
  refine q l7 H12 ?_ k012
  unfold dueL toldL
  rw [egb again, egb round, List.map_map]
  have d2 : Dx [] H12 (.ref l2) (.list [.int (first * c + d * (if al = true then 1 else 0)), .int (if gb = true then again * c else again)]) := (Dx.lst (by simp) hl2 (.cons (.int _) (.cons (.int _) .nil))).kp (k6.tr (k69.tr k912)) fun _ z => z
  have dM : Dx [] H12 (.ref M) (.list (G.map fun g => listI (mulI c g))) := (Dx.lst (by simp) hM (hmw.wk fun _ z => by cases z)).kp ((k8.tr k9).tr k912) fun _ z => z
  have dW : Dx [] H12 (.ref W) (.list (B.map (mulD c d))) := (Dx.lst (by simp) hW (hvw.wk fun _ z => by cases z)).kp (k11.tr k12) fun _ z => z
  exact .lst (by simp) hl7 (.cons d2 (.cons (.int _) (.cons dM (.cons dW (.cons (dC.kp k012 fun _ z => z) .nil)))))
end

section
variable {P : Program} {w : World} {K : PySem.W.Frag} {mg : Str → Option Value} {base : Heap} {a : Ad}
def kidsD : PyData → List PyData
  | .list ds => ds
  | .tuple ds => ds
  | _ => []
def noStr : PyData → Bool
  | .str _ => false
  | _ => true
def Plain (Pr : PyData → Prop) : Prop := ∀ d, Pr d → noStr d = true ∧ ∀ e ∈ kidsD d, Pr e
def spSame (n : Nat) : Sp := fun vs H Q _ => ∃ (v u : V) (d : PyData) (Pr : PyData → Prop), vs = [v, u] ∧ Plain Pr ∧ Pr d ∧ Dx [] H v d ∧ Dx [] H u d ∧ d.canLay0 = true ∧ wdB d = true ∧ d.depth ≤ n ∧ ∀ H', Kp [] H H' → Q (.bl true) H'
theorem kit_any {K : PySem.W.Frag} {d : PyData} : PySem.W.kitAny K (.type (kname d)) [.type "list", .type "tuple"] = some (kindB d "list" || kindB d "tuple") := by
  refine kitAny_cons (kit_data (C := "list") (by decide)) (fun e => ?_) fun e => by rw [e]; rfl
  rw [e]
  refine kitAny_cons (kit_data (C := "tuple") (by decide)) (fun e => ?_) fun e => by rw [e]; rfl
  rw [e]
  exact kitAny_nil
theorem lay_mem {d : PyData} : ∀ {ds : List PyData}, PyData.canLayAll0 ds = true → d ∈ ds → d.canLay0 = true
  | [], _, h => by cases h
  | e :: ds, h, hm => by
    have h2 : e.canLay0 = true ∧ PyData.canLayAll0 ds = true := by simpa [PyData.canLayAll0] using h
    rcases List.mem_cons.mp hm with rfl | hm
    · exact h2.1
    · exact lay_mem h2.2 hm
theorem depth_mem {d : PyData} : ∀ {ds : List PyData}, d ∈ ds → d.depth ≤ PyData.depthAll ds
  | [], h => by cases h
  | e :: ds, hm => by
    show _ ≤ max e.depth (PyData.depthAll ds)
    rcases List.mem_cons.mp hm with rfl | hm
    · exact Nat.le_max_left _ _
    · exact Nat.le_trans (depth_mem hm) (Nat.le_max_right _ _)
theorem ok_law_sameN (T : Tx K mg a) (n : Nat) {j : Nat} {sp : Sp} (G_law_same : FnOk P w K mg base CX0 j a.a_law_same a.f_law_same ["found", "due"] sp) (hj : j ≤ n) (hsp : 0 < n → ∀ vs H Q E, spSame (n - 1) vs H Q E → sp vs H Q E) :
    FnOk P w K mg base CX0 (n + 1) a.a_law_same a.f_law_same ["found", "due"] (spSame n) := by
  refine T.law_same.F.ok sc_law_same (fun vs H Q E h => ?_) (fun cdv A outer s H vs Q E hr h => ?_)
  · obtain ⟨v, u, d, Pr, rfl, _⟩ := h
    rfl
  obtain ⟨v, u, d, Pr, rfl, hPl, hPr, hv, hu, hl, hwd, hdp, q⟩ := h
  refine ⟨_, (pss_cons (ps_if (pt_val (pe_callB call_isiT (by rfl) T.n_isinstance (by decide +kernel) (pa_cons (pv 1) (pa_cons (pe_tup (pa_cons (pe_bltn (v := .ty "list") (by rfl) T.n_list (by decide +kernel) rfl) (pa_cons (pe_bltn (v := .ty "tuple") (by rfl) T.n_tuple (by decide +kernel) rfl) pa_nil))) pa_nil)))) (pss_cons (ps_if (PW.pt (pw_or (pt_cmpR op_ne (pe_callB call_isi (by rfl) T.n_isinstance (by decide +kernel) (pa_cons (pv 0) (pa_cons (pe_bltn (v := .ty "list") (by rfl) T.n_list (by decide +kernel) rfl) pa_nil))) (pe_callB call_isi (by rfl) T.n_isinstance (by decide +kernel) (pa_cons (pv 1) (pa_cons (pe_bltn (v := .ty "list") (by rfl) T.n_list (by decide +kernel) rfl) pa_nil))) (nomark _)) (pw_or1 (pt_not (pt_val (pe_callB call_isiT (by rfl) T.n_isinstance (by decide +kernel) (pa_cons (pv 0) (pa_cons (pe_tup (pa_cons (pe_bltn (v := .ty "list") (by rfl) T.n_list (by decide +kernel) rfl) (pa_cons (pe_bltn (v := .ty "tuple") (by rfl) T.n_tuple (by decide +kernel) rfl) pa_nil))) pa_nil)))))))) (pss_one (ps_ret pe_bl)) pss_nil)
      (pss_one (ps_ret (pe_and (pe_cmpR op_eq (pe_callB call_len_seq (by rfl) T.n_len (by decide +kernel) (pa_cons (pv 0) pa_nil)) (pe_callB call_len_seq (by rfl) T.n_len (by decide +kernel) (pa_cons (pv 1) pa_nil)) (nomark _)) (pe_one (pe_callB (cr_all rfl) (by rfl) T.n_all (by decide +kernel) (pa_cons (pe_lc (own := [("k", 2)]) (g := gName 2) (by rfl) sc_law_same.nd (pi_range1 (by rfl) T.n_range (pa_cons (pe_callB call_len_seq (by rfl) T.n_len (by decide +kernel) (pa_cons (pv 1) pa_nil)) pa_nil)) (blkOk_by (own := [("k", 2)]) (N := s_law_same_N) (sc := defScope s_law_same) (by decide +kernel)) (fun _ _ _ _ _ => (pg_name (i := 2) sc_law_same.nd rfl (by first | exact .inl rfl | exact .inr rfl))) (fun _ _ _ _ _ => pts_nil) (fun _ _ _ _ _ => (pe_call G_law_same (hr.mono (by omega)) (by rfl) T.law_same.g T.law_same.F.kp T.law_same.b .nil pass0 (pa_cons (pe_ix (ix_seqK (K := K) rfl) (pv 0) (pv 2) (fun _ _ => rfl)) (pa_cons (pe_ix (ix_seqK (K := K) rfl) (pv 1) (pv 2) (fun _ _ => rfl)) pa_nil))))) pa_nil))))))) pss_nil)
      (pss_cons (ps_if (PW.pt (pw_or (pt_cmpR op_isN (pv 1) pe_non (nomark _)) (pw_or1 (pt_val (pe_callB call_isi (by rfl) T.n_isinstance (by decide +kernel) (pa_cons (pv 1) (pa_cons (pe_bltn (v := .ty "bool") (by rfl) T.n_bool (by decide +kernel) rfl) pa_nil))))))) (pss_one (ps_ret (pe_ifExp (pt_cmpR op_isN (pv 1) pe_non (nomark _)) (pe_cmpR op_isN (pv 0) pe_non (nomark _)) (pe_and (pe_callB call_isi (by rfl) T.n_isinstance (by decide +kernel) (pa_cons (pv 0) (pa_cons (pe_bltn (v := .ty "bool") (by rfl) T.n_bool (by decide +kernel) rfl) pa_nil))) (pe_one (pe_cmpR (op_eqD hr.units) (pv 0) (pv 1) (nomark _))))))) pss_nil)
      (pss_one (ps_ret (pe_and (pe_callB call_isi (by rfl) T.n_isinstance (by decide +kernel) (pa_cons (pv 0) (pa_cons (pe_bltn (v := .ty "int") (by rfl) T.n_int (by decide +kernel) rfl) pa_nil))) (pe_and (pe_not (pe_callB call_isi (by rfl) T.n_isinstance (by decide +kernel) (pa_cons (pv 0) (pa_cons (pe_bltn (v := .ty "bool") (by rfl) T.n_bool (by decide +kernel) rfl) pa_nil)))) (pe_one (pe_cmpR (op_eqD hr.units) (pv 0) (pv 1) (nomark _))))))))), ?_⟩
  have kl : PySem.W.kitOne K (.type (kname d)) (.type "list") = some (kindB d "list") := kit_data (by decide)
  have kt : PySem.W.kitOne K (.type (kname d)) (.type "tuple") = some (kindB d "tuple") := kit_data (by decide)
  have kb : PySem.W.kitOne K (.type (kname d)) (.type "bool") = some (kindB d "bool") := kit_data (by decide)
  have ki : PySem.W.kitOne K (.type (kname d)) (.type "int") = some (kindB d "int") := kit_data (by decide)
  refine ⟨u, rfl, by show 2 ≤ sizeLine; decide, fun tp ntp => ⟨u, tp, _, _, _, _, rfl, upd_same, .cons (.ty _) (.cons (.ty _) .nil), ?_, kit_any (d := d), _, rfl, ?_⟩⟩
  · exact tyx_of (hu.kp (Kp.new (S := []) ntp) fun _ z => by cases z)
  have kp1 : Kp [] H (upd H tp (.tup [.ty "list", .ty "tuple"])) := Kp.new ntp
  obtain ⟨H1, e1⟩ : ∃ H1, H1 = upd H tp (.tup [.ty "list", .ty "tuple"]) := ⟨_, rfl⟩
  rw [← e1] at kp1
  show (if (kindB d "list" || kindB d "tuple") = true then _ else _)
  have hv1 : Dx [] H1 v d := hv.kp kp1 fun _ z => by cases z
  have hu1 : Dx [] H1 u d := hu.kp kp1 fun _ z => by cases z
  have shp : d.depth ≤ 64 → SeqAt.shaped d = true := fun e => by
    unfold SeqAt.shaped
    rw [hl, decide_eq_true e]; rfl
  have nd := PyData.hasDict_of_canLay _ hl
  by_cases hk : (kindB d "list" || kindB d "tuple") = true
  · rw [hk]
    refine iteT ?_
    rw [← e1]
    -- if isinstance(found, list) != isinstance(due, list) or not isinstance(found, (list, tuple))
    refine ⟨v, rfl, v, .ty "list", _, _, _, rfl, .ty _, tyx_of hv1, kl, u, rfl, u, .ty "list", _, _, _, rfl, .ty _, tyx_of hu1, kl, rfl, _, rfl, ?_⟩
    rw [decide_eq_true (Eq.refl _)]
    refine iteF ?_
    refine ⟨v, rfl, by show 2 ≤ sizeLine; decide, fun tq ntq => ⟨v, tq, _, _, _, _, rfl, upd_same, .cons (.ty _) (.cons (.ty _) .nil), ?_, kit_any (d := d), _, rfl, ?_⟩⟩
    · exact tyx_of (hv1.kp (Kp.new (S := []) ntq) fun _ z => by cases z)
    obtain ⟨H2, e2⟩ : ∃ H2, H2 = upd H1 tq (.tup [.ty "list", .ty "tuple"]) := ⟨_, rfl⟩
    have kp2 : Kp [] H1 H2 := e2 ▸ Kp.new ntq
    have hv2 : Dx [] H2 v d := hv1.kp kp2 fun _ z => by cases z
    have hu2 : Dx [] H2 u d := hu1.kp kp2 fun _ z => by cases z
    have hk3 : (!(kindB d "list" || kindB d "tuple")) = false := by rw [hk]; rfl
    rw [hk3]
    refine iteF ?_
    rw [← e2]
    have kp02 := kp1.tr kp2
    -- what stands in both
    obtain ⟨x1, x2, xs1, xs2, ds, rfl, rfl, hr1, hr2, hlay, hwds, hdep, hkids, hseq⟩ : ∃ x1 x2 xs1 xs2 ds, v = .ref x1 ∧ u = .ref x2 ∧ DxA [] H2 xs1 ds ∧ DxA [] H2 xs2 ds ∧ PyData.canLayAll0 ds = true ∧ (ds.length < 100000 ∧ wdAll ds = true) ∧ PyData.depthAll ds + 1 ≤ n ∧ (∀ e ∈ ds, Pr e) ∧
        ((H2 x1 = some (.lst xs1) ∧ H2 x2 = some (.lst xs2)) ∨ (H2 x1 = some (.tup xs1) ∧ H2 x2 = some (.tup xs2))) := by
      cases hv2 with
      | @lst x1 xs1 ds _ h1 r1 =>
        cases hu2 with
        | @lst x2 xs2 _ _ h2 r2 => exact ⟨x1, x2, xs1, xs2, ds, rfl, rfl, r1, r2, hl, by simpa [wdB] using hwd, hdp, (hPl _ hPr).2, .inl ⟨h1, h2⟩⟩
      | @tup x1 xs1 ds _ h1 r1 =>
        cases hu2 with
        | @tup x2 xs2 _ _ h2 r2 => exact ⟨x1, x2, xs1, xs2, ds, rfl, rfl, r1, r2, hl, by simpa [wdB] using hwd, hdp, (hPl _ hPr).2, .inr ⟨h1, h2⟩⟩
      | dic _ h => exact absurd hl (by simp [PyData.canLay0])
      | non => exact nomatch (show (false : Bool) = true from hk)
      | bl b => exact nomatch (show (false : Bool) = true from hk)
      | int i => exact nomatch (show (false : Bool) = true from hk)
      | str z => exact nomatch (show (false : Bool) = true from hk)
    have l1 := hr1.len
    have l2 := hr2.len
    have sq : ∀ {Hx : Hp}, Kp [] H2 Hx → (SqL K Hx x1 xs1 ∨ SqT K Hx x1 xs1) ∧ (SqL K Hx x2 xs2 ∨ SqT K Hx x2 xs2) := fun {Hx} k => by
      rcases hseq with ⟨h1, h2⟩ | ⟨h1, h2⟩
      · exact ⟨.inl (SqL.of (k.lst (by simp) h1)), .inl (SqL.of (k.lst (by simp) h2))⟩
      · exact ⟨.inr (SqT.of (k.tup (by simp) h1)), .inr (SqT.of (k.tup (by simp) h2))⟩
    have ixr : ∀ {Hx : Hp} {x : Addr} {xs : List V} {i : Nat} {y : V} {QQ : V → Hp → Prop}, (SqL K Hx x xs ∨ SqT K Hx x xs) → xs[i]? = some y → QQ y Hx → rIx K (.ref x) (.int (i : Int)) Hx QQ := fun {Hx x xs i y QQ} hs hy hq => by
      rcases hs with h | h
      · exact .inl ⟨x, xs, i, y, rfl, rfl, h, atI_nat hy, hq⟩
      · exact .inr (.inl ⟨x, xs, i, y, rfl, rfl, h, atI_nat hy, hq⟩)
    refine ⟨.ref x1, rfl, x1, xs1, rfl, (sq .rfl').1, .ref x2, rfl, x2, xs2, rfl, (sq .rfl').2, rfl, _, rfl, ?_⟩
    rw [decide_eq_true (by rw [l1, l2])]
    have n0 : 0 < n := by omega
    have hds := hwds.1
    refine iteT ⟨.ref x2, rfl, x2, xs2, rfl, (sq .rfl').2, ds.length, by rw [l2], by omega, by omega, fun D nD => lc_range (n := ds.length) (fun i Ha => Ha D = some (.lst (List.replicate i (.bl true))) ∧ Kp [] H2 Ha) ⟨upd_same, Kp.new nD⟩ (fun i Ha hi hP => ?_) (fun Ha hP => ?_)⟩
    · obtain ⟨hD, ka⟩ := hP
      rw [show (0 + (i : Int)) = (i : Int) by omega]
      have hdi : ds[i]? = some ds[i] := List.getElem?_eq_getElem hi
      obtain ⟨y1, hy1, hx1⟩ := hr1.get' hdi
      obtain ⟨y2, hy2, hx2⟩ := hr2.get' hdi
      have hm := List.getElem_mem hi
      refine ⟨rfl, .ref x1, rfl, .int i, rfl, ixr (sq ka).1 hy1 ⟨.ref x2, rfl, .int i, rfl, ixr (sq ka).2 hy2 ?_⟩⟩
      refine hsp n0 _ _ _ _ ⟨y1, y2, ds[i], Pr, rfl, hPl, hkids _ hm, hx1.kp ka (fun _ z => by cases z), hx2.kp ka (fun _ z => by cases z), lay_mem hlay hm, wd_mem hwds.2 hm, ?_, fun Hc kc => ?_⟩
      · have := depth_mem hm
        omega
      have hc := kc.lst (by simp) hD
      refine ⟨_, hc, ?_, ?_, ?_⟩
      · rw [List.length_replicate]
        have := wd_len
        omega
      · rw [upd_same, List.replicate_succ']
      · exact Kp.drop nD ((ka.tr kc).of0.tr (Kp.put (S := [D]) (by simp) hc fun ps e => by cases e))
    · obtain ⟨hD, ka⟩ := hP
      refine ⟨D, List.replicate ds.length true, rfl, SqL.of (by rw [List.map_replicate]; exact hD), ?_⟩
      have e : (List.replicate ds.length true).all id = true := by
        rw [List.all_eq_true]
        intro b hb
        rw [(List.mem_replicate.mp hb).2]; rfl
      rw [e]
      exact q Ha (kp02.tr ka)
  · have hk2 : (kindB d "list" || kindB d "tuple") = false := by simpa using hk
    rw [hk2]
    refine iteF ?_
    rw [← e1]
    have dz : d.depth = 0 := by
      cases d with
      | list _ => exact nomatch (show (true : Bool) = false from hk2)
      | tuple _ => exact nomatch (show (true : Bool) = false from hk2)
      | dict _ => exact absurd hl (by simp [PyData.canLay0])
      | _ => rfl
    have sh := shp (by omega)
    have tl : ∀ {v : V}, Dx [] H1 v d → (d = .none → v = .non) ∧ (d ≠ .none → v ≠ .non) := fun h => by
      cases h <;> exact ⟨fun e => (by first | rfl | cases e), fun e => (by first | exact absurd rfl e | exact fun z => by cases z)⟩
    by_cases hnon : d = .none
    · have e1' := (tl hu1).1 hnon
      have e2' := (tl hv1).1 hnon
      refine ⟨u, rfl, rfl, _, rfl, ?_⟩
      rw [decide_eq_true e1']
      refine iteT (iteT ⟨u, rfl, rfl, _, rfl, ?_⟩)
      rw [decide_eq_true e1']
      refine iteT ⟨v, rfl, rfl, ?_⟩
      rw [decide_eq_true e2']
      exact q H1 kp1
    have n1 := (tl hu1).2 hnon
    have n2 := (tl hv1).2 hnon
    refine ⟨u, rfl, rfl, _, rfl, ?_⟩
    rw [decide_eq_false n1]
    refine iteF ⟨u, rfl, u, .ty "bool", _, _, _, rfl, .ty _, tyx_of hu1, kb, _, rfl, ?_⟩
    cases hkb : kindB d "bool" with
    | true =>
      refine iteT ⟨u, rfl, rfl, _, rfl, ?_⟩
      rw [decide_eq_false n1]
      refine iteF ⟨v, rfl, v, .ty "bool", _, _, _, rfl, .ty _, tyx_of hv1, kb, ?_⟩
      rw [hkb]
      refine ⟨_, rfl, iteT ⟨v, rfl, u, rfl, d, d, hv1.dp nd, hu1.dp nd, sh, sh, ?_⟩⟩
      rw [SeqAt.eqv_refl _ hl]
      exact q H1 kp1
    | false =>
      have hki : kindB d "int" = true := by
        cases d with
        | none => exact absurd rfl hnon
        | bool _ => exact nomatch (show (true : Bool) = false from hkb)
        | int _ => rfl
        | str _ => exact nomatch (show (false : Bool) = true from (hPl _ hPr).1)
        | list _ => exact nomatch (show (true : Bool) = false from hk2)
        | tuple _ => exact nomatch (show (true : Bool) = false from hk2)
        | dict _ => exact absurd hl (by simp [PyData.canLay0])
      refine iteF ⟨v, rfl, v, .ty "int", _, _, _, rfl, .ty _, tyx_of hv1, ki, ?_⟩
      rw [hki]
      refine ⟨_, rfl, iteT ⟨v, rfl, v, .ty "bool", _, _, _, rfl, .ty _, tyx_of hv1, kb, ?_⟩⟩
      rw [hkb]
      refine ⟨_, rfl, _, rfl, iteT ⟨v, rfl, u, rfl, d, d, hv1.dp nd, hu1.dp nd, sh, sh, ?_⟩⟩
      rw [SeqAt.eqv_refl _ hl]
      exact q H1 kp1
theorem ok_law_same (T : Tx K mg a) : ∀ n, FnOk P w K mg base CX0 (n + 1) a.a_law_same a.f_law_same ["found", "due"] (spSame n) := by
  intro n
  induction n with
  | zero => exact ok_law_sameN T 0 (j := 0) (sp := fun _ _ _ _ => False) ⟨fun _ _ _ _ h => h.elim, fun _ _ _ _ _ _ _ _ _ _ _ _ _ h => h.elim⟩ (Nat.le_refl _) fun h => absurd h (Nat.lt_irrefl 0)
  | succ n ih => exact ok_law_sameN T (n + 1) ih (Nat.le_refl _) fun _ vs H Q E h => h
end

section
open Classical
theorem tot_small {N : Net} (h8 : N.length ≤ 8) (h9 : ∀ z ∈ N, z.1 ≤ 9) : totN N ≤ 72 := by
  have h2 : sumB N (List.range N.length) ≤ (List.range N.length).length * (9 : Int) := sumB_most fun y hy => by
    have hl := List.mem_range.mp hy
    rw [burnOf_get (List.getElem?_eq_getElem hl)]
    exact h9 _ (List.getElem_mem hl)
  rw [List.length_range] at h2
  show sumB N (List.range N.length) ≤ 72
  omega
theorem told_small {N : Net} {ks : Kds} {R : List C4} {first : Int} (o : NetOk N) (hk : KdsOk N ks) (hR : Losses N ks R) (h : RestOk N ks R first) (h8 : N.length ≤ 8) (h9 : ∀ z ∈ N, z.1 ≤ 9) (hM : ∀ p ∈ ks, p.1 ≤ 122) (lk : ks.length ≤ 40) :
    Sm first ∧ Sm (againF N (fatesR N ks R) : Nat) ∧ Sm (roundN N (fatesR N ks R) : Nat) ∧ (∀ x, x < N.length → wayA N x = [] → (gapsI N (fatesR N ks R) x).length ≤ 41 ∧ ∀ z ∈ gapsI N (fatesR N ks R) x, Sm z) ∧ ∀ x, burnZ N ks x = .none ∨ ∃ i, burnZ N ks x = .int i ∧ Sm i := by
  have tot : totN N ≤ 72 := by
    have h2 : sumB N (List.range N.length) ≤ (List.range N.length).length * (9 : Int) := sumB_most fun y hy => by
      have hl := List.mem_range.mp hy
      rw [burnOf_get (List.getElem?_eq_getElem hl)]
      exact h9 _ (List.getElem_mem hl)
    rw [List.length_range] at h2
    show sumB N (List.range N.length) ≤ 72
    omega
  have lap : ∀ x, x < N.length → 0 ≤ lapOf N x ∧ lapOf N x ≤ 72 := fun x hx => ⟨lap_nonneg o hx, Int.le_trans (tot_lap o hx) tot⟩
  have f0 := h.nonneg o hk hR
  have f1 := first_le o hk hR (M := 122) hM h
  have big : (1000 : Int) < 2 ^ 250 := by decide
  have lF : (fatesR N ks R).length ≤ 40 := by rw [fatesR_len]; exact lk
  have sa : (againF N (fatesR N ks R) : Nat) ≤ 72 ^ 40 := by
    have h1 := again_le (N := N) (B := 72) (by decide) (fatesR N ks R) 1 fun x t hg => by
      have := lap x (rings_rt o (goes_ring o hk hR hg)).1
      omega
    rw [Nat.one_mul] at h1
    exact Nat.le_trans h1 (Nat.pow_le_pow_right (by decide) lF)
  have a0 := again_pos o hk hR
  have sr : roundN N (fatesR N ks R) ≤ 72 ^ 40 := by
    obtain ⟨F, rfl⟩ := Int.eq_ofNat_of_zero_le f0
    have := h.per o hk hR (t := F) (L := againF N (fatesR N ks R)) (Int.le_refl _) (Nat.dvd_refl _)
    have hd := (round_bare o hk hR h (t := F) (Int.le_refl _)).mp fun x => by rw [this x]
    exact Nat.le_trans (Nat.le_of_dvd a0 hd) sa
  have p72 : (72 : Nat) ^ 40 < 2 ^ 250 := by decide
  have nat : ∀ n : Nat, n ≤ 72 ^ 40 → Sm (n : Nat) := fun n hn => ⟨Int.natCast_nonneg _, by
    have := Int.ofNat_lt.mpr (Nat.lt_of_le_of_lt hn p72)
    rwa [Int.natCast_pow] at this⟩
  refine ⟨⟨f0, by omega⟩, nat _ sa, nat _ sr, fun x hx hA => ⟨?_, fun z hz => ?_⟩, fun x => ?_⟩
  · unfold gapsI
    rw [gapsZ_len]
    have := List.length_filterMap_le (beatE (minN (wayR N x))) (fatesR N ks R)
    unfold beatsX
    omega
  · have hxx : x ∈ wayR N x := (ring_root hA).mpr (path_self N x)
    have hL : 0 < lapOf N x := lap_pos o hx fun e => by rw [e] at hxx; cases hxx
    have hne : beatsX N (fatesR N ks R) x ≠ [] := gaps_ne.mp fun e => by
      unfold gapsI at hz
      rw [e] at hz
      cases hz
    have hs := gapsZ_sum hL hne
    have nn := gapsZ_nonneg hL (beatsX N (fatesR N ks R) x)
    have le : ∀ l : List Int, (∀ g ∈ l, 0 ≤ g) → ∀ z ∈ l, z ≤ l.sum ∧ 0 ≤ l.sum := by
      intro l
      induction l with
      | nil => intro _ z hz; cases hz
      | cons a r ih =>
        intro hn z hz
        rw [List.sum_cons]
        have ha := hn a List.mem_cons_self
        have hr : 0 ≤ r.sum := by
          cases r with
          | nil => exact Int.le_refl 0
          | cons b r => exact (ih (fun g hg => hn g (List.mem_cons_of_mem _ hg)) b List.mem_cons_self).2
        rcases List.mem_cons.mp hz with rfl | hz
        · exact ⟨by omega, by omega⟩
        · have := (ih (fun g hg => hn g (List.mem_cons_of_mem _ hg)) z hz).1
          exact ⟨by omega, by omega⟩
    have := (le _ nn z hz).1
    have := nn z hz
    have := (lap x hx).2
    exact ⟨by omega, by omega⟩
  · by_cases q : ∃ r, EverFrom N ks x r
    · refine .inr ⟨((Classical.choose q : Nat) : Int), by unfold burnZ; rw [dif_pos q], Int.natCast_nonneg _, ?_⟩
      obtain ⟨e1, e2⟩ := Classical.choose_spec q
      generalize Classical.choose q = r at e1 e2
      rcases Int.lt_or_le first (r : Int) with z | z
      · exfalso
        have hs := h.per o hk hR (t := r - 1) (L := againF N (fatesR N ks R)) (by omega) (Nat.dvd_refl _) x
        have hl := e1 (r - 1 + againF N (fatesR N ks R)) (by omega)
        refine e2 (by omega) ?_
        rw [lit_cell o hk] at hl ⊢
        unfold cellT at hs
        intro e
        rw [e] at hs
        cases q2 : (stW N ks (r - 1 + againF N (fatesR N ks R) + 1)).getD x none with
        | none => exact hl q2
        | some u => rw [q2] at hs; cases hs
      · omega
    · exact .inl (by unfold burnZ; rw [dif_neg q])
end
/-- no texts, no dicts -/
inductive Clean : PyData → Prop
  | int (i : Int) : Clean (.int i)
  | non : Clean .none
  | bl (b : Bool) : Clean (.bool b)
  | lst (ds : List PyData) (h : ∀ d ∈ ds, Clean d) : Clean (.list ds)
theorem clean_plain : Plain Clean := fun d h => by
  cases h with
  | int i => exact ⟨rfl, fun e he => by cases he⟩
  | non => exact ⟨rfl, fun e he => by cases he⟩
  | bl b => exact ⟨rfl, fun e he => by cases he⟩
  | lst ds h => exact ⟨rfl, h⟩
theorem wd_mapm {α : Type} {f : α → PyData} : ∀ xs : List α, (∀ a ∈ xs, wdB (f a) = true) → wdAll (xs.map f) = true
  | [], _ => rfl
  | x :: r, h => by
    show (wdB (f x) && wdAll (r.map f)) = true
    rw [h x List.mem_cons_self, wd_mapm r fun a ha => h a (List.mem_cons_of_mem _ ha)]
    rfl
theorem told_same {N : Net} {ks : Kds} {R : List C4} {first : Int} (ok : NetOk N) (lk : ks.length ≤ 40) :
    Clean (toldT N ks R first) ∧ (toldT N ks R first).canLay0 = true ∧ wdB (toldT N ks R first) = true ∧ (toldT N ks R first).depth ≤ 7 := by
  have h12 := ok.hi
  obtain ⟨G, hG⟩ : ∃ G, G = (turnN N).map (gapsI N (fatesR N ks R)) := ⟨_, rfl⟩
  have lG : G.length ≤ 12 := by
    rw [hG, List.length_map]
    have := List.length_filter_le (fun x => decide (wayA N x = [])) (List.range N.length)
    rw [List.length_range] at this
    exact Nat.le_trans this h12
  have lg : ∀ g ∈ G, g.length < 100000 := fun g hg => by
    rw [hG] at hg
    obtain ⟨x, _, rfl⟩ := List.mem_map.mp hg
    unfold gapsI
    rw [gapsZ_len]
    have := List.length_filterMap_le (beatE (minN (wayR N x))) (fatesR N ks R)
    rw [fatesR_len] at this
    unfold beatsX
    omega
  have g1 : ∀ g, Clean (listI g) := fun g => .lst _ fun d hd => by
    obtain ⟨i, _, rfl⟩ := List.mem_map.mp hd
    exact .int i
  have g2 : ∀ g, (listI g).canLay0 = true := fun g => all_lay (f := PyData.int) (fun _ => rfl) _
  have g3 : ∀ g ∈ G, wdB (listI g) = true := fun g hg => wd_list (by rw [List.length_map]; exact lg g hg) (wd_map (f := PyData.int) (fun _ => rfl) _)
  have g4 : ∀ g, (listI g).depth ≤ 1 := fun g => by
    have := all_depth (f := PyData.int) (n := 0) (fun _ => Nat.le_refl _) g
    show PyData.depthAll _ + 1 ≤ 1
    omega
  have b1 : ∀ x, Clean (burnZ N ks x) ∧ (burnZ N ks x).canLay0 = true ∧ wdB (burnZ N ks x) = true ∧ (burnZ N ks x).depth ≤ 0 := fun x => by
    rcases burnZ_at N ks x with e | ⟨i, e⟩
    · rw [e]; exact ⟨.non, rfl, rfl, Nat.le_refl _⟩
    · rw [e]; exact ⟨.int i, rfl, rfl, Nat.le_refl _⟩
  have c1 : ∀ x, Clean (canD N x) ∧ (canD N x).canLay0 = true ∧ wdB (canD N x) = true ∧ (canD N x).depth ≤ 0 := fun x => ⟨.bl _, rfl, rfl, Nat.le_refl _⟩
  unfold toldT toldL
  rw [← hG]
  refine ⟨.lst _ fun d hd => ?_, ?_, ?_, ?_⟩
  · simp only [List.mem_cons, List.not_mem_nil, or_false] at hd
    rcases hd with rfl | rfl | rfl | rfl | rfl
    · refine .lst _ fun d hd => ?_
      simp only [List.mem_cons, List.not_mem_nil, or_false] at hd
      rcases hd with rfl | rfl <;> exact .int _
    · exact .int _
    · refine .lst _ fun d hd => ?_
      obtain ⟨x, _, rfl⟩ := List.mem_map.mp hd
      exact g1 x
    · refine .lst _ fun d hd => ?_
      obtain ⟨x, _, rfl⟩ := List.mem_map.mp hd
      exact (b1 x).1
    · refine .lst _ fun d hd => ?_
      obtain ⟨x, _, rfl⟩ := List.mem_map.mp hd
      exact (c1 x).1
  · have e1 : (PyData.list (G.map listI)).canLay0 = true := all_lay (f := listI) g2 _
    have e2 : (PyData.list ((List.range N.length).map (burnZ N ks))).canLay0 = true := all_lay (f := burnZ N ks) (fun x => (b1 x).2.1) _
    have e3 : (PyData.list ((List.range N.length).map (canD N))).canLay0 = true := all_lay (f := canD N) (fun x => (c1 x).2.1) _
    show (true && (true && ((PyData.list (G.map listI)).canLay0 && ((PyData.list ((List.range N.length).map (burnZ N ks))).canLay0 && ((PyData.list ((List.range N.length).map (canD N))).canLay0 && true))))) = true
    rw [e1, e2, e3]
    rfl
  · have lr : (List.range N.length).length < 100000 := by rw [List.length_range]; omega
    have e1 : wdB (.list (G.map listI)) = true := wd_list (by rw [List.length_map]; omega) (wd_mapm (f := listI) _ g3)
    have e2 : wdB (.list ((List.range N.length).map (burnZ N ks))) = true := wd_list (by rw [List.length_map]; exact lr) (wd_map (f := burnZ N ks) (fun x => (b1 x).2.2.1) _)
    have e3 : wdB (.list ((List.range N.length).map (canD N))) = true := wd_list (by rw [List.length_map]; exact lr) (wd_map (f := canD N) (fun x => (c1 x).2.2.1) _)
    refine wd_list (by show 5 < 100000; decide) ?_
    show (true && (true && (wdB (.list (G.map listI)) && (wdB (.list ((List.range N.length).map (burnZ N ks))) && (wdB (.list ((List.range N.length).map (canD N))) && true))))) = true
    rw [e1, e2, e3]
    rfl
  · have e1 := all_depth (f := listI) g4 G
    have e2 := all_depth (f := burnZ N ks) (fun x => (b1 x).2.2.2) (List.range N.length)
    have e3 := all_depth (f := canD N) (fun x => (c1 x).2.2.2) (List.range N.length)
    show max 1 (max 0 (max (PyData.depthAll (G.map listI) + 1) (max (PyData.depthAll ((List.range N.length).map (burnZ N ks)) + 1) (max (PyData.depthAll ((List.range N.length).map (canD N)) + 1) 0)))) + 1 ≤ 7
    omega
section
variable {P : Program} {w : World} {K : PySem.W.Frag} {mg : Str → Option Value} {base : Heap} {a : Ad}
def spLaw (TB TB2 TB3 TB4 TB5 : Addr) : Sp := fun vs H Q _ => ∃ (l : Addr) (ns : List Int), vs = [.ref l] ∧ SqL K H l (ns.map V.int) ∧ ns.length ≤ 63 ∧ GxR.TabG H TB ∧ GxR.TabG H TB2 ∧ GxR.TabG H TB3 ∧ GxR.TabG H TB4 ∧ GxR.TabG H TB5 ∧ ∀ H', Q (.bl true) H'
theorem ok_law (T : Tx K mg a) (TB : GxR.TabB base mg a.cd_is_net a.tb_is_net) (TB2 : GxR.TabB base mg a.cd_lights_of a.tb_lights_of) (TB3 : GxR.TabB base mg a.cd_are_kindlings a.tb_are_kindlings) (TB4 : GxR.TabB base mg a.cd_rests_from a.tb_rests_from) (TB5 : GxR.TabB base mg a.cd_gaps_of_beats a.tb_gaps_of_beats) : FnG P w K mg base CX0 17 a.a_law a.f_law ["script"] (spLaw (K := K) a.tb_is_net a.tb_lights_of a.tb_are_kindlings a.tb_rests_from a.tb_gaps_of_beats) := by
  have G_law_bag := ok_law_bag (P := P) (w := w) (base := base) T
  have G_law_draw := ok_law_draw (P := P) (w := w) (base := base) T
  have G_law_some := ok_law_some (P := P) (w := w) (base := base) T
  have G_law_due := ok_law_due (P := P) (w := w) (base := base) T
  have G_law_net := ok_law_net (P := P) (w := w) (base := base) T
  have G_law_rows := ok_law_rows (P := P) (w := w) (base := base) T
  have G_law_told := ok_law_told (P := P) (w := w) (base := base) T TB TB2 TB3 TB4 TB5
  have G_law_same := ok_law_same (P := P) (w := w) (base := base) T 7
  refine okG0 T.law.F sc_law (fun vs H Q E h => ?_) (fun cdv A outer s H vs Q E hG hr h => ?_)
  · obtain ⟨l, ns, rfl, _⟩ := h
    rfl
  obtain ⟨l, ns, rfl, hl8, hn, ht_3, ht2_3, ht3_3, ht4_3, ht5_3, q⟩ := h
  refine ⟨_, (pss_cons (ps_for PassesOwn.never rfl (pi_list (pe_op op_catL (pe_slice sl_list (pv 0) po_none (po_some pe_int)) (pe_lst (pa_cons (pe_callB call_len_seq (by rfl) T.n_len (by decide +kernel) (pa_cons (pv 0) pa_nil)) pa_nil)))) (pg_name (i := 1) sc_law.nd rfl (by first | exact .inl rfl | exact .inr rfl)) (pss_cons (ps_set (i := 2) sc_law.nd rfl (by first | exact .inl rfl | exact .inr rfl) (pe_call G_law_bag (hr.mono (by decide)) (by rfl) T.law_bag.g T.law_bag.F.kp T.law_bag.b .nil pass0 (pa_cons (pv 1) pa_nil)))
      (pss_cons (ps_set (i := 3) sc_law.nd rfl (by first | exact .inl rfl | exact .inr rfl) (pe_call G_law_net (hr.mono (by decide)) (by rfl) T.law_net.g T.law_net.F.kp T.law_net.b .nil pass0 (pa_cons (pv 2) (pa_cons pe_int (pa_cons (pe_lst (pa_cons pe_int (pa_cons pe_int (pa_cons pe_int (pa_cons pe_int (pa_cons pe_int (pa_cons pe_int pa_nil))))))) pa_nil)))))
      (pss_cons (ps_set (i := 4) sc_law.nd rfl (by first | exact .inl rfl | exact .inr rfl) (pe_call G_law_rows (hr.mono (by decide)) (by rfl) T.law_rows.g T.law_rows.F.kp T.law_rows.b .nil pass0 (pa_cons (pv 2) (pa_cons (pv 3) (pa_cons pe_int (pa_cons pe_int pa_nil))))))
      (pss_cons (ps_set (i := 5) sc_law.nd rfl (by first | exact .inl rfl | exact .inr rfl) (pe_call G_law_told (hr.mono (by decide)) (by rfl) T.law_told.g T.law_told.F.kp T.law_told.b .nil pass0 (pa_cons (pv 3) (pa_cons (pv 4) pa_nil))))
      (pss_cons (ps_set (i := 6) sc_law.nd rfl (by first | exact .inl rfl | exact .inr rfl) (pe_op op_add pe_int (pe_call G_law_some (hr.mono (by decide)) (by rfl) T.law_some.g T.law_some.F.kp T.law_some.b .nil pass0 (pa_cons (pv 2) (pa_cons (pe_lst (pa_cons (pe_call G_law_draw (hr.mono (by decide)) (by rfl) T.law_draw.g T.law_draw.F.kp T.law_draw.b .nil pass0 (pa_cons (pv 2) (pa_cons pe_int pa_nil))) (pa_cons (pe_call G_law_draw (hr.mono (by decide)) (by rfl) T.law_draw.g T.law_draw.F.kp T.law_draw.b .nil pass0 (pa_cons (pv 2) (pa_cons (pe_op op_powW pe_int pe_int) pa_nil))) pa_nil))) pa_nil)))))
      (pss_cons (ps_set (i := 7) sc_law.nd rfl (by first | exact .inl rfl | exact .inr rfl) (pe_callTy call_tuple_of (by rfl) T.n_tuple (by decide +kernel) (pa_cons (pe_lc (own := [("length", 8), ("following", 9)]) (g := gTup K 2 (gCons (gName 8) (gCons (gName 9) (gNil)))) (by rfl) sc_law.nd (pi_tup (pv 3)) (blkOk_by (own := [("length", 8), ("following", 9)]) (N := s_law_N) (sc := defScope s_law) (by decide +kernel)) (fun _ _ _ _ _ => (pg_tupK (K := K) rfl (by rfl) (pgs_cons (pg_name (i := 8) sc_law.nd rfl (by first | exact .inl rfl | exact .inr rfl)) (pgs_cons (pg_name (i := 9) sc_law.nd rfl (by first | exact .inl rfl | exact .inr rfl)) pgs_nil)))) (fun _ _ _ _ _ => pts_nil) (fun _ _ _ _ _ => (pe_tup (pa_cons (pe_op op_mulW (pv 8) (pv 6)) (pa_cons (pv 9) pa_nil))))) pa_nil)))
      (pss_cons (ps_setLc (i := 10) (own := [("now", 11), ("spot", 12)]) (g := gTup K 2 (gCons (gName 11) (gCons (gName 12) (gNil)))) (by rfl) sc_law.nd rfl rfl (sw_true rfl rfl rfl (by decide +kernel)) (pi_list (pv 4)) (blkOk_by (own := [("now", 11), ("spot", 12)]) (N := s_law_N) (sc := defScope s_law) (by decide +kernel)) (fun _ _ _ _ _ => (pg_tupK (K := K) rfl (by rfl) (pgs_cons (pg_name (i := 11) sc_law.nd rfl (by first | exact .inl rfl | exact .inr rfl)) (pgs_cons (pg_name (i := 12) sc_law.nd rfl (by first | exact .inl rfl | exact .inr rfl)) pgs_nil)))) (fun _ _ _ _ _ => pts_nil) (fun _ _ _ _ _ => (pe_tup (pa_cons (pe_op op_mulW (pv 11) (pv 6)) (pa_cons (pv 12) pa_nil)))))
      (pss_cons (ps_if (pt_not (pt_val (pe_call G_law_same (hr.mono (by decide)) (by rfl) T.law_same.g T.law_same.F.kp T.law_same.b .nil pass0 (pa_cons (pe_call G_law_told (hr.mono (by decide)) (by rfl) T.law_told.g T.law_told.F.kp T.law_told.b .nil pass0 (pa_cons (pv 7) (pa_cons (pv 10) pa_nil))) (pa_cons (pe_call G_law_due (hr.mono (by decide)) (by rfl) T.law_due.g T.law_due.F.kp T.law_due.b .nil pass0 (pa_cons (pv 5) (pa_cons (pv 6) (pa_cons pe_int (pa_cons pe_bl pa_nil))))) pa_nil))))) (pss_one (ps_ret pe_bl)) pss_nil)
      (pss_cons (ps_set (i := 13) sc_law.nd rfl (by first | exact .inl rfl | exact .inr rfl) (pe_call G_law_some (hr.mono (by decide)) (by rfl) T.law_some.g T.law_some.F.kp T.law_some.b .nil pass0 (pa_cons (pv 2) (pa_cons (pe_lst (pa_cons (pe_call G_law_draw (hr.mono (by decide)) (by rfl) T.law_draw.g T.law_draw.F.kp T.law_draw.b .nil pass0 (pa_cons (pv 2) (pa_cons pe_int pa_nil))) (pa_cons (pe_call G_law_draw (hr.mono (by decide)) (by rfl) T.law_draw.g T.law_draw.F.kp T.law_draw.b .nil pass0 (pa_cons (pv 2) (pa_cons (pe_op op_powW pe_int pe_int) pa_nil))) pa_nil))) pa_nil))))
      (pss_cons (ps_setLc (i := 10) (own := [("now", 11), ("spot", 12)]) (g := gTup K 2 (gCons (gName 11) (gCons (gName 12) (gNil)))) (by rfl) sc_law.nd rfl rfl (sw_true rfl rfl rfl (by decide +kernel)) (pi_list (pv 4)) (blkOk_by (own := [("now", 11), ("spot", 12)]) (N := s_law_N) (sc := defScope s_law) (by decide +kernel)) (fun _ _ _ _ _ => (pg_tupK (K := K) rfl (by rfl) (pgs_cons (pg_name (i := 11) sc_law.nd rfl (by first | exact .inl rfl | exact .inr rfl)) (pgs_cons (pg_name (i := 12) sc_law.nd rfl (by first | exact .inl rfl | exact .inr rfl)) pgs_nil)))) (fun _ _ _ _ _ => pts_nil) (fun _ _ _ _ _ => (pe_tup (pa_cons (pe_op op_add (pv 11) (pv 13)) (pa_cons (pv 12) pa_nil)))))
      (pss_one (ps_if (pt_not (pt_val (pe_call G_law_same (hr.mono (by decide)) (by rfl) T.law_same.g T.law_same.F.kp T.law_same.b .nil pass0 (pa_cons (pe_call G_law_told (hr.mono (by decide)) (by rfl) T.law_told.g T.law_told.F.kp T.law_told.b .nil pass0 (pa_cons (pv 3) (pa_cons (pv 10) pa_nil))) (pa_cons (pe_call G_law_due (hr.mono (by decide)) (by rfl) T.law_due.g T.law_due.F.kp T.law_due.b .nil pass0 (pa_cons (pv 5) (pa_cons pe_int (pa_cons (pv 13) (pa_cons (pe_cmpR (op_neD hr.units) (pv 4) (pe_lst pa_nil) (nomark _)) pa_nil))))) pa_nil))))) (pss_one (ps_ret pe_bl)) pss_nil)))))))))))))
      (pss_one (ps_ret pe_bl))), ?_⟩
  have lns : (ns.map V.int).length = ns.length := List.length_map _
  refine ⟨.ref l, rfl, 3, rfl, l, _, rfl, hl8, fun uq nuq => ?_⟩
  obtain ⟨cs, hcs, hcl⟩ : ∃ cs : List Int, cutV (ns.map V.int) none (some 3) = cs.map V.int ∧ cs.length ≤ 63 := by
    unfold cutV
    rw [← List.map_drop, ← List.map_take]
    refine ⟨_, rfl, ?_⟩
    rw [List.length_take, List.length_drop]
    show min _ (ns.length - _) ≤ 63
    omega
  rw [hcs]
  obtain ⟨H1, e1⟩ : ∃ H1, H1 = upd H uq (.lst (cs.map V.int)) := ⟨_, rfl⟩
  rw [← e1]
  have k1 : Kp [] H H1 := e1 ▸ Kp.new nuq
  have hu1 : H1 uq = some (.lst (cs.map V.int)) := by rw [e1]; exact upd_same
  refine ⟨.ref l, rfl, l, _, rfl, .inl (k1.seq (by simp) hl8), by show 1 ≤ sizeLine; decide, fun zq nzq => ?_⟩
  obtain ⟨H2, e2⟩ : ∃ H2, H2 = upd H1 zq (.lst [.int ((ns.map V.int).length : Nat)]) := ⟨_, rfl⟩
  rw [← e2]
  have k2 : Kp [] H1 H2 := e2 ▸ Kp.new nzq
  have hz2 : H2 zq = some (.lst ([(ns.length : Int)].map V.int)) := by rw [e2, lns]; exact upd_same
  refine ⟨uq, zq, _, _, rfl, rfl, SqL.of (k2.lst (by simp) hu1), SqL.of hz2, Nat.le_trans (m := 64) (by rw [List.length_map, List.length_map]; show cs.length + 1 ≤ 64; omega) (by decide), fun yq ny => ?_⟩
  rw [← List.map_append]
  obtain ⟨ds, eds⟩ : ∃ ds, ds = cs ++ [(ns.length : Int)] := ⟨_, rfl⟩
  rw [← eds]
  obtain ⟨H3, e3⟩ : ∃ H3, H3 = upd H2 yq (.lst (ds.map V.int)) := ⟨_, rfl⟩
  rw [← e3]
  have k3 : Kp [] H2 H3 := e3 ▸ Kp.new ny
  have hy3 : H3 yq = some (.lst (ds.map V.int)) := by rw [e3]; exact upd_same
  have k03 := k1.tr (k2.tr k3)
  have z_3 := k03.tab _ ht_3
  have z2_3 := k03.tab _ ht2_3
  have z3_3 := k03.tab _ ht3_3
  have z4_3 := k03.tab _ ht4_3
  have z5_3 := k03.tab _ ht5_3
  refine ⟨yq, rfl, ⟨_, SqL.of hy3⟩, for_list (xs := ds.map V.int) (fun j σ H' => ∃ (o : List (Option V)), o.length = 13 ∧ σ = some (.ref l) :: o ∧ Kp [] H3 H') ⟨List.replicate 13 none, rfl, rfl, .rfl'⟩ (fun j σ H' _ hP => ?_) (fun j z σ H4 hz hP => ?_) (fun σ H' hP => ?_)⟩
  · obtain ⟨_, _, rfl, k4⟩ := hP
    exact SqL.of (k4.lst (by simp) hy3)
  · obtain ⟨o, ho, rfl, k4⟩ := hP
    obtain ⟨o1, o2, o3, o4, o5, o6, o7, o8, o9, o10, o11, o12, o13, rfl⟩ : ∃ o1 o2 o3 o4 o5 o6 o7 o8 o9 o10 o11 o12 o13, o = [o1, o2, o3, o4, o5, o6, o7, o8, o9, o10, o11, o12, o13] := by
      match o, ho with
      | [o1, o2, o3, o4, o5, o6, o7, o8, o9, o10, o11, o12, o13], _ => exact ⟨_, _, _, _, _, _, _, _, _, _, _, _, _, rfl⟩
    rw [List.getElem?_map] at hz
    obtain ⟨cell, rfl⟩ : ∃ cell : Int, z = .int cell := by
      cases q1 : ds[j]? with
      | none => rw [q1] at hz; cases hz
      | some y => rw [q1] at hz; exact ⟨y, (Option.some.inj hz).symm⟩
    refine ⟨.int cell, rfl, cell, rfl, fun p np H5 k5 j5 => ?_⟩
    have c960 : (9 : Int) < 10 ^ 60 := by decide
    have b40 : ((10 : Int) ^ (40 : Int).toNat) = 10 ^ 40 := by decide
    have b50 : ((10 : Int) ^ (50 : Int).toNat) = 10 ^ 50 := by decide
    have c40 : (0 : Int) < 10 ^ 40 := by decide
    have c50 : (0 : Int) < 10 ^ 50 := by decide
    have d40 : (10 : Int) ^ 40 < 2 ^ 8000 := by decide
    have d50 : (10 : Int) ^ 50 < 2 ^ 8000 := by decide
    have e40 : (10 : Int) ^ 40 + 1 < 2 ^ 250 := by decide
    have e50 : (10 : Int) ^ 50 < 2 ^ 250 := by decide
    have e459 : (10 : Int) ^ 40 = 10 ^ 40 := rfl
    -- lamps
    refine ⟨.ref p, rfl, by show 6 ≤ sizeLine; decide, fun ll nll => ?_⟩
    generalize e6 : upd H5 ll _ = H6
    have k6 : Kp [] H5 H6 := by rw [← e6]; exact Kp.new nll
    have hll : H6 ll = some (.lst (([1, 2, 3, 4, 5, 9] : List Int).map V.int)) := by rw [← e6]; exact upd_same
    have j6 := j5.kp k6 (by simp)
    have nlp : ll ≠ p := fun e => j5.tr (e ▸ nll)
    have h19 : ∀ i ∈ ([1, 2, 3, 4, 5, 9] : List Int), 1 ≤ i ∧ i ≤ 9 := fun i hi => by
      simp only [List.mem_cons, List.not_mem_nil, or_false] at hi
      omega
    refine ⟨p, ll, 8, _, [1, 2, 3, 4, 5, 9], rfl, j6, by decide, by decide, by decide, hll, nlp, by decide, by decide, fun i hi => ⟨(h19 i hi).1, by have := (h19 i hi).2; omega⟩, fun v H7 N ok sh lN mem hd k7 j7 => ?_⟩
    -- rows
    refine ⟨.ref p, rfl, v, rfl, p, _, v, N, 8, 50, rfl, j7, by decide, hd, ok, sh, by decide, by decide, by decide, fun kl H8 ks nkl hkl hro lks k8 j8 => ?_⟩
    have hk := hro.1
    have hd8 := hd.kt (k8.kt j7.nt)
    have k58 : Kp [p] H5 H8 := k6.of0.tr (k7.tr k8)
    have k48 : Kp [] H4 H8 := Kp.drop np (k5.of0.tr k58)
    have k38 := k4.tr k48
    have tabs : ∀ H', Kp [p] H8 H' → GxR.TabG H' a.tb_is_net ∧ GxR.TabG H' a.tb_lights_of ∧ GxR.TabG H' a.tb_are_kindlings ∧ GxR.TabG H' a.tb_rests_from ∧ GxR.TabG H' a.tb_gaps_of_beats := fun H' k => ⟨k.tab _ (k38.tab _ z_3), k.tab _ (k38.tab _ z2_3), k.tab _ (k38.tab _ z3_3), k.tab _ (k38.tab _ z4_3), k.tab _ (k38.tab _ z5_3)⟩
    obtain ⟨R, hR⟩ := losses_ex ok hk
    obtain ⟨ad, xn, rfl, hxn, hxt, hln⟩ := net_tup hd8
    obtain ⟨n0, hn0, j8'⟩ : ∃ n0, n0 < 90000 ∧ Sack H8 p n0 := ⟨_, by decide, j8⟩
    clear j8
    have h12 := ok.hi
    have sz : ∀ n : Nat, n ≤ 41 → n < sizeLine := fun n h => Nat.lt_of_le_of_lt h (by decide)
    have nklp : kl ≠ p := fun e => j7.tr (e ▸ nkl)
    -- told
    obtain ⟨x1, x2, x3, x4, x5⟩ := tabs H8 .rfl'
    refine ⟨.ref ad, rfl, .ref kl, rfl, .ref ad, N, kl, ks, rfl, hd8, ok, hkl, hk, lks, sh, x1, x2, x3, x4, x5, fun lt H9 R1 first nlt hR1 hf1 dts k9 => ?_⟩
    obtain rfl := losses_one hR hR1
    have np8 : ∀ s ∈ [p], H8 s ≠ none := fun s hs => by rw [List.mem_singleton.mp hs]; exact j8'.tr
    have dt9 := dts [p] np8
    have j9 := j8'.kp k9 (by simp)
    have nltp : lt ≠ p := fun e => j8'.tr (e ▸ nlt)
    -- times
    refine ⟨.ref p, rfl, .ref p, rfl, p, 9, _, rfl, by decide, by decide, j9, by omega, fun r1 H10 a10 b10 k10 j10 => ?_⟩
    refine ⟨.ref p, rfl, _, _, rfl, rfl, ⟨by decide, by decide⟩, p, _, _, rfl, by rw [b40]; exact c40, by rw [b40]; exact d40, j10, by omega, fun r2 H11 a11 b11 k11 j11 => ?_⟩
    rw [b40] at b11
    refine ⟨by show 2 ≤ sizeLine; decide, fun ql nql => ?_⟩
    generalize e12 : upd H11 ql _ = H12
    have k12 : Kp [] H11 H12 := by rw [← e12]; exact Kp.new nql
    have hql : H12 ql = some (.lst (([r1, r2] : List Int).map V.int)) := by rw [← e12]; exact upd_same
    have j12 := j11.kp k12 (by simp)
    have nqp : ql ≠ p := fun e => j11.tr (e ▸ nql)
    refine ⟨p, ql, _, _, rfl, j12, by omega, hql, nqp, by show 0 < 2; decide, by show 2 ≤ 1000; decide, fun i1 v1 H13 hv1 k13 j13 => ?_⟩
    obtain ⟨s1, rfl, s10, s11⟩ : ∃ s : Int, v1 = .int s ∧ 0 ≤ s ∧ s < 10 ^ 40 := by
      have h9 : (9 : Int) < 10 ^ 40 := by decide
      have := List.mem_of_getElem? hv1
      simp only [List.map_cons, List.map_nil, List.mem_cons, List.not_mem_nil, or_false] at this
      rcases this with rfl | rfl
      · exact ⟨_, rfl, a10, by omega⟩
      · exact ⟨_, rfl, a11, b11⟩
    refine ⟨_, _, rfl, rfl, ?_⟩
    obtain ⟨c, hc⟩ : ∃ c : Nat, (1 + s1 : Int) = (c : Nat) := ⟨(1 + s1).toNat, by omega⟩
    have hc1 : 1 ≤ c := by omega
    rw [show (fun i j : Int => V.int (i + j)) 1 s1 = V.int (c : Nat) from congrArg V.int hc]
    have smc : Sm (c : Nat) := ⟨by omega, by omega⟩
    have k913 : Kp [p] H9 H13 := k10.tr (k11.tr (k12.of0.tr k13))
    have k813 : Kp [p] H8 H13 := k9.of0.tr k913
    have t813 := k813.kt j8'.nt
    have hxn13 := t813 _ _ hxn
    have hxt13 := hxt.kt t813
    have hkl13 := hkl.kp k813 t813 (by simpa using nklp)
    obtain ⟨us, hus, hust⟩ := hkl13
    have okc := tmN_ok (N := N) (c := c) ok hc1
    -- great
    refine ⟨.ref ad, rfl, ad, rfl, ⟨_, SqT.of hxn13⟩, fun D nD => lc_tup (xs := xn) (fun i H' => ∃ ws, H' D = some (.lst ws) ∧ TuA H' ws (((tmN N c).take i).map lampD) ∧ Kp [] H13 H') ⟨[], upd_same, .nil, Kp.new nD⟩ (fun i H' _ hP => ?_) (fun i y H' hy hP => ?_) (fun H14 hP => ?_)⟩
    · obtain ⟨_, _, _, k⟩ := hP
      exact SqT.of (k.kt0 _ _ hxn13)
    · obtain ⟨ws, hD, hws, k⟩ := hP
      obtain ⟨dd, hdd, hyd⟩ := hxt13.get hy
      rw [List.getElem?_map] at hdd
      obtain ⟨z, hz, rfl⟩ : ∃ z, N[i]? = some z ∧ dd = lampD z := by
        cases q1 : N[i]? with
        | none => rw [q1] at hdd; cases hdd
        | some u => rw [q1] at hdd; exact ⟨u, rfl, (Option.some.inj hdd).symm⟩
      obtain ⟨la, rfl, hla⟩ := lamp_tup (hyd.kt k.kt0)
      have hz19 := h19 _ (mem z (List.mem_of_getElem? hz))
      have smz : Sm z.1 := ⟨by omega, by
        have : (9 : Int) < 2 ^ 250 := by decide
        omega⟩
      refine ⟨la, _, rfl, SqT.of hla, rfl, _, _, rfl, _, _, rfl, rfl, rfl, .int z.1, rfl, .int (c : Nat), rfl, _, _, rfl, rfl, smz.mul smc, nxV z.2, rfl, by show 2 ≤ sizeLine; decide, fun tn ntn => ?_⟩
      generalize e15 : upd H' tn _ = H15
      have k15 : Kp [] H' H15 := by rw [← e15]; exact Kp.new ntn
      have hn15 : H15 tn = some (.tup [.int (z.1 * (c : Nat)), nxV z.2]) := by rw [← e15]; exact upd_same
      have hD15 := k15.lst (by simp) hD
      have tG : Kt H15 (upd H15 D (.lst (ws ++ [.ref tn]))) := Kt.put hD15 fun _ z => by cases z
      refine ⟨ws, hD15, ?_, ws ++ [.ref tn], upd_same, ?_, Kp.drop nD ((k.tr k15).of0.tr (Kp.put (by simp) hD15 fun _ z => by cases z))⟩
      · rw [hws.len, List.length_map, List.length_take, tmN_len]
        exact sz _ (by omega)
      · rw [List.take_add_one, show (tmN N c)[i]? = some (z.1 * (c : Nat), z.2) by unfold tmN; rw [List.getElem?_map, hz]; rfl, List.map_append]
        refine ((hws.kt k15.kt0).kt tG).app (.cons (.tup (tG _ _ hn15) (.cons (.int _) (.cons ?_ .nil))) .nil)
        cases z.2 with
        | none => exact .non
        | some u => exact .int _
    obtain ⟨gw, hD, hgw, k14⟩ := hP
    have hgw : TuA H14 gw ((tmN N c).map lampD) := by
      have lx : xn.length = (tmN N c).length := by rw [tmN_len, hln]
      rw [lx, List.take_length] at hgw
      exact hgw
    refine ⟨D, gw, rfl, .inl ⟨SqL.of hD, fun tg ntg => ?_⟩⟩
    generalize e15 : upd H14 tg _ = H15
    have k15 : Kp [] H14 H15 := by rw [← e15]; exact Kp.new ntg
    have htg : H15 tg = some (.tup gw) := by rw [← e15]; exact upd_same
    have k1315 := k14.tr k15
    have dtg : Tu H15 (.ref tg) (netD (tmN N c)) := .tup htg (hgw.kt k15.kt0)
    have h9N : ∀ z ∈ N, z.1 ≤ 9 := fun z hz => (h19 _ (mem z hz)).2
    have tot := tot_small lN h9N
    have hM : ∀ z ∈ ks, z.1 ≤ 122 := fun z hz => by
      have := hro.2 z hz
      omega
    have b9 : (1000 : Int) < 2 ^ 250 := by decide
    have smk : ∀ z ∈ ks, Sm ((z.1 : Nat) : Int) := fun z hz => ⟨Int.natCast_nonneg _, by have := hM z hz; omega⟩
    obtain ⟨sf, sa, sr, sg, sb⟩ := told_small ok hk hR hf1 lN h9N hM lks
    have hus15 := k1315.lst (by simp) hus
    have hust15 := hust.kt k1315.kt0
    have lus : us.length = ks.length := by rw [hust.len, List.length_map]
    -- far
    refine ⟨.ref kl, rfl, kl, rfl, ⟨_, SqL.of hus15⟩, fun D2 nD2 => lc_list (xs := us) (fun i H' => ∃ ws, H' D2 = some (.lst ws) ∧ TuA H' ws (((tmK ks c).take i).map kdD) ∧ Kp [] H15 H') ⟨[], upd_same, .nil, Kp.new nD2⟩ (fun i H' _ hP => ?_) (fun i y H' hy hP => ?_) (fun H16 hP => ?_)⟩
    · obtain ⟨_, _, _, k⟩ := hP
      exact SqL.of (k.lst (by simp) hus15)
    · obtain ⟨ws, hD, hws, k⟩ := hP
      obtain ⟨dd, hdd, hyd⟩ := hust15.get hy
      rw [List.getElem?_map] at hdd
      obtain ⟨z, hz, rfl⟩ : ∃ z, ks[i]? = some z ∧ dd = kdD z := by
        cases q1 : ks[i]? with
        | none => rw [q1] at hdd; cases hdd
        | some u => rw [q1] at hdd; exact ⟨u, rfl, (Option.some.inj hdd).symm⟩
      obtain ⟨la, rfl, hla⟩ := kd_tup (hyd.kt k.kt0)
      refine ⟨la, _, rfl, SqT.of hla, rfl, _, _, rfl, _, _, rfl, rfl, rfl, .int (z.1 : Nat), rfl, .int (c : Nat), rfl, _, _, rfl, rfl, (smk z (List.mem_of_getElem? hz)).mul smc, .int (z.2 : Nat), rfl, by show 2 ≤ sizeLine; decide, fun tn ntn => ?_⟩
      generalize e17 : upd H' tn _ = H17
      have k17 : Kp [] H' H17 := by rw [← e17]; exact Kp.new ntn
      have hn17 : H17 tn = some (.tup [.int ((z.1 * c : Nat) : Int), .int (z.2 : Nat)]) := by rw [← e17, Int.natCast_mul]; exact upd_same
      have hD17 := k17.lst (by simp) hD
      have tG : Kt H17 (upd H17 D2 (.lst (ws ++ [.ref tn]))) := Kt.put hD17 fun _ z => by cases z
      refine ⟨ws, hD17, ?_, ws ++ [.ref tn], upd_same, ?_, Kp.drop nD2 ((k.tr k17).of0.tr (Kp.put (by simp) hD17 fun _ z => by cases z))⟩
      · rw [hws.len, List.length_map]
        unfold tmK
        rw [List.length_take, List.length_map]
        exact sz _ (by omega)
      · rw [List.take_add_one, show (tmK ks c)[i]? = some (z.1 * c, z.2) by unfold tmK; rw [List.getElem?_map, hz]; rfl, List.map_append]
        exact ((hws.kt k17.kt0).kt tG).app (.cons (.tup (tG _ _ hn17) (.cons (.int _) (.cons (.int _) .nil))) .nil)
    obtain ⟨fw, hD2, hfw, k16⟩ := hP
    have ltm : (tmK ks c).length = ks.length := by unfold tmK; rw [List.length_map]
    rw [lus, ← ltm, List.take_length] at hfw
    have k1316 := k1315.tr k16
    have k816 : Kp [p] H8 H16 := k813.tr k1316.of0
    -- the same so many times as great
    obtain ⟨x1, x2, x3, x4, x5⟩ := tabs H16 k816
    have shc : Short (tmN N c) := fun z hz => by
      obtain ⟨y, hy, rfl⟩ := List.mem_map.mp hz
      have h1 := h19 _ (mem y hy)
      have h2 : y.1 * (c : Int) ≤ 9 * (c : Int) := Int.mul_le_mul_of_nonneg_right h1.2 (by omega)
      have h3 : (9 : Int) * (10 ^ 40 + 1) < 10 ^ 60 := by decide
      show y.1 * (c : Int) < 10 ^ 60
      omega
    refine ⟨.ref tg, rfl, .ref D2, rfl, .ref tg, tmN N c, D2, tmK ks c, rfl, dtg.kt k16.kt0, okc, ⟨_, hD2, hfw⟩, tmK_ok hk, by rw [ltm]; exact lks, shc, x1, x2, x3, x4, x5, fun l2 H17 R2 first2 nl2 hR2 hf2 dt2 k17 => ?_⟩
    have k1317 := k1316.tr k17
    have k917 : Kp [p] H9 H17 := k913.tr k1317.of0
    have dt17 : Dx [] H17 (.ref lt) (toldT N ks R first) := (dt9.kp k917 fun _ z => z).wk fun _ z => by cases z
    have gG : ((turnN N).map (gapsI N (fatesR N ks R))).length ≤ 12 := by
      rw [List.length_map]
      have := List.length_filter_le (fun x => decide (wayA N x = [])) (List.range N.length)
      rw [List.length_range] at this
      exact Nat.le_trans this h12
    have gS : ∀ g ∈ (turnN N).map (gapsI N (fatesR N ks R)), g.length ≤ 41 ∧ ∀ z ∈ g, Sm z := fun g hg => by
      obtain ⟨x, hx, rfl⟩ := List.mem_map.mp hg
      obtain ⟨h1, h2⟩ := List.mem_filter.mp hx
      exact sg x (List.mem_range.mp h1) (of_decide_eq_true h2)
    have bL : ((List.range N.length).map (burnZ N ks)).length ≤ 12 := by rw [List.length_map, List.length_range]; exact h12
    have bS : ∀ b ∈ (List.range N.length).map (burnZ N ks), b = .none ∨ ∃ i, b = .int i ∧ Sm i := fun b hb => by
      obtain ⟨x, _, rfl⟩ := List.mem_map.mp hb
      exact sb x
    have sm0 : Sm 0 := ⟨by decide, by decide⟩
    have sm1 : Sm 1 := ⟨by decide, by decide⟩
    refine ⟨.ref lt, rfl, .int (c : Nat), rfl, lt, (c : Nat), 0, false, first, (againF N (fatesR N ks R) : Nat), (roundN N (fatesR N ks R) : Nat), (turnN N).map (gapsI N (fatesR N ks R)), (List.range N.length).map (burnZ N ks), (List.range N.length).map (canD N), rfl, dt17, smc, sm0, sf, sa, sr, gG, gS, bL, bS, fun ld H18 dd18 k18 => ?_⟩
    have eK : shK 0 (tmK ks c) = tmK ks c := by
      unfold shK
      conv => rhs; rw [← List.map_id (tmK ks c)]
      exact List.map_congr_left fun z _ => rfl
    have et : toldT (tmN N c) (tmK ks c) R2 first2 = dueT N ks R first c 0 (if false = true then 1 else 0) := by
      have := scl_told (d := 0) (R' := R2) (first' := first2) ok hk hc1 hR (by rw [eK]; exact hR2) hf1 (by rw [eK]; exact hf2) (al := if false = true then 1 else 0) (fun _ => rfl) (fun _ => rfl)
      rw [eK] at this
      exact this
    obtain ⟨s1, s2, s3, s4⟩ := told_same (R := R2) (first := first2) (ks := tmK ks c) okc (by rw [ltm]; exact lks)
    have dt2' : Dx [] H18 (.ref l2) (toldT (tmN N c) (tmK ks c) R2 first2) := (dt2 [] fun _ z => by cases z).kp k18 fun _ z => z
    have dd' : Dx [] H18 (.ref ld) (toldT (tmN N c) (tmK ks c) R2 first2) := by rw [et]; exact dd18
    refine ⟨.ref l2, .ref ld, _, Clean, rfl, clean_plain, s1, dt2', dd', s2, s3, s4, fun H19 k19 => ⟨true, rfl, iteF ?_⟩⟩
    have k1319 := k1317.tr (k18.tr k19)
    have j19 : Sack H19 p _ := j13.kp k1319 (by simp)
    -- late
    refine ⟨.ref p, rfl, .ref p, rfl, p, 30, _, rfl, by decide, by decide, j19, by omega, fun r3 H20 a20 b20 k20 j20 => ?_⟩
    refine ⟨.ref p, rfl, _, _, rfl, rfl, ⟨by decide, by decide⟩, p, _, _, rfl, by rw [b50]; exact c50, by rw [b50]; exact d50, j20, by omega, fun r4 H21 a21 b21 k21 j21 => ?_⟩
    rw [b50] at b21
    refine ⟨by show 2 ≤ sizeLine; decide, fun qm nqm => ?_⟩
    generalize e22 : upd H21 qm _ = H22
    have k22 : Kp [] H21 H22 := by rw [← e22]; exact Kp.new nqm
    have hqm : H22 qm = some (.lst (([r3, r4] : List Int).map V.int)) := by rw [← e22]; exact upd_same
    have j22 := j21.kp k22 (by simp)
    have nqmp : qm ≠ p := fun e => j21.tr (e ▸ nqm)
    refine ⟨p, qm, _, _, rfl, j22, by omega, hqm, nqmp, by show 0 < 2; decide, by show 2 ≤ 1000; decide, fun i2 v2 H23 hv2 k23 j23 => ?_⟩
    obtain ⟨s2', rfl, s20, s21⟩ : ∃ s : Int, v2 = .int s ∧ 0 ≤ s ∧ s < 10 ^ 50 := by
      have h9 : (30 : Int) < 10 ^ 50 := by decide
      have := List.mem_of_getElem? hv2
      simp only [List.map_cons, List.map_nil, List.mem_cons, List.not_mem_nil, or_false] at this
      rcases this with rfl | rfl
      · exact ⟨_, rfl, a20, by omega⟩
      · exact ⟨_, rfl, a21, b21⟩
    obtain ⟨d, rfl⟩ := Int.eq_ofNat_of_zero_le s20
    have smd : Sm (d : Nat) := ⟨s20, by omega⟩
    have k1323 : Kp [p] H13 H23 := k1319.of0.tr (k20.tr (k21.tr (k22.of0.tr k23)))
    have k823 : Kp [p] H8 H23 := k813.tr k1323
    have k923 : Kp [p] H9 H23 := k913.tr k1323
    have t823 := k823.kt j8'.nt
    have t1323 := k1323.kt j13.nt
    have hus23 := k1323.lst (by simpa using nklp) hus
    have hust23 := hust.kt t1323
    -- far
    refine ⟨.ref kl, rfl, kl, rfl, ⟨_, SqL.of hus23⟩, fun D3 nD3 => lc_list (xs := us) (fun i H' => ∃ ws, H' D3 = some (.lst ws) ∧ TuA H' ws (((shK d ks).take i).map kdD) ∧ Kp [] H23 H') ⟨[], upd_same, .nil, Kp.new nD3⟩ (fun i H' _ hP => ?_) (fun i y H' hy hP => ?_) (fun H24 hP => ?_)⟩
    · obtain ⟨_, _, _, k⟩ := hP
      exact SqL.of (k.lst (by simp) hus23)
    · obtain ⟨ws, hD, hws, k⟩ := hP
      obtain ⟨dd, hdd, hyd⟩ := hust23.get hy
      rw [List.getElem?_map] at hdd
      obtain ⟨z, hz, rfl⟩ : ∃ z, ks[i]? = some z ∧ dd = kdD z := by
        cases q1 : ks[i]? with
        | none => rw [q1] at hdd; cases hdd
        | some u => rw [q1] at hdd; exact ⟨u, rfl, (Option.some.inj hdd).symm⟩
      obtain ⟨la, rfl, hla⟩ := kd_tup (hyd.kt k.kt0)
      refine ⟨la, _, rfl, SqT.of hla, rfl, _, _, rfl, _, _, rfl, rfl, rfl, .int (z.1 : Nat), rfl, .int (d : Nat), rfl, _, _, rfl, rfl, .int (z.2 : Nat), rfl, by show 2 ≤ sizeLine; decide, fun tn ntn => ?_⟩
      generalize e17 : upd H' tn _ = H17
      have k17 : Kp [] H' H17 := by rw [← e17]; exact Kp.new ntn
      have hn17 : H17 tn = some (.tup [.int ((z.1 + d : Nat) : Int), .int (z.2 : Nat)]) := by rw [← e17, Int.natCast_add]; exact upd_same
      have hD17 := k17.lst (by simp) hD
      have tG : Kt H17 (upd H17 D3 (.lst (ws ++ [.ref tn]))) := Kt.put hD17 fun _ z => by cases z
      refine ⟨ws, hD17, ?_, ws ++ [.ref tn], upd_same, ?_, Kp.drop nD3 ((k.tr k17).of0.tr (Kp.put (by simp) hD17 fun _ z => by cases z))⟩
      · rw [hws.len, List.length_map]
        unfold shK
        rw [List.length_take, List.length_map]
        exact sz _ (by omega)
      · rw [List.take_add_one, show (shK d ks)[i]? = some (z.1 + d, z.2) by unfold shK; rw [List.getElem?_map, hz]; rfl, List.map_append]
        exact ((hws.kt k17.kt0).kt tG).app (.cons (.tup (tG _ _ hn17) (.cons (.int _) (.cons (.int _) .nil))) .nil)
    obtain ⟨fw3, hD3, hfw3, k24⟩ := hP
    have lsh : (shK d ks).length = ks.length := by unfold shK; rw [List.length_map]
    rw [lus, ← lsh, List.take_length] at hfw3
    have k824 : Kp [p] H8 H24 := k823.tr k24.of0
    have t824 := k824.kt j8'.nt
    obtain ⟨x1, x2, x3, x4, x5⟩ := tabs H24 k824
    have eN : tmN N 1 = N := by
      unfold tmN
      conv => rhs; rw [← List.map_id N]
      exact List.map_congr_left fun z _ => Prod.ext (Int.mul_one _) rfl
    have eK1 : tmK ks 1 = ks := by
      unfold tmK
      conv => rhs; rw [← List.map_id ks]
      exact List.map_congr_left fun z _ => Prod.ext (Nat.mul_one _) rfl
    have hk3 : KdsOk N (shK d ks) := by
      have := scl_ok (c := 1) (d := d) hk
      rwa [eN, eK1] at this
    refine ⟨.ref ad, rfl, .ref D3, rfl, .ref ad, N, D3, shK d ks, rfl, hd8.kt t824, ok, ⟨_, hD3, hfw3⟩, hk3, by rw [lsh]; exact lks, sh, x1, x2, x3, x4, x5, fun l3 H25 R3 first3 nl3 hR3 hf3 dt3 k25 => ?_⟩
    have k925 : Kp [p] H9 H25 := k923.tr (k24.tr k25).of0
    have dt25 : Dx [] H25 (.ref lt) (toldT N ks R first) := (dt9.kp k925 fun _ z => z).wk fun _ z => by cases z
    have hus25 := (k24.tr k25).lst (by simp) hus23
    have hust25 := hust23.kt (k24.tr k25).kt0
    -- rows != []
    refine ⟨.ref lt, rfl, .int (d : Nat), rfl, .ref kl, rfl, by show 0 ≤ sizeLine; decide, fun le nle => ?_⟩
    generalize e26 : upd H25 le _ = H26
    have k26 : Kp [] H25 H26 := by rw [← e26]; exact Kp.new nle
    have hle : H26 le = some (.lst []) := by rw [← e26]; exact upd_same
    have shK1 := map_shaped (f := kdD) (fun _ => rfl) (fun _ => by show 1 ≤ 7; decide) ks
    have dkl : Dx [] H26 (.ref kl) (.list (ks.map kdD)) := (LstOf.dx ⟨_, hus25, hust25⟩).kp k26 fun _ z => z
    refine ⟨.list (ks.map kdD), .list (([] : List Nat).map fun n : Nat => PyData.int (n : Int)), dkl.dp (PyData.hasDict_of_canLay _ shK1.2.1), .lst (SqL.of hle) .nil, shK1.1, (map_shaped (f := fun n : Nat => PyData.int (n : Int)) (fun _ => rfl) (fun _ => by show 0 ≤ 7; decide) []).1, ?_⟩
    rw [show PyData.eqv (.list (ks.map kdD)) (.list (([] : List Nat).map fun n : Nat => PyData.int (n : Int))) = decide (ks.map kdD = []) from eqv_nil _]
    obtain ⟨al, hal⟩ : ∃ al, al = !decide (ks.map kdD = []) := ⟨_, rfl⟩
    rw [← hal]
    have dt26 : Dx [] H26 (.ref lt) (toldT N ks R first) := dt25.kp k26 fun _ z => z
    refine ⟨lt, 1, (d : Nat), al, first, (againF N (fatesR N ks R) : Nat), (roundN N (fatesR N ks R) : Nat), (turnN N).map (gapsI N (fatesR N ks R)), (List.range N.length).map (burnZ N ks), (List.range N.length).map (canD N), rfl, dt26, sm1, smd, sf, sa, sr, gG, gS, bL, bS, fun lz H27 dd27 k27 => ?_⟩
    have et3 : toldT N (shK d ks) R3 first3 = dueT N ks R first 1 d (if al = true then 1 else 0) := by
      have := scl_told (c := 1) (d := d) (R' := R3) (first' := first3) ok hk (Nat.le_refl _) hR (by rw [eN, eK1]; exact hR3) hf1 (by rw [eN, eK1]; exact hf3) (al := if al = true then 1 else 0) (fun e => by
        have : al = false := by rw [hal, e]; rfl
        rw [this]
        exact Int.mul_zero _) (fun e => by
        have : al = true := by
          rw [hal, decide_eq_false (fun z => e (List.map_eq_nil_iff.mp z))]
          rfl
        rw [this]
        exact Int.mul_one _)
      rw [eN, eK1] at this
      exact this
    obtain ⟨u1, u2, u3, u4⟩ := told_same (R := R3) (first := first3) (ks := shK d ks) ok (by rw [lsh]; exact lks)
    have dt3' : Dx [] H27 (.ref l3) (toldT N (shK d ks) R3 first3) := (dt3 [] fun _ z => by cases z).kp (k26.tr k27) fun _ z => z
    have dd3 : Dx [] H27 (.ref lz) (toldT N (shK d ks) R3 first3) := by rw [et3]; exact dd27
    refine ⟨.ref l3, .ref lz, _, Clean, rfl, clean_plain, u1, dt3', dd3, u2, u3, u4, fun H28 k28 => ⟨true, rfl, iteF ?_⟩⟩
    have k2528 := k26.tr (k27.tr k28)
    have k828 : Kp [p] H8 H28 := k824.tr (k25.tr k2528).of0
    exact ⟨_, rfl, rfl, k4.tr (Kp.drop np (k5.of0.tr (k58.tr k828)))⟩
  · obtain ⟨_, _, rfl, k4⟩ := hP
    exact q H'
end

theorem hfacts {w : World} {K : PySem.W.Frag} {h : Heap} {mg : Str → Option Value} {f : Addr} (X : K.In h) (G : h.Ns mainGlobals mg) (hfa_ : mg ("law" : Str) = some (.ref f)) (c : He.SaysX hfa hfn [] htf hex w h K) :
    ∃ a : Ad, Tx K mg a ∧ a.a_law = f ∧ (a.cd_rests_from, a.tb_rests_from) = He.cT K ("rests_from", none) ∧ (a.cd_gaps_of_beats, a.tb_gaps_of_beats) = He.cT K ("gaps_of_beats", none) ∧ (a.cd_is_net, a.tb_is_net) = He.cT K ("is_net", none) ∧ (a.cd_lights_of, a.tb_lights_of) = He.cT K ("lights_of", none) ∧ (a.cd_are_kindlings, a.tb_are_kindlings) = He.cT K ("are_kindlings", none) := by
  have cd : He.SaysD hfa hfn K := c.t.d
  obtain ⟨d0, F0⟩ := cd.def_ 0 (d := hd_is_whole) rfl
  obtain ⟨d1, F1⟩ := cd.def_ 1 (d := hd_is_pair) rfl
  obtain ⟨d2, F2⟩ := cd.def_ 2 (d := hd_is_number_of_many) rfl
  obtain ⟨d3, F3⟩ := cd.def_ 3 (d := hd_is_lamp_of_many) rfl
  obtain ⟨d4, F4⟩ := cd.def_ 4 (d := hd_is_net) rfl
  obtain ⟨d5, F5⟩ := cd.def_ 5 (d := hd_need_net) rfl
  obtain ⟨d6, F6⟩ := cd.def_ 6 (d := hd_need_lamp) rfl
  obtain ⟨d7, F7⟩ := cd.def_ 7 (d := hd_is_kindling_of_many) rfl
  obtain ⟨d8, F8⟩ := cd.def_ 8 (d := hd_are_kindlings) rfl
  obtain ⟨d9, F9⟩ := cd.def_ 9 (d := hd_way_of) rfl
  obtain ⟨d10, F10⟩ := cd.def_ 10 (d := hd_rings) rfl
  obtain ⟨d11, F11⟩ := cd.def_ 11 (d := hd_lap_of) rfl
  obtain ⟨d12, F12⟩ := cd.def_ 12 (d := hd_need_kindlings) rfl
  obtain ⟨d13, F13⟩ := cd.def_ 13 (d := hd_need_ring) rfl
  obtain ⟨d14, F14⟩ := cd.def_ 14 (d := hd_lights_of) rfl
  obtain ⟨d15, F15⟩ := cd.def_ 15 (d := hd_clash_on_lamp) rfl
  obtain ⟨d16, F16⟩ := cd.def_ 16 (d := hd_first_clash) rfl
  obtain ⟨d17, F17⟩ := cd.def_ 17 (d := hd_first_clashes) rfl
  obtain ⟨d18, F18⟩ := cd.def_ 18 (d := hd_losses_by_lights) rfl
  obtain ⟨d19, F19⟩ := cd.def_ 19 (d := hd_lights_of_all) rfl
  obtain ⟨d20, F20⟩ := cd.def_ 20 (d := hd_beats_of_losses) rfl
  obtain ⟨d21, F21⟩ := cd.def_ 21 (d := hd_fate_alone) rfl
  obtain ⟨d22, F22⟩ := cd.def_ 22 (d := hd_fates) rfl
  obtain ⟨d23, F23⟩ := cd.def_ 23 (d := hd_rests_from) rfl
  obtain ⟨d24, F24⟩ := cd.def_ 24 (d := hd_beats_on_ring) rfl
  obtain ⟨d25, F25⟩ := cd.def_ 25 (d := hd_gaps_of_beats) rfl
  obtain ⟨d26, F26⟩ := cd.def_ 26 (d := hd_round_of_gaps) rfl
  obtain ⟨d27, F27⟩ := cd.def_ 27 (d := hd_rest_of) rfl
  obtain ⟨d28, F28⟩ := cd.def_ 28 (d := hd_round_of_lamps) rfl
  obtain ⟨d29, F29⟩ := cd.def_ 29 (d := hd_gaps) rfl
  obtain ⟨d30, F30⟩ := cd.def_ 30 (d := hd_burns_for_ever) rfl
  obtain ⟨d31, F31⟩ := cd.def_ 31 (d := hd_spans_of_lightings) rfl
  obtain ⟨d32, F32⟩ := cd.def_ 32 (d := hd_is_lit_by) rfl
  obtain ⟨d33, F33⟩ := cd.def_ 33 (d := hd_burns_from) rfl
  obtain ⟨d34, F34⟩ := cd.def_ 34 (d := hd_can_burn) rfl
  obtain ⟨d35, F35⟩ := cd.def_ 35 (d := hd_law_mix) rfl
  obtain ⟨d36, F36⟩ := cd.def_ 36 (d := hd_law_bag) rfl
  obtain ⟨d37, F37⟩ := cd.def_ 37 (d := hd_law_draw) rfl
  obtain ⟨d38, F38⟩ := cd.def_ 38 (d := hd_law_some) rfl
  obtain ⟨d39, F39⟩ := cd.def_ 39 (d := hd_law_net) rfl
  obtain ⟨d40, F40⟩ := cd.def_ 40 (d := hd_law_ring) rfl
  obtain ⟨d41, F41⟩ := cd.def_ 41 (d := hd_law_lap) rfl
  obtain ⟨d42, F42⟩ := cd.def_ 42 (d := hd_law_rows) rfl
  obtain ⟨d43, F43⟩ := cd.def_ 43 (d := hd_law_same) rfl
  obtain ⟨d44, F44⟩ := cd.def_ 44 (d := hd_law_told) rfl
  obtain ⟨d45, F45⟩ := cd.def_ 45 (d := hd_law_due) rfl
  obtain ⟨d46, F46⟩ := cd.def_ 46 (d := hd_law) rfl
  have e0 : f = He.ga K "law" := by
    have e := hfa_.symm.trans (He.glo_ok X G (cd.fact 46 (f := .glo "law") rfl))
    cases e
    rfl
  refine ⟨{ a_is_whole := He.fAd K hd_is_whole.at_, f_is_whole := d0, a_is_pair := He.fAd K hd_is_pair.at_, f_is_pair := d1, a_is_number_of_many := He.fAd K hd_is_number_of_many.at_, f_is_number_of_many := d2, a_is_lamp_of_many := He.fAd K hd_is_lamp_of_many.at_, f_is_lamp_of_many := d3, a_is_net := He.fAd K hd_is_net.at_, f_is_net := d4, a_need_net := He.fAd K hd_need_net.at_, f_need_net := d5, a_need_lamp := He.fAd K hd_need_lamp.at_, f_need_lamp := d6, a_is_kindling_of_many := He.fAd K hd_is_kindling_of_many.at_, f_is_kindling_of_many := d7, a_are_kindlings := He.fAd K hd_are_kindlings.at_, f_are_kindlings := d8, a_way_of := He.fAd K hd_way_of.at_, f_way_of := d9, a_rings := He.fAd K hd_rings.at_, f_rings := d10, a_lap_of := He.fAd K hd_lap_of.at_, f_lap_of := d11, a_need_kindlings := He.fAd K hd_need_kindlings.at_, f_need_kindlings := d12, a_need_ring := He.fAd K hd_need_ring.at_, f_need_ring := d13, a_lights_of := He.fAd K hd_lights_of.at_, f_lights_of := d14, a_clash_on_lamp := He.fAd K hd_clash_on_lamp.at_, f_clash_on_lamp := d15, a_first_clash := He.fAd K hd_first_clash.at_, f_first_clash := d16, a_first_clashes := He.fAd K hd_first_clashes.at_, f_first_clashes := d17, a_losses_by_lights := He.fAd K hd_losses_by_lights.at_, f_losses_by_lights := d18, a_lights_of_all := He.fAd K hd_lights_of_all.at_, f_lights_of_all := d19, a_beats_of_losses := He.fAd K hd_beats_of_losses.at_, f_beats_of_losses := d20, a_fate_alone := He.fAd K hd_fate_alone.at_, f_fate_alone := d21, a_fates := He.fAd K hd_fates.at_, f_fates := d22, a_rests_from := He.fAd K hd_rests_from.at_, f_rests_from := d23, a_beats_on_ring := He.fAd K hd_beats_on_ring.at_, f_beats_on_ring := d24, a_gaps_of_beats := He.fAd K hd_gaps_of_beats.at_, f_gaps_of_beats := d25, a_round_of_gaps := He.fAd K hd_round_of_gaps.at_, f_round_of_gaps := d26, a_rest_of := He.fAd K hd_rest_of.at_, f_rest_of := d27, a_round_of_lamps := He.fAd K hd_round_of_lamps.at_, f_round_of_lamps := d28, a_gaps := He.fAd K hd_gaps.at_, f_gaps := d29, a_burns_for_ever := He.fAd K hd_burns_for_ever.at_, f_burns_for_ever := d30, a_spans_of_lightings := He.fAd K hd_spans_of_lightings.at_, f_spans_of_lightings := d31, a_is_lit_by := He.fAd K hd_is_lit_by.at_, f_is_lit_by := d32, a_burns_from := He.fAd K hd_burns_from.at_, f_burns_from := d33, a_can_burn := He.fAd K hd_can_burn.at_, f_can_burn := d34, a_law_mix := He.fAd K hd_law_mix.at_, f_law_mix := d35, a_law_bag := He.fAd K hd_law_bag.at_, f_law_bag := d36, a_law_draw := He.fAd K hd_law_draw.at_, f_law_draw := d37, a_law_some := He.fAd K hd_law_some.at_, f_law_some := d38, a_law_net := He.fAd K hd_law_net.at_, f_law_net := d39, a_law_ring := He.fAd K hd_law_ring.at_, f_law_ring := d40, a_law_lap := He.fAd K hd_law_lap.at_, f_law_lap := d41, a_law_rows := He.fAd K hd_law_rows.at_, f_law_rows := d42, a_law_same := He.fAd K hd_law_same.at_, f_law_same := d43, a_law_told := He.fAd K hd_law_told.at_, f_law_told := d44, a_law_due := He.fAd K hd_law_due.at_, f_law_due := d45, a_law := He.fAd K hd_law.at_, f_law := d46, c_EmberError := He.ga K "EmberError", c_NoNet := He.ga K "NoNet", c_NoKindlings := He.ga K "NoKindlings", c_NoLamp := He.ga K "NoLamp", c_NoRing := He.ga K "NoRing", cd_rests_from := He.codeOf K ("rests_from", none), tb_rests_from := (He.cT K ("rests_from", none)).2, cd_gaps_of_beats := He.codeOf K ("gaps_of_beats", none), tb_gaps_of_beats := (He.cT K ("gaps_of_beats", none)).2, cd_is_net := He.codeOf K ("is_net", none), tb_is_net := (He.cT K ("is_net", none)).2, cd_lights_of := He.codeOf K ("lights_of", none), tb_lights_of := (He.cT K ("lights_of", none)).2, cd_are_kindlings := He.codeOf K ("are_kindlings", none), tb_are_kindlings := (He.cT K ("are_kindlings", none)).2 }, ?_, e0.symm, rfl, rfl, rfl, rfl, rfl⟩
  exact ⟨Df.mk' F0 (He.glo_ok X G (cd.fact 0 (f := .glo "is_whole") rfl)) (fun _ _ _ _ _ _ us hl => match us, hl with | [_], _ => rfl),
    Df.mk' F1 (He.glo_ok X G (cd.fact 1 (f := .glo "is_pair") rfl)) (fun _ _ _ _ _ _ us hl => match us, hl with | [_], _ => rfl),
    Df.mk' F2 (He.glo_ok X G (cd.fact 2 (f := .glo "is_number_of_many") rfl)) (fun _ _ _ _ _ _ us hl => match us, hl with | [_, _], _ => rfl),
    Df.mk' F3 (He.glo_ok X G (cd.fact 3 (f := .glo "is_lamp_of_many") rfl)) (fun _ _ _ _ _ _ us hl => match us, hl with | [_, _], _ => rfl),
    Df.mk' F4 (He.glo_ok X G (cd.fact 4 (f := .glo "is_net") rfl)) (fun _ _ _ _ _ _ us hl => match us, hl with | [_], _ => rfl),
    Df.mk' F5 (He.glo_ok X G (cd.fact 5 (f := .glo "need_net") rfl)) (fun _ _ _ _ _ _ us hl => match us, hl with | [_], _ => rfl),
    Df.mk' F6 (He.glo_ok X G (cd.fact 6 (f := .glo "need_lamp") rfl)) (fun _ _ _ _ _ _ us hl => match us, hl with | [_, _], _ => rfl),
    Df.mk' F7 (He.glo_ok X G (cd.fact 7 (f := .glo "is_kindling_of_many") rfl)) (fun _ _ _ _ _ _ us hl => match us, hl with | [_, _], _ => rfl),
    Df.mk' F8 (He.glo_ok X G (cd.fact 8 (f := .glo "are_kindlings") rfl)) (fun _ _ _ _ _ _ us hl => match us, hl with | [_, _], _ => rfl),
    Df.mk' F9 (He.glo_ok X G (cd.fact 9 (f := .glo "way_of") rfl)) (fun _ _ _ _ _ _ us hl => match us, hl with | [_, _], _ => rfl),
    Df.mk' F10 (He.glo_ok X G (cd.fact 10 (f := .glo "rings") rfl)) (fun _ _ _ _ _ _ us hl => match us, hl with | [_], _ => rfl),
    Df.mk' F11 (He.glo_ok X G (cd.fact 11 (f := .glo "lap_of") rfl)) (fun _ _ _ _ _ _ us hl => match us, hl with | [_, _], _ => rfl),
    Df.mk' F12 (He.glo_ok X G (cd.fact 12 (f := .glo "need_kindlings") rfl)) (fun _ _ _ _ _ _ us hl => match us, hl with | [_, _], _ => rfl),
    Df.mk' F13 (He.glo_ok X G (cd.fact 13 (f := .glo "need_ring") rfl)) (fun _ _ _ _ _ _ us hl => match us, hl with | [_, _], _ => rfl),
    Df.mk' F14 (He.glo_ok X G (cd.fact 14 (f := .glo "lights_of") rfl)) (fun _ _ _ _ _ _ us hl => match us, hl with | [_, _], _ => rfl),
    Df.mk' F15 (He.glo_ok X G (cd.fact 15 (f := .glo "clash_on_lamp") rfl)) (fun _ _ _ _ _ _ us hl => match us, hl with | [_, _, _, _], _ => rfl),
    Df.mk' F16 (He.glo_ok X G (cd.fact 16 (f := .glo "first_clash") rfl)) (fun _ _ _ _ _ _ us hl => match us, hl with | [_, _, _, _], _ => rfl),
    Df.mk' F17 (He.glo_ok X G (cd.fact 17 (f := .glo "first_clashes") rfl)) (fun _ _ _ _ _ _ us hl => match us, hl with | [_, _], _ => rfl),
    Df.mk' F18 (He.glo_ok X G (cd.fact 18 (f := .glo "losses_by_lights") rfl)) (fun _ _ _ _ _ _ us hl => match us, hl with | [_, _], _ => rfl),
    Df.mk' F19 (He.glo_ok X G (cd.fact 19 (f := .glo "lights_of_all") rfl)) (fun _ _ _ _ _ _ us hl => match us, hl with | [_, _], _ => rfl),
    Df.mk' F20 (He.glo_ok X G (cd.fact 20 (f := .glo "beats_of_losses") rfl)) (fun _ _ _ _ _ _ us hl => match us, hl with | [_], _ => rfl),
    Df.mk' F21 (He.glo_ok X G (cd.fact 21 (f := .glo "fate_alone") rfl)) (fun _ _ _ _ _ _ us hl => match us, hl with | [_, _], _ => rfl),
    Df.mk' F22 (He.glo_ok X G (cd.fact 22 (f := .glo "fates") rfl)) (fun _ _ _ _ _ _ us hl => match us, hl with | [_, _], _ => rfl),
    Df.mk' F23 (He.glo_ok X G (cd.fact 23 (f := .glo "rests_from") rfl)) (fun _ _ _ _ _ _ us hl => match us, hl with | [_, _, _], _ => rfl),
    Df.mk' F24 (He.glo_ok X G (cd.fact 24 (f := .glo "beats_on_ring") rfl)) (fun _ _ _ _ _ _ us hl => match us, hl with | [_, _], _ => rfl),
    Df.mk' F25 (He.glo_ok X G (cd.fact 25 (f := .glo "gaps_of_beats") rfl)) (fun _ _ _ _ _ _ us hl => match us, hl with | [_, _], _ => rfl),
    Df.mk' F26 (He.glo_ok X G (cd.fact 26 (f := .glo "round_of_gaps") rfl)) (fun _ _ _ _ _ _ us hl => match us, hl with | [_], _ => rfl),
    Df.mk' F27 (He.glo_ok X G (cd.fact 27 (f := .glo "rest_of") rfl)) (fun _ _ _ _ _ _ us hl => match us, hl with | [_, _], _ => rfl),
    Df.mk' F28 (He.glo_ok X G (cd.fact 28 (f := .glo "round_of_lamps") rfl)) (fun _ _ _ _ _ _ us hl => match us, hl with | [_, _], _ => rfl),
    Df.mk' F29 (He.glo_ok X G (cd.fact 29 (f := .glo "gaps") rfl)) (fun _ _ _ _ _ _ us hl => match us, hl with | [_, _, _], _ => rfl),
    Df.mk' F30 (He.glo_ok X G (cd.fact 30 (f := .glo "burns_for_ever") rfl)) (fun _ _ _ _ _ _ us hl => match us, hl with | [_, _, _], _ => rfl),
    Df.mk' F31 (He.glo_ok X G (cd.fact 31 (f := .glo "spans_of_lightings") rfl)) (fun _ _ _ _ _ _ us hl => match us, hl with | [_, _, _], _ => rfl),
    Df.mk' F32 (He.glo_ok X G (cd.fact 32 (f := .glo "is_lit_by") rfl)) (fun _ _ _ _ _ _ us hl => match us, hl with | [_, _, _, _], _ => rfl),
    Df.mk' F33 (He.glo_ok X G (cd.fact 33 (f := .glo "burns_from") rfl)) (fun _ _ _ _ _ _ us hl => match us, hl with | [_, _, _], _ => rfl),
    Df.mk' F34 (He.glo_ok X G (cd.fact 34 (f := .glo "can_burn") rfl)) (fun _ _ _ _ _ _ us hl => match us, hl with | [_, _], _ => rfl),
    Df.mk' F35 (He.glo_ok X G (cd.fact 35 (f := .glo "_law_mix") rfl)) (fun _ _ _ _ _ _ us hl => match us, hl with | [_], _ => rfl),
    Df.mk' F36 (He.glo_ok X G (cd.fact 36 (f := .glo "_law_bag") rfl)) (fun _ _ _ _ _ _ us hl => match us, hl with | [_], _ => rfl),
    Df.mk' F37 (He.glo_ok X G (cd.fact 37 (f := .glo "_law_draw") rfl)) (fun _ _ _ _ _ _ us hl => match us, hl with | [_, _], _ => rfl),
    Df.mk' F38 (He.glo_ok X G (cd.fact 38 (f := .glo "_law_some") rfl)) (fun _ _ _ _ _ _ us hl => match us, hl with | [_, _], _ => rfl),
    Df.mk' F39 (He.glo_ok X G (cd.fact 39 (f := .glo "_law_net") rfl)) (fun _ _ _ _ _ _ us hl => match us, hl with | [_, _, _], _ => rfl),
    Df.mk' F40 (He.glo_ok X G (cd.fact 40 (f := .glo "_law_ring") rfl)) (fun _ _ _ _ _ _ us hl => match us, hl with | [_, _], _ => rfl),
    Df.mk' F41 (He.glo_ok X G (cd.fact 41 (f := .glo "_law_lap") rfl)) (fun _ _ _ _ _ _ us hl => match us, hl with | [_, _], _ => rfl),
    Df.mk' F42 (He.glo_ok X G (cd.fact 42 (f := .glo "_law_rows") rfl)) (fun _ _ _ _ _ _ us hl => match us, hl with | [_, _, _, _], _ => rfl),
    Df.mk' F43 (He.glo_ok X G (cd.fact 43 (f := .glo "_law_same") rfl)) (fun _ _ _ _ _ _ us hl => match us, hl with | [_, _], _ => rfl),
    Df.mk' F44 (He.glo_ok X G (cd.fact 44 (f := .glo "_law_told") rfl)) (fun _ _ _ _ _ _ us hl => match us, hl with | [_, _], _ => rfl),
    Df.mk' F45 (He.glo_ok X G (cd.fact 45 (f := .glo "_law_due") rfl)) (fun _ _ _ _ _ _ us hl => match us, hl with | [_, _, _, _], _ => rfl),
    Df.mk' F46 (He.glo_ok X G (cd.fact 46 (f := .glo "law") rfl)) (fun _ _ _ _ _ _ us hl => match us, hl with | [_], _ => rfl),
    He.free_ok X G (cd.fact 47 (f := .free "all") rfl),
    He.free_ok X G (cd.fact 48 (f := .free "bool") rfl),
    He.free_ok X G (cd.fact 49 (f := .free "enumerate") rfl),
    He.free_ok X G (cd.fact 50 (f := .free "int") rfl),
    He.free_ok X G (cd.fact 51 (f := .free "isinstance") rfl),
    He.free_ok X G (cd.fact 52 (f := .free "len") rfl),
    He.free_ok X G (cd.fact 53 (f := .free "list") rfl),
    He.free_ok X G (cd.fact 54 (f := .free "max") rfl),
    He.free_ok X G (cd.fact 55 (f := .free "min") rfl),
    He.free_ok X G (cd.fact 56 (f := .free "range") rfl),
    He.free_ok X G (cd.fact 57 (f := .free "sorted") rfl),
    He.free_ok X G (cd.fact 58 (f := .free "sum") rfl),
    He.free_ok X G (cd.fact 59 (f := .free "tuple") rfl),
    He.free_ok X G (cd.fact 60 (f := .free "zip") rfl),
    PySem.W.mg_of X G (of_decide_eq_true c.more),
    He.int_ok X G (cd.fact 61 (f := .int "MOST_LAMPS" 12) rfl),
    He.int_ok X G (cd.fact 62 (f := .int "MOST_KINDLINGS" 40) rfl),
    codeIs_of (p := hd_rests_from.at_) (x := "rests_from") (qual := "rests_from") (st := s_rests_from) (funOf F23),
    codeIs_of (p := hd_gaps_of_beats.at_) (x := "gaps_of_beats") (qual := "gaps_of_beats") (st := s_gaps_of_beats) (funOf F25),
    codeIs_of (p := hd_is_net.at_) (x := "is_net") (qual := "is_net") (st := s_is_net) (funOf F4),
    codeIs_of (p := hd_lights_of.at_) (x := "lights_of") (qual := "lights_of") (st := s_lights_of) (funOf F14),
    codeIs_of (p := hd_are_kindlings.at_) (x := "are_kindlings") (qual := "are_kindlings") (st := s_are_kindlings) (funOf F8),
    He.glo_ok X G (cd.fact 63 (f := .glo "EmberError") rfl),
    He.glo_ok X G (cd.fact 64 (f := .glo "NoNet") rfl),
    He.glo_ok X G (cd.fact 65 (f := .glo "NoKindlings") rfl),
    He.glo_ok X G (cd.fact 66 (f := .glo "NoLamp") rfl),
    He.glo_ok X G (cd.fact 67 (f := .glo "NoRing") rfl)⟩
theorem law_all {w : World} {K : PySem.W.Frag} {h : Heap} {mg : Str → Option Value} {f : Addr} (X : K.In h) (G : h.Ns mainGlobals mg) (hm : mg ("law" : Str) = some (.ref f)) (c : He.SaysX hfa hfn [] htf hex w h K) : LawG PySem.Challenge.rw_emberlane_k65_whole_greater_and_later w K 17 63 "script" mg f h := by
  obtain ⟨a, T, rfl, ec_rests_from, ec_gaps_of_beats, ec_is_net, ec_lights_of, ec_are_kindlings⟩ := hfacts X G hm c
  have m_is_net : (("is_net", none) : Str × Option Str) ∈ htf := by simp [htf]
  have m_lights_of : (("lights_of", none) : Str × Option Str) ∈ htf := by simp [htf]
  have m_are_kindlings : (("are_kindlings", none) : Str × Option Str) ∈ htf := by simp [htf]
  have m_rests_from : (("rests_from", none) : Str × Option Str) ∈ htf := by simp [htf]
  have m_gaps_of_beats : (("gaps_of_beats", none) : Str × Option Str) ∈ htf := by simp [htf]
  refine ⟨a.f_law, [(a.cd_is_net, a.tb_is_net), (a.cd_lights_of, a.tb_lights_of), (a.cd_are_kindlings, a.tb_are_kindlings), (a.cd_rests_from, a.tb_rests_from), (a.cd_gaps_of_beats, a.tb_gaps_of_beats)], spLaw (K := K) a.tb_is_net a.tb_lights_of a.tb_are_kindlings a.tb_rests_from a.tb_gaps_of_beats, fun p hp => ?_, fun s u => ?_, fun H b ns hn _ hT hS => ?_, fun base XB GB TB => id (ok_law T (TB (a.cd_is_net, a.tb_is_net) (by simp)) (TB (a.cd_lights_of, a.tb_lights_of) (by simp)) (TB (a.cd_are_kindlings, a.tb_are_kindlings) (by simp)) (TB (a.cd_rests_from, a.tb_rests_from) (by simp)) (TB (a.cd_gaps_of_beats, a.tb_gaps_of_beats) (by simp)))⟩
  · simp only [List.mem_cons, List.not_mem_nil, or_false] at hp
    rcases hp with rfl | rfl | rfl | rfl | rfl
    · rw [ec_is_net]
      exact ⟨c.empty _ m_is_net, c.out _ m_is_net, PySem.W.codeHd_of_K X (c.hd _ m_is_net)⟩
    · rw [ec_lights_of]
      exact ⟨c.empty _ m_lights_of, c.out _ m_lights_of, PySem.W.codeHd_of_K X (c.hd _ m_lights_of)⟩
    · rw [ec_are_kindlings]
      exact ⟨c.empty _ m_are_kindlings, c.out _ m_are_kindlings, PySem.W.codeHd_of_K X (c.hd _ m_are_kindlings)⟩
    · rw [ec_rests_from]
      exact ⟨c.empty _ m_rests_from, c.out _ m_rests_from, PySem.W.codeHd_of_K X (c.hd _ m_rests_from)⟩
    · rw [ec_gaps_of_beats]
      exact ⟨c.empty _ m_gaps_of_beats, c.out _ m_gaps_of_beats, PySem.W.codeHd_of_K X (c.hd _ m_gaps_of_beats)⟩
  · obtain ⟨oc, od, kV, doc, pm, an, cdv, ct, osl, e, lk, hcd⟩ := T.law.F.ex
    rw [e]
    exact BindsTo.of_eq rfl
  · exact ⟨b, ns, rfl, hS, hn, ⟨#[], hT (a.cd_is_net, a.tb_is_net) (by simp), by simp [TriplesOk]⟩, ⟨#[], hT (a.cd_lights_of, a.tb_lights_of) (by simp), by simp [TriplesOk]⟩, ⟨#[], hT (a.cd_are_kindlings, a.tb_are_kindlings) (by simp), by simp [TriplesOk]⟩, ⟨#[], hT (a.cd_rests_from, a.tb_rests_from) (by simp), by simp [TriplesOk]⟩, ⟨#[], hT (a.cd_gaps_of_beats, a.tb_gaps_of_beats) (by simp), by simp [TriplesOk]⟩, fun H' => rfl⟩
end K65
open PySem PySem.W PySem.Calls PyProof.Rows
set_option maxRecDepth 100000 in
set_option maxHeartbeats 0 in
theorem PySem.Challenge.cw_emberlane_k65_whole_greater_and_later_holds : PySem.Challenge.rw_emberlane_k65_whole_greater_and_later.Holds := by
  w_on; o_law
  refine Em.head_imp (r := OpenLaw.row PySem.Challenge.rw_emberlane_k65_whole_greater_and_later) (q := view (OpenLaw.row PySem.Challenge.rw_emberlane_k65_whole_greater_and_later).prog [61]) (H := K65.hk) (ob := K65.hob) (M := 40000) (loose := K65.hloose) (d := HandSHeadRun.topDef (OpenLaw.row PySem.Challenge.rw_emberlane_k65_whole_greater_and_later).prog 61) (kwd := []) K65.hob_eq
    K65.hrun (by kernel_rfl) (by kernel_rfl) (by kernel_rfl) (by rfl) (by first | assumption | decide +kernel) (by decide +kernel) ⟨rfl, rfl, rfl, rfl, rfl, by decide +kernel⟩ ?hw ?hc
  case hw => w_witness2
  case hc =>
    refine Em.walkG (l := PySem.Challenge.rw_emberlane_k65_whole_greater_and_later) (n := 63) (k := 17) (x := "script") rfl (by decide) (by kernel_rfl) ⟨rfl, by decide, by decide⟩ ?F
    intro w mg fa h Y G hmg0
    obtain ⟨K, KX, c⟩ := Y
    have hmg : mg ("law" : PySem.Str) = some (.ref fa) := by
      have e : (HandSHeadRun.topDef (OpenLaw.row PySem.Challenge.rw_emberlane_k65_whole_greater_and_later).prog 61).name = ("law" : PySem.Str) := by kernel_rfl
      rw [← e]
      exact hmg0
    exact ⟨K, KX, K65.law_all KX G hmg c⟩

