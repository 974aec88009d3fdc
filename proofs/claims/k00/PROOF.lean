import PyProof.Rows.All
import Wide.All
import OpenK.AllK
import Wide.FinOn
import HandS.ForMost
import HandS.Exc
import HandS.TryOnly
import HandS.TryMany
import HandS.ExcOwn
import HandS.WordsExc
import HandS.IsInst
import HandS.Codes
import KE.KExcInit
import PySem.Challenge.RW_nomoreseen_k00_whole_errors_and_what_the
set_option Elab.async false
set_option linter.all false
set_option maxRecDepth 100000
set_option maxHeartbeats 2000000
/-! Own error classes over Exception, by own classes between, with one field: made, raised, caught, read. After skel/42 of the guide; the store by the ledger-free half of KE.KExcInit. -/
namespace PySem
namespace ErrX
open PySem.W PySem.Calls PyProof.Rows PySem.HandSPX
abbrev tailE : List Value := [.type "Exception", .type "BaseException", .type "object"]
theorem one_size (v : Value) : [v].length ≤ sizeLine := by
  rw [sizeLine_eq]
  exact (by decide : 1 ≤ 16777216)
theorem ldC {M : Model} {s : Shared} {name : Str} {scope : Scope} {L a : Addr} {cd : Value} {m : Str → Option Value} {x : Str} {pos : Pos} {v : Value} {Q : Value → Shared → Prop} {A : Around} {E : Value → Shared → Prop} (hn : s.heap.Ns L m) (hv : m x = some v) (h : Q v s)
    (hk : scope.kind = .function := by rfl) (hl : (envOfC name scope L a cd).kindOf x = some .local := by rfl) (hd : (x == ("__debug__" : Str)) = false := by decide) :
    wpAny M A (eval (.Name x pos) (envOfC name scope L a cd)) Q E s := wpAny_Name (wpAny_loadName_local hk hl hn hv h) hd
/-- what __init__ leaves of a fresh exception at x -/
structure InitEnd (fl : Str) (h h' : Heap) (x C dx t1 : Addr) (v : Value) : Prop where
  keep : ∀ b o, b ≠ x → h.get? b = some o → h'.get? b = some o
  obj : h'.get? x = some { cls := .ref C, dict := some dx, data := .fields #[.ref t1, .none, .none, .none, .bool false, .none] }
  dbig : h.objs.size ≤ dx
  dne : dx ≠ x
  ns : h'.Ns1 dx (fun y => if y = fl then some v else none)
section
variable {prog : Program} {w : World} {A : Around} {R : Result → Shared → Prop} {hp : Heap} {g : Array GenState} {d : Drawn} {t : Nat} {os : OsState}
/-- the first store into an exception: its dict is made -/
theorem store {K : Frag} {fl : Str} {tk : Tok} {v : Value} {x C t1 : Addr} (X : K.In hp) (hx : hp.get? x = some (excO C t1)) (ov : excOver K C tailE = true) (hd : hasDictIn K C = true) (no : findIn K (.ref C) fl = some none)
    (hq : ∀ h' tk' dx, (∀ b o, b ≠ x → hp.get? b = some o → h'.get? b = some o) → hp.objs.size ≤ dx → dx ≠ x →
      h'.get? x = some { cls := .ref C, dict := some dx, data := .fields #[.ref t1, .none, .none, .none, .bool false, .none] } → h'.Ns1 dx (fun y => if y = fl then some v else none) → R (.ok (.ret .none)) ⟨h', g, d, tk', os⟩) :
    codeAny (model prog w) A (.call (.builtin "object.__setattr__") ⟨[.ref x, .str fl tk, v], []⟩) R ⟨hp, g, d, t, os⟩ := by
  have far : x ≠ hp.objs.size := Nat.ne_of_lt (Heap.lt_size hx)
  have nt : takerIn K C fl = some none := by
    show (findIn K (.ref C) fl).bind _ = _
    rw [no]
    rfl
  refine osa_openX (s := ⟨hp, g, d, t, os⟩) (od := none) F.store_Exception X ⟨hx, rfl, rfl, trivial⟩ ov nt fun b => ?_
  obtain ⟨cd, hc, hd'⟩ := any_some hd
  refine wpAny_bind (wpAny_pure (wpAny_bind (instanceDict_exc (t := t1) (c2 := .none) hx (looks_clsIn X hc) hd' ?_)))
  refine store_in_new ⟨_, #[], _, (Heap.get?_update_ne _ _ _ _ far.symm).trans (Heap.get?_push_at rfl rfl), rfl, fun e he => absurd he (by simp), fun _ => rfl⟩ fun h' tk' hn' hs => ?_
  refine hq h' tk' hp.objs.size (fun a o ha ho => ?_) (Nat.le_refl _) far.symm ?_ hn'
  · exact (hs.2 a (Nat.ne_of_lt (Heap.lt_size ho))).trans ((Heap.get?_update_ne _ _ _ _ ha).trans (Heap.get?_push_of_some _ ho))
  · exact (hs.2 x far).trans (Heap.get?_update_self _ (Heap.get?_push_of_some _ hx) rfl)
end
end ErrX
end PySem
namespace PySem
namespace ErrAt
open PySem.W PySem.Calls PyProof.Rows PySem.HandSPX
/-! ### __init__(self, at): self.at = at -/
def iA (p1 p2 : Pos) : Arguments := { posonlyargs := [], args := [{ arg := "self", annotation := none, pos := p1 }, { arg := "at", annotation := none, pos := p2 }], vararg := none, kwonlyargs := [], kw_defaults := [], kwarg := none, defaults := [] }
def iB (q1 q2 q3 q4 : Pos) : List Stmt := [.Assign [.Attribute (.Name "self" q1) "at" q2] (.Name "at" q3) q4]
def iS (mo : List (Str × Const)) : Scope := { kind := .function, names := [(PySem.Str.ofString "self", .local), (PySem.Str.ofString "at", .local)], isGenerator := false, isCoroutine := false, more := mo }
/-- an error class at C, called nm in the text, over Exception by own classes; its __init__ at fI -/
structure Is (K : Frag) (mg : Str → Option Value) (nm : Str) (C fI : Addr) : Prop where
  gC : mg nm = some (.ref C)
  ei : excInitIn K C ErrX.tailE "Exception.__new__" = true
  ov : excOver K C ErrX.tailE = true
  sa : findIn K (.ref C) "__setattr__" = some (some (.builtin "object.__setattr__"))
  ga : findIn K (.ref C) "__getattribute__" = some (some (.builtin "BaseException.__getattribute__"))
  gg : findIn K (.ref C) "__getattr__" = some none
  noN : findIn K (.ref C) "at" = some none
  iC : findIn K (.ref C) "__init__" = some (some (.ref fI))
  tC : typeIn K (.ref fI) = some (.type "function")
  kC : keepIn K (.ref C) = true
  exC : subIn K (.ref C) (.type "BaseException") = some true
  tyC : typeIn K (.ref C) = some (.type "type")
  hdC : hasDictIn K C = true
  fn : ∃ (qn : Str) (mo : List (Str × Const)) (oc : Value) (od : Option Addr) (doc pm : Value) (an : Option Addr) (cdv ct : Value) (osl : Array (Option Value)) (p1 p2 q1 q2 q3 q4 : Pos),
    K.lookup fI = some ⟨oc, od, .func (fnOf "__init__" qn (iA p1 p2) (iB q1 q2 q3 q4) (iS mo) .none .none doc pm an cdv ct), osl⟩ ∧ codeIn K cdv qn = true
/-- a made error: its own dict d holds the field -/
structure Made (h h' : Heap) (e C d : Addr) (v : Value) : Prop where
  keep : ∀ b o, h.get? b = some o → h'.get? b = some o
  new : h.objs.size ≤ e
  obj : ∃ oe vs, h'.get? e = some oe ∧ oe.cls = .ref C ∧ oe.dict = some d ∧ oe.data = .fields vs ∧ vs[1]? = some .none
  dbig : h.objs.size ≤ d
  dne : d ≠ e
  ns : h'.Ns1 d (fun y => if y = "at" then some v else none)
section
variable {prog : Program} {w : World} {A : Around} {E : Value → Shared → Prop} {R : Result → Shared → Prop} {s : Shared} {K : Frag} {mg : Str → Option Value} {nm : Str} {C fI : Addr}
theorem init (T : Is K mg nm C fI) {x t0 : Addr} {v : Value} (X : K.In s.heap) (hlim : s.heap.NoLimit) (hx : s.heap.get? x = some (excO C t0)) (hnx : K.lookup x = none) (hroom : A.depth < recursionLimit)
    (hq : ∀ h' tk dx, ErrX.InitEnd "at" s.heap h' x C dx t0 v → R (.ok (.ret .none)) { s with heap := h', toks := tk }) :
    codeAny (model prog w) A (.call (.ref fI) ⟨[.ref x, v], []⟩) R s := by
  obtain ⟨qn, mo, oc, od, doc, pm, an, cdv, ct, osl, p1, p2, q1, q2, q3, q4, ho, hcd⟩ := T.fn
  refine Att.call_fn (binds := [("self", .ref x), ("at", v)]) X hlim ho hcd hroom (BindsTo.of_eq (by first | rfl | with_unfolding_all rfl)) (by first | rfl | decide | with_unfolding_all rfl) (fun s₁ IC => ?_) rfl rfl rfl
  obtain ⟨h₁, tk₁, rfl⟩ := IC.toInCall.same
  have k : ∀ b o, s.heap.get? b = some o → h₁.get? b = some o := IC.toInCall.keep
  have hn := IC.toInCall.ns
  have X₁ : K.In h₁ := X.keeps k
  have hx₁ := k _ _ hx
  show wpAny _ _ (execs _ _) _ _ _
  refine wpAny_execs_cons (plainObj_wpAny_Assign_Attribute ?_)
  refine ErrX.ldC (v := v) hn (by first | rfl | with_unfolding_all rfl | kernel_rfl) (ErrX.ldC (v := .ref x) hn (by first | rfl | with_unfolding_all rfl | kernel_rfl) ?_)
  refine set_plain X₁ (ox := excO C t0) (od := none) ⟨hx₁, rfl, rfl, trivial⟩ T.sa ?_
  refine ErrX.store X₁ hx₁ T.ov T.hdC T.noN (fun h₃ tk₃ dx k₃ dn dne hx₃ hn₃ => ?_)
  show wpAny _ _ (execs _ _) _ _ _
  have z : s.heap.objs.size < h₁.objs.size := hn.lt
  exact wpAny_execs_nil (hq h₃ tk₃ dx ⟨fun b o hb e => k₃ b o hb (k b o e), hx₃, Nat.le_of_lt (Nat.lt_of_lt_of_le z dn), dne, hn₃⟩)
theorem made (T : Is K mg nm C fI) {v : Value} (X : K.In s.heap) (hlim : s.heap.NoLimit) (hroom : A.depth + 1 < recursionLimit)
    (hq : ∀ h' tk e d, Made s.heap h' e C d v → R (.ok (.ret (.ref e))) { s with heap := h', toks := tk }) :
    codeAny (model prog w) A (.call (.ref C) ⟨[v], []⟩) R s := by
  obtain ⟨nm', N, q, bs, bm, hdct, sn, sub, ab, col, dd, k0, k1, k2, k3, k5, hC, hbm⟩ := excInit_of X T.ei
  obtain ⟨hp, g, dr, tk, os⟩ := s
  have k : ∀ b o, hp.get? b = some o → ((hp.push (kdv_tup [v])).push (excO C hp.objs.size)).get? b = some o := fun b o e => Heap.get?_push_of_some _ (Heap.get?_push_of_some _ e)
  have hget : ((hp.push (kdv_tup [v])).push (excO C hp.objs.size)).get? (hp.objs.size + 1) = some (excO C hp.objs.size) := by heap_get
  have hnx : K.lookup (hp.objs.size + 1) = none := by
    cases e : K.lookup (hp.objs.size + 1) with
    | none => rfl
    | some o =>
      have z : hp.get? (hp.objs.size + 1) = some o := X _ _ e
      exact absurd (Nat.lt_of_succ_lt (Heap.lt_size z)) (Nat.lt_irrefl _)
  refine call_own F.excBase_Exception hbm hC (looks_findIn X T.iC) (fun self => bind_fn X self T.tC) (ErrX.one_size v) ?_
  refine init (s := ⟨(hp.push (kdv_tup [v])).push (excO C hp.objs.size), g, dr, tk, os⟩) T (X.keeps k) (hlim.keeps k) hget hnx ?_ fun h' tk' dx ⟨k', hx, dn, dne, hns⟩ => ?_
  · show A.depth + 1 < recursionLimit
    exact hroom
  · have old : ∀ b o, hp.get? b = some o → h'.get? b = some o := fun b o e => k' b o (Nat.ne_of_lt (Nat.lt_succ_of_lt (Heap.lt_size e))) (k b o e)
    have z : hp.objs.size + 1 + 1 ≤ dx := by
      first
        | (simpa only [Heap.size_push] using dn)
        | exact dn
        | (have q := dn; rw [Heap.size_push, Heap.size_push] at q; exact q)
    exact ⟨rfl, hq h' tk' (hp.objs.size + 1) dx ⟨old, Nat.le_succ _, ⟨_, _, hx, rfl, rfl, rfl, rfl⟩, Nat.le_trans (Nat.le_trans (Nat.le_succ _) (Nat.le_succ _)) z, dne, hns⟩⟩
end
end ErrAt
end PySem
namespace L2
open PySem PySem.Spec PyProof.Rows
theorem relO_at {v : V} {v' : Value} (r : RelV v v') (f : Str) : RelO (List.lookup f [(("at" : Str), v)]) (if f = "at" then some v' else none) := by
  by_cases hw : f = "at"
  · subst hw
    rw [if_pos rfl]
    have q : List.lookup ("at" : Str) [(("at" : Str), v)] = some v := by simp [List.lookup]
    rw [q]
    exact r
  · rw [if_neg hw]
    have qw : (f == ("at" : Str)) = false := by simpa using hw
    have q2 : List.lookup f [(("at" : Str), v)] = none := by simp [List.lookup, qw]
    rw [q2]
    trivial
section
variable {X : Cx} {C fI : Addr} {nm : Str}
/-- nm(e) -/
def tMkAt (C : Addr) (ta : TA) : St → Hp → XK → Prop := fun σ H Q => ta σ H fun vs H1 => ∃ v, vs = [v] ∧ ∀ d, H1 d = none → Q (.ref C) (some d) (upd H1 d (.xd [(("at" : Str), v)]))
theorem pmk_at {a : Expr} {ta : TA} {p pos : Pos} {k : Nat} (T : PySem.ErrAt.Is X.K X.mg nm C fI) (hr : Room k X.A) (ha : PA X [a] ta) (hg : Gl X nm := by rfl) (hdb : (nm == ("__debug__" : Str)) = false := by decide)
    (he : starEach (a :: []) X.env = (false, eval a X.env) :: starEach [] X.env := by rfl) (hpl : (backTo pos (starEach [] X.env)).any (·.1) = false := by rfl) :
    PMk X (.Call (.Name nm p) [a] [] pos) (tMkAt C ta) := by
  intro pins s σ H Q I h
  refine wpAny_Call_Name_kw (ld_glob I hg T.gC ?_ hdb)
  refine PySem.W.callWith_K (h₀ := X.base) I.ok.mod.kin T.kC (thn (ha.run pos pins s σ H _ I h) fun us s1 hh => ?_) he hpl
  obtain ⟨vs, H1, I1, r1, v, ev, q1⟩ := hh
  subst ev
  refine ⟨I1.kIn, ?_⟩
  cases r1 with
  | cons rv rn =>
    rename_i v' us'
    cases rn
    show wpAny _ _ (call (.ref C) [v']) _ _ _
    have hlim := I1.nolimit
    obtain ⟨hp, g, dr, tk, os⟩ := s1
    refine wpAny_call (PySem.ErrAt.made T I1.kIn hlim (by have := hr.dp; omega) fun h' tk' e d M => ?_)
    show MkP X pins σ Q (.ref e) ⟨h', g, dr, tk', os⟩
    obtain ⟨oe, fv, hoe, hc, hd, hdat, h1⟩ := M.obj
    have hns := M.ns
    obtain ⟨G', g1, g2⟩ := restrict h' fun b => decide (b ≠ e)
    have gk : ∀ b, b ≠ e → G'.get? b = h'.get? b := fun b hb => g1 b (decide_eq_true hb)
    have ge : G'.get? e = none := g2 e (by simp)
    have old : ∀ b o, hp.get? b = some o → G'.get? b = some o := fun b o q => (gk b (Nat.ne_of_lt (Nat.lt_of_lt_of_le (Heap.lt_size q) M.new))).trans (M.keep b o q)
    have ob : ObjOk X.prog X.w (upd H1 d (.xd [(("at" : Str), v)])) G' d (.xd [(("at" : Str), v)]) :=
      ⟨_, hns.at (fun o q => (gk d M.dne).trans q), fun f => relO_at rv f⟩
    have J : Inv X pins σ (upd H1 d (.xd [(("at" : Str), v)])) ⟨G', g, dr, tk', os⟩ := I1.laid (t' := tk') old M.dbig ob
    refine ⟨e, oe, fv, ⟨G', g, dr, tk', os⟩, _, .ref C, some d, rfl, J, fun b o q => ?_, ge, hoe, ⟨hc, hd⟩, hdat, h1, ?_, rfl, I1.bare, raises_own T.exC T.tyC, q1 d (I1.hok.fresh M.dbig)⟩
    · by_cases hb : b = e
      · have q' : G'.get? b = some o := q
        rw [hb, ge] at q'; cases q'
      · exact (gk b hb).symm.trans q
    · rw [upd_ne (Ne.symm M.dne)]
      exact I1.hok.fresh M.new
/-- raise nm(e) -/
def tRaiseAt (C : Addr) (W : WX) (ta : TA) : TS := fun _ σ H => tMkAt C ta σ H fun cls d H' => W cls d σ H'
theorem ps_raise_at {a : Expr} {ta : TA} {W : WX} {p pos pos2 : Pos} {k : Nat} (hc : X.calm = true) (T : PySem.ErrAt.Is X.K X.mg nm C fI) (hr : Room k X.A) (tk : Takes X W) (ha : PA X [a] ta) (hg : Gl X nm := by rfl) (hdb : (nm == ("__debug__" : Str)) = false := by decide)
    (he : starEach (a :: []) X.env = (false, eval a X.env) :: starEach [] X.env := by rfl) (hpl : (backTo pos (starEach [] X.env)).any (·.1) = false := by rfl) :
    PS X (.Raise (some (.Call (.Name nm p) [a] [] pos)) none pos2) (tRaiseAt C W ta) := ps_raise hc tk (pmk_at T hr ha hg hdb he hpl)
/-- e.at, e the error that the suite holds (at a; its class cls, its dict d) -/
def tByAt (C : Addr) (a : Addr) (cls : Value) (d : Option Addr) (te : TE) : TE := fun σ H Q => te σ H fun x H1 => x = .ref a ∧ cls = .ref C ∧ ∃ (dd : Addr) (v : V), d = some dd ∧ H1 dd = some (.xd [(("at" : Str), v)]) ∧ Q v H1
theorem pe_by_at {a : Addr} {oe : Obj} {cls : Value} {d : Option Addr} {pn : List (Addr × Obj)} {e : Expr} {te : TE} {pos : Pos} (T : PySem.ErrAt.Is X.K X.mg nm C fI) (hz : Zc cls d oe) (hf : ∃ vs, oe.data = .fields vs) (he : PE (X.suite a ((a, oe) :: pn)) e te)
    (hb : attributeBase e "at" X.env (eval e X.env) = eval e X.env := by rfl) :
    PE (X.suite a ((a, oe) :: pn)) (.Attribute e "at" pos) (tByAt C a cls d te) := by
  refine ⟨fun pins s σ H Q I h => ?_⟩
  refine attr_of hb (thn (he.run pins s σ H _ I h) fun u s1 hh => ?_)
  obtain ⟨x, H1, I1, rx, ex, ec, dd, v, ed, ea, q⟩ := hh
  subst ex
  obtain rfl : u = Value.ref a := rx
  subst ec
  subst ed
  obtain ⟨ha, _⟩ := I1.pin (a, oe) (List.mem_append_left _ List.mem_cons_self)
  obtain ⟨vs, hd⟩ := hf
  have hx : ObjOk X.prog X.w H1 s1.heap dd (.xd [(("at" : Str), v)]) := I1.hok dd _ ea
  obtain ⟨mA, hns, hr⟩ := hx
  obtain ⟨od, ho, hl⟩ := lookIn_ns hns
  have l : List.lookup ("at" : Str) [(("at" : Str), v)] = some v := by simp [List.lookup]
  obtain ⟨u, hu, ru⟩ := RelO.some_of (v := v) (o := mA "at") (by rw [← l]; exact hr "at")
  have J : PySem.W.InstAt s1.heap a oe C (some od) := ⟨ha, hz.1, by unfold PySem.W.notCls; rw [hd] <;> rfl, by rw [hz.2]; exact ho⟩
  exact HandSPX.exc_get I1.kIn J T.ga T.gg T.exC (PySem.W.findObj_own T.hdC T.noN rfl (by rw [hl, hu])) (handed_of ru) ⟨v, H1, I1.tok _, ru, q⟩
end
end L2
namespace PySem
namespace ErrWord
open PySem.W PySem.Calls PyProof.Rows PySem.HandSPX
/-! ### __init__(self, word): self.word = word -/
def iA (p1 p2 : Pos) : Arguments := { posonlyargs := [], args := [{ arg := "self", annotation := none, pos := p1 }, { arg := "word", annotation := none, pos := p2 }], vararg := none, kwonlyargs := [], kw_defaults := [], kwarg := none, defaults := [] }
def iB (q1 q2 q3 q4 : Pos) : List Stmt := [.Assign [.Attribute (.Name "self" q1) "word" q2] (.Name "word" q3) q4]
def iS (mo : List (Str × Const)) : Scope := { kind := .function, names := [(PySem.Str.ofString "self", .local), (PySem.Str.ofString "word", .local)], isGenerator := false, isCoroutine := false, more := mo }
/-- an error class at C, called nm in the text, over Exception by own classes; its __init__ at fI -/
structure Is (K : Frag) (mg : Str → Option Value) (nm : Str) (C fI : Addr) : Prop where
  gC : mg nm = some (.ref C)
  ei : excInitIn K C ErrX.tailE "Exception.__new__" = true
  ov : excOver K C ErrX.tailE = true
  sa : findIn K (.ref C) "__setattr__" = some (some (.builtin "object.__setattr__"))
  ga : findIn K (.ref C) "__getattribute__" = some (some (.builtin "BaseException.__getattribute__"))
  gg : findIn K (.ref C) "__getattr__" = some none
  noN : findIn K (.ref C) "word" = some none
  iC : findIn K (.ref C) "__init__" = some (some (.ref fI))
  tC : typeIn K (.ref fI) = some (.type "function")
  kC : keepIn K (.ref C) = true
  exC : subIn K (.ref C) (.type "BaseException") = some true
  tyC : typeIn K (.ref C) = some (.type "type")
  hdC : hasDictIn K C = true
  fn : ∃ (qn : Str) (mo : List (Str × Const)) (oc : Value) (od : Option Addr) (doc pm : Value) (an : Option Addr) (cdv ct : Value) (osl : Array (Option Value)) (p1 p2 q1 q2 q3 q4 : Pos),
    K.lookup fI = some ⟨oc, od, .func (fnOf "__init__" qn (iA p1 p2) (iB q1 q2 q3 q4) (iS mo) .none .none doc pm an cdv ct), osl⟩ ∧ codeIn K cdv qn = true
/-- a made error: its own dict d holds the field -/
structure Made (h h' : Heap) (e C d : Addr) (v : Value) : Prop where
  keep : ∀ b o, h.get? b = some o → h'.get? b = some o
  new : h.objs.size ≤ e
  obj : ∃ oe vs, h'.get? e = some oe ∧ oe.cls = .ref C ∧ oe.dict = some d ∧ oe.data = .fields vs ∧ vs[1]? = some .none
  dbig : h.objs.size ≤ d
  dne : d ≠ e
  ns : h'.Ns1 d (fun y => if y = "word" then some v else none)
section
variable {prog : Program} {w : World} {A : Around} {E : Value → Shared → Prop} {R : Result → Shared → Prop} {s : Shared} {K : Frag} {mg : Str → Option Value} {nm : Str} {C fI : Addr}
theorem init (T : Is K mg nm C fI) {x t0 : Addr} {v : Value} (X : K.In s.heap) (hlim : s.heap.NoLimit) (hx : s.heap.get? x = some (excO C t0)) (hnx : K.lookup x = none) (hroom : A.depth < recursionLimit)
    (hq : ∀ h' tk dx, ErrX.InitEnd "word" s.heap h' x C dx t0 v → R (.ok (.ret .none)) { s with heap := h', toks := tk }) :
    codeAny (model prog w) A (.call (.ref fI) ⟨[.ref x, v], []⟩) R s := by
  obtain ⟨qn, mo, oc, od, doc, pm, an, cdv, ct, osl, p1, p2, q1, q2, q3, q4, ho, hcd⟩ := T.fn
  refine Att.call_fn (binds := [("self", .ref x), ("word", v)]) X hlim ho hcd hroom (BindsTo.of_eq (by first | rfl | with_unfolding_all rfl)) (by first | rfl | decide | with_unfolding_all rfl) (fun s₁ IC => ?_) rfl rfl rfl
  obtain ⟨h₁, tk₁, rfl⟩ := IC.toInCall.same
  have k : ∀ b o, s.heap.get? b = some o → h₁.get? b = some o := IC.toInCall.keep
  have hn := IC.toInCall.ns
  have X₁ : K.In h₁ := X.keeps k
  have hx₁ := k _ _ hx
  show wpAny _ _ (execs _ _) _ _ _
  refine wpAny_execs_cons (plainObj_wpAny_Assign_Attribute ?_)
  refine ErrX.ldC (v := v) hn (by first | rfl | with_unfolding_all rfl | kernel_rfl) (ErrX.ldC (v := .ref x) hn (by first | rfl | with_unfolding_all rfl | kernel_rfl) ?_)
  refine set_plain X₁ (ox := excO C t0) (od := none) ⟨hx₁, rfl, rfl, trivial⟩ T.sa ?_
  refine ErrX.store X₁ hx₁ T.ov T.hdC T.noN (fun h₃ tk₃ dx k₃ dn dne hx₃ hn₃ => ?_)
  show wpAny _ _ (execs _ _) _ _ _
  have z : s.heap.objs.size < h₁.objs.size := hn.lt
  exact wpAny_execs_nil (hq h₃ tk₃ dx ⟨fun b o hb e => k₃ b o hb (k b o e), hx₃, Nat.le_of_lt (Nat.lt_of_lt_of_le z dn), dne, hn₃⟩)
theorem made (T : Is K mg nm C fI) {v : Value} (X : K.In s.heap) (hlim : s.heap.NoLimit) (hroom : A.depth + 1 < recursionLimit)
    (hq : ∀ h' tk e d, Made s.heap h' e C d v → R (.ok (.ret (.ref e))) { s with heap := h', toks := tk }) :
    codeAny (model prog w) A (.call (.ref C) ⟨[v], []⟩) R s := by
  obtain ⟨nm', N, q, bs, bm, hdct, sn, sub, ab, col, dd, k0, k1, k2, k3, k5, hC, hbm⟩ := excInit_of X T.ei
  obtain ⟨hp, g, dr, tk, os⟩ := s
  have k : ∀ b o, hp.get? b = some o → ((hp.push (kdv_tup [v])).push (excO C hp.objs.size)).get? b = some o := fun b o e => Heap.get?_push_of_some _ (Heap.get?_push_of_some _ e)
  have hget : ((hp.push (kdv_tup [v])).push (excO C hp.objs.size)).get? (hp.objs.size + 1) = some (excO C hp.objs.size) := by heap_get
  have hnx : K.lookup (hp.objs.size + 1) = none := by
    cases e : K.lookup (hp.objs.size + 1) with
    | none => rfl
    | some o =>
      have z : hp.get? (hp.objs.size + 1) = some o := X _ _ e
      exact absurd (Nat.lt_of_succ_lt (Heap.lt_size z)) (Nat.lt_irrefl _)
  refine call_own F.excBase_Exception hbm hC (looks_findIn X T.iC) (fun self => bind_fn X self T.tC) (ErrX.one_size v) ?_
  refine init (s := ⟨(hp.push (kdv_tup [v])).push (excO C hp.objs.size), g, dr, tk, os⟩) T (X.keeps k) (hlim.keeps k) hget hnx ?_ fun h' tk' dx ⟨k', hx, dn, dne, hns⟩ => ?_
  · show A.depth + 1 < recursionLimit
    exact hroom
  · have old : ∀ b o, hp.get? b = some o → h'.get? b = some o := fun b o e => k' b o (Nat.ne_of_lt (Nat.lt_succ_of_lt (Heap.lt_size e))) (k b o e)
    have z : hp.objs.size + 1 + 1 ≤ dx := by
      first
        | (simpa only [Heap.size_push] using dn)
        | exact dn
        | (have q := dn; rw [Heap.size_push, Heap.size_push] at q; exact q)
    exact ⟨rfl, hq h' tk' (hp.objs.size + 1) dx ⟨old, Nat.le_succ _, ⟨_, _, hx, rfl, rfl, rfl, rfl⟩, Nat.le_trans (Nat.le_trans (Nat.le_succ _) (Nat.le_succ _)) z, dne, hns⟩⟩
end
end ErrWord
end PySem
namespace L2
open PySem PySem.Spec PyProof.Rows
theorem relO_word {v : V} {v' : Value} (r : RelV v v') (f : Str) : RelO (List.lookup f [(("word" : Str), v)]) (if f = "word" then some v' else none) := by
  by_cases hw : f = "word"
  · subst hw
    rw [if_pos rfl]
    have q : List.lookup ("word" : Str) [(("word" : Str), v)] = some v := by simp [List.lookup]
    rw [q]
    exact r
  · rw [if_neg hw]
    have qw : (f == ("word" : Str)) = false := by simpa using hw
    have q2 : List.lookup f [(("word" : Str), v)] = none := by simp [List.lookup, qw]
    rw [q2]
    trivial
section
variable {X : Cx} {C fI : Addr} {nm : Str}
/-- nm(e) -/
def tMkWord (C : Addr) (ta : TA) : St → Hp → XK → Prop := fun σ H Q => ta σ H fun vs H1 => ∃ v, vs = [v] ∧ ∀ d, H1 d = none → Q (.ref C) (some d) (upd H1 d (.xd [(("word" : Str), v)]))
theorem pmk_word {a : Expr} {ta : TA} {p pos : Pos} {k : Nat} (T : PySem.ErrWord.Is X.K X.mg nm C fI) (hr : Room k X.A) (ha : PA X [a] ta) (hg : Gl X nm := by rfl) (hdb : (nm == ("__debug__" : Str)) = false := by decide)
    (he : starEach (a :: []) X.env = (false, eval a X.env) :: starEach [] X.env := by rfl) (hpl : (backTo pos (starEach [] X.env)).any (·.1) = false := by rfl) :
    PMk X (.Call (.Name nm p) [a] [] pos) (tMkWord C ta) := by
  intro pins s σ H Q I h
  refine wpAny_Call_Name_kw (ld_glob I hg T.gC ?_ hdb)
  refine PySem.W.callWith_K (h₀ := X.base) I.ok.mod.kin T.kC (thn (ha.run pos pins s σ H _ I h) fun us s1 hh => ?_) he hpl
  obtain ⟨vs, H1, I1, r1, v, ev, q1⟩ := hh
  subst ev
  refine ⟨I1.kIn, ?_⟩
  cases r1 with
  | cons rv rn =>
    rename_i v' us'
    cases rn
    show wpAny _ _ (call (.ref C) [v']) _ _ _
    have hlim := I1.nolimit
    obtain ⟨hp, g, dr, tk, os⟩ := s1
    refine wpAny_call (PySem.ErrWord.made T I1.kIn hlim (by have := hr.dp; omega) fun h' tk' e d M => ?_)
    show MkP X pins σ Q (.ref e) ⟨h', g, dr, tk', os⟩
    obtain ⟨oe, fv, hoe, hc, hd, hdat, h1⟩ := M.obj
    have hns := M.ns
    obtain ⟨G', g1, g2⟩ := restrict h' fun b => decide (b ≠ e)
    have gk : ∀ b, b ≠ e → G'.get? b = h'.get? b := fun b hb => g1 b (decide_eq_true hb)
    have ge : G'.get? e = none := g2 e (by simp)
    have old : ∀ b o, hp.get? b = some o → G'.get? b = some o := fun b o q => (gk b (Nat.ne_of_lt (Nat.lt_of_lt_of_le (Heap.lt_size q) M.new))).trans (M.keep b o q)
    have ob : ObjOk X.prog X.w (upd H1 d (.xd [(("word" : Str), v)])) G' d (.xd [(("word" : Str), v)]) :=
      ⟨_, hns.at (fun o q => (gk d M.dne).trans q), fun f => relO_word rv f⟩
    have J : Inv X pins σ (upd H1 d (.xd [(("word" : Str), v)])) ⟨G', g, dr, tk', os⟩ := I1.laid (t' := tk') old M.dbig ob
    refine ⟨e, oe, fv, ⟨G', g, dr, tk', os⟩, _, .ref C, some d, rfl, J, fun b o q => ?_, ge, hoe, ⟨hc, hd⟩, hdat, h1, ?_, rfl, I1.bare, raises_own T.exC T.tyC, q1 d (I1.hok.fresh M.dbig)⟩
    · by_cases hb : b = e
      · have q' : G'.get? b = some o := q
        rw [hb, ge] at q'; cases q'
      · exact (gk b hb).symm.trans q
    · rw [upd_ne (Ne.symm M.dne)]
      exact I1.hok.fresh M.new
/-- raise nm(e) -/
def tRaiseWord (C : Addr) (W : WX) (ta : TA) : TS := fun _ σ H => tMkWord C ta σ H fun cls d H' => W cls d σ H'
theorem ps_raise_word {a : Expr} {ta : TA} {W : WX} {p pos pos2 : Pos} {k : Nat} (hc : X.calm = true) (T : PySem.ErrWord.Is X.K X.mg nm C fI) (hr : Room k X.A) (tk : Takes X W) (ha : PA X [a] ta) (hg : Gl X nm := by rfl) (hdb : (nm == ("__debug__" : Str)) = false := by decide)
    (he : starEach (a :: []) X.env = (false, eval a X.env) :: starEach [] X.env := by rfl) (hpl : (backTo pos (starEach [] X.env)).any (·.1) = false := by rfl) :
    PS X (.Raise (some (.Call (.Name nm p) [a] [] pos)) none pos2) (tRaiseWord C W ta) := ps_raise hc tk (pmk_word T hr ha hg hdb he hpl)
/-- e.word, e the error that the suite holds (at a; its class cls, its dict d) -/
def tByWord (C : Addr) (a : Addr) (cls : Value) (d : Option Addr) (te : TE) : TE := fun σ H Q => te σ H fun x H1 => x = .ref a ∧ cls = .ref C ∧ ∃ (dd : Addr) (v : V), d = some dd ∧ H1 dd = some (.xd [(("word" : Str), v)]) ∧ Q v H1
theorem pe_by_word {a : Addr} {oe : Obj} {cls : Value} {d : Option Addr} {pn : List (Addr × Obj)} {e : Expr} {te : TE} {pos : Pos} (T : PySem.ErrWord.Is X.K X.mg nm C fI) (hz : Zc cls d oe) (hf : ∃ vs, oe.data = .fields vs) (he : PE (X.suite a ((a, oe) :: pn)) e te)
    (hb : attributeBase e "word" X.env (eval e X.env) = eval e X.env := by rfl) :
    PE (X.suite a ((a, oe) :: pn)) (.Attribute e "word" pos) (tByWord C a cls d te) := by
  refine ⟨fun pins s σ H Q I h => ?_⟩
  refine attr_of hb (thn (he.run pins s σ H _ I h) fun u s1 hh => ?_)
  obtain ⟨x, H1, I1, rx, ex, ec, dd, v, ed, ea, q⟩ := hh
  subst ex
  obtain rfl : u = Value.ref a := rx
  subst ec
  subst ed
  obtain ⟨ha, _⟩ := I1.pin (a, oe) (List.mem_append_left _ List.mem_cons_self)
  obtain ⟨vs, hd⟩ := hf
  have hx : ObjOk X.prog X.w H1 s1.heap dd (.xd [(("word" : Str), v)]) := I1.hok dd _ ea
  obtain ⟨mA, hns, hr⟩ := hx
  obtain ⟨od, ho, hl⟩ := lookIn_ns hns
  have l : List.lookup ("word" : Str) [(("word" : Str), v)] = some v := by simp [List.lookup]
  obtain ⟨u, hu, ru⟩ := RelO.some_of (v := v) (o := mA "word") (by rw [← l]; exact hr "word")
  have J : PySem.W.InstAt s1.heap a oe C (some od) := ⟨ha, hz.1, by unfold PySem.W.notCls; rw [hd] <;> rfl, by rw [hz.2]; exact ho⟩
  exact HandSPX.exc_get I1.kIn J T.ga T.gg T.exC (PySem.W.findObj_own T.hdC T.noN rfl (by rw [hl, hu])) (handed_of ru) ⟨v, H1, I1.tok _, ru, q⟩
end
end L2
namespace PySem
namespace ErrName
open PySem.W PySem.Calls PyProof.Rows PySem.HandSPX
/-! ### __init__(self, name): self.name = name -/
def iA (p1 p2 : Pos) : Arguments := { posonlyargs := [], args := [{ arg := "self", annotation := none, pos := p1 }, { arg := "name", annotation := none, pos := p2 }], vararg := none, kwonlyargs := [], kw_defaults := [], kwarg := none, defaults := [] }
def iB (q1 q2 q3 q4 : Pos) : List Stmt := [.Assign [.Attribute (.Name "self" q1) "name" q2] (.Name "name" q3) q4]
def iS (mo : List (Str × Const)) : Scope := { kind := .function, names := [(PySem.Str.ofString "self", .local), (PySem.Str.ofString "name", .local)], isGenerator := false, isCoroutine := false, more := mo }
/-- an error class at C, called nm in the text, over Exception by own classes; its __init__ at fI -/
structure Is (K : Frag) (mg : Str → Option Value) (nm : Str) (C fI : Addr) : Prop where
  gC : mg nm = some (.ref C)
  ei : excInitIn K C ErrX.tailE "Exception.__new__" = true
  ov : excOver K C ErrX.tailE = true
  sa : findIn K (.ref C) "__setattr__" = some (some (.builtin "object.__setattr__"))
  ga : findIn K (.ref C) "__getattribute__" = some (some (.builtin "BaseException.__getattribute__"))
  gg : findIn K (.ref C) "__getattr__" = some none
  noN : findIn K (.ref C) "name" = some none
  iC : findIn K (.ref C) "__init__" = some (some (.ref fI))
  tC : typeIn K (.ref fI) = some (.type "function")
  kC : keepIn K (.ref C) = true
  exC : subIn K (.ref C) (.type "BaseException") = some true
  tyC : typeIn K (.ref C) = some (.type "type")
  hdC : hasDictIn K C = true
  fn : ∃ (qn : Str) (mo : List (Str × Const)) (oc : Value) (od : Option Addr) (doc pm : Value) (an : Option Addr) (cdv ct : Value) (osl : Array (Option Value)) (p1 p2 q1 q2 q3 q4 : Pos),
    K.lookup fI = some ⟨oc, od, .func (fnOf "__init__" qn (iA p1 p2) (iB q1 q2 q3 q4) (iS mo) .none .none doc pm an cdv ct), osl⟩ ∧ codeIn K cdv qn = true
/-- a made error: its own dict d holds the field -/
structure Made (h h' : Heap) (e C d : Addr) (v : Value) : Prop where
  keep : ∀ b o, h.get? b = some o → h'.get? b = some o
  new : h.objs.size ≤ e
  obj : ∃ oe vs, h'.get? e = some oe ∧ oe.cls = .ref C ∧ oe.dict = some d ∧ oe.data = .fields vs ∧ vs[1]? = some .none
  dbig : h.objs.size ≤ d
  dne : d ≠ e
  ns : h'.Ns1 d (fun y => if y = "name" then some v else none)
section
variable {prog : Program} {w : World} {A : Around} {E : Value → Shared → Prop} {R : Result → Shared → Prop} {s : Shared} {K : Frag} {mg : Str → Option Value} {nm : Str} {C fI : Addr}
theorem init (T : Is K mg nm C fI) {x t0 : Addr} {v : Value} (X : K.In s.heap) (hlim : s.heap.NoLimit) (hx : s.heap.get? x = some (excO C t0)) (hnx : K.lookup x = none) (hroom : A.depth < recursionLimit)
    (hq : ∀ h' tk dx, ErrX.InitEnd "name" s.heap h' x C dx t0 v → R (.ok (.ret .none)) { s with heap := h', toks := tk }) :
    codeAny (model prog w) A (.call (.ref fI) ⟨[.ref x, v], []⟩) R s := by
  obtain ⟨qn, mo, oc, od, doc, pm, an, cdv, ct, osl, p1, p2, q1, q2, q3, q4, ho, hcd⟩ := T.fn
  refine Att.call_fn (binds := [("self", .ref x), ("name", v)]) X hlim ho hcd hroom (BindsTo.of_eq (by first | rfl | with_unfolding_all rfl)) (by first | rfl | decide | with_unfolding_all rfl) (fun s₁ IC => ?_) rfl rfl rfl
  obtain ⟨h₁, tk₁, rfl⟩ := IC.toInCall.same
  have k : ∀ b o, s.heap.get? b = some o → h₁.get? b = some o := IC.toInCall.keep
  have hn := IC.toInCall.ns
  have X₁ : K.In h₁ := X.keeps k
  have hx₁ := k _ _ hx
  show wpAny _ _ (execs _ _) _ _ _
  refine wpAny_execs_cons (plainObj_wpAny_Assign_Attribute ?_)
  refine ErrX.ldC (v := v) hn (by first | rfl | with_unfolding_all rfl | kernel_rfl) (ErrX.ldC (v := .ref x) hn (by first | rfl | with_unfolding_all rfl | kernel_rfl) ?_)
  refine set_plain X₁ (ox := excO C t0) (od := none) ⟨hx₁, rfl, rfl, trivial⟩ T.sa ?_
  refine ErrX.store X₁ hx₁ T.ov T.hdC T.noN (fun h₃ tk₃ dx k₃ dn dne hx₃ hn₃ => ?_)
  show wpAny _ _ (execs _ _) _ _ _
  have z : s.heap.objs.size < h₁.objs.size := hn.lt
  exact wpAny_execs_nil (hq h₃ tk₃ dx ⟨fun b o hb e => k₃ b o hb (k b o e), hx₃, Nat.le_of_lt (Nat.lt_of_lt_of_le z dn), dne, hn₃⟩)
theorem made (T : Is K mg nm C fI) {v : Value} (X : K.In s.heap) (hlim : s.heap.NoLimit) (hroom : A.depth + 1 < recursionLimit)
    (hq : ∀ h' tk e d, Made s.heap h' e C d v → R (.ok (.ret (.ref e))) { s with heap := h', toks := tk }) :
    codeAny (model prog w) A (.call (.ref C) ⟨[v], []⟩) R s := by
  obtain ⟨nm', N, q, bs, bm, hdct, sn, sub, ab, col, dd, k0, k1, k2, k3, k5, hC, hbm⟩ := excInit_of X T.ei
  obtain ⟨hp, g, dr, tk, os⟩ := s
  have k : ∀ b o, hp.get? b = some o → ((hp.push (kdv_tup [v])).push (excO C hp.objs.size)).get? b = some o := fun b o e => Heap.get?_push_of_some _ (Heap.get?_push_of_some _ e)
  have hget : ((hp.push (kdv_tup [v])).push (excO C hp.objs.size)).get? (hp.objs.size + 1) = some (excO C hp.objs.size) := by heap_get
  have hnx : K.lookup (hp.objs.size + 1) = none := by
    cases e : K.lookup (hp.objs.size + 1) with
    | none => rfl
    | some o =>
      have z : hp.get? (hp.objs.size + 1) = some o := X _ _ e
      exact absurd (Nat.lt_of_succ_lt (Heap.lt_size z)) (Nat.lt_irrefl _)
  refine call_own F.excBase_Exception hbm hC (looks_findIn X T.iC) (fun self => bind_fn X self T.tC) (ErrX.one_size v) ?_
  refine init (s := ⟨(hp.push (kdv_tup [v])).push (excO C hp.objs.size), g, dr, tk, os⟩) T (X.keeps k) (hlim.keeps k) hget hnx ?_ fun h' tk' dx ⟨k', hx, dn, dne, hns⟩ => ?_
  · show A.depth + 1 < recursionLimit
    exact hroom
  · have old : ∀ b o, hp.get? b = some o → h'.get? b = some o := fun b o e => k' b o (Nat.ne_of_lt (Nat.lt_succ_of_lt (Heap.lt_size e))) (k b o e)
    have z : hp.objs.size + 1 + 1 ≤ dx := by
      first
        | (simpa only [Heap.size_push] using dn)
        | exact dn
        | (have q := dn; rw [Heap.size_push, Heap.size_push] at q; exact q)
    exact ⟨rfl, hq h' tk' (hp.objs.size + 1) dx ⟨old, Nat.le_succ _, ⟨_, _, hx, rfl, rfl, rfl, rfl⟩, Nat.le_trans (Nat.le_trans (Nat.le_succ _) (Nat.le_succ _)) z, dne, hns⟩⟩
end
end ErrName
end PySem
namespace L2
open PySem PySem.Spec PyProof.Rows
theorem relO_name {v : V} {v' : Value} (r : RelV v v') (f : Str) : RelO (List.lookup f [(("name" : Str), v)]) (if f = "name" then some v' else none) := by
  by_cases hw : f = "name"
  · subst hw
    rw [if_pos rfl]
    have q : List.lookup ("name" : Str) [(("name" : Str), v)] = some v := by simp [List.lookup]
    rw [q]
    exact r
  · rw [if_neg hw]
    have qw : (f == ("name" : Str)) = false := by simpa using hw
    have q2 : List.lookup f [(("name" : Str), v)] = none := by simp [List.lookup, qw]
    rw [q2]
    trivial
section
variable {X : Cx} {C fI : Addr} {nm : Str}
/-- nm(e) -/
def tMkName (C : Addr) (ta : TA) : St → Hp → XK → Prop := fun σ H Q => ta σ H fun vs H1 => ∃ v, vs = [v] ∧ ∀ d, H1 d = none → Q (.ref C) (some d) (upd H1 d (.xd [(("name" : Str), v)]))
theorem pmk_name {a : Expr} {ta : TA} {p pos : Pos} {k : Nat} (T : PySem.ErrName.Is X.K X.mg nm C fI) (hr : Room k X.A) (ha : PA X [a] ta) (hg : Gl X nm := by rfl) (hdb : (nm == ("__debug__" : Str)) = false := by decide)
    (he : starEach (a :: []) X.env = (false, eval a X.env) :: starEach [] X.env := by rfl) (hpl : (backTo pos (starEach [] X.env)).any (·.1) = false := by rfl) :
    PMk X (.Call (.Name nm p) [a] [] pos) (tMkName C ta) := by
  intro pins s σ H Q I h
  refine wpAny_Call_Name_kw (ld_glob I hg T.gC ?_ hdb)
  refine PySem.W.callWith_K (h₀ := X.base) I.ok.mod.kin T.kC (thn (ha.run pos pins s σ H _ I h) fun us s1 hh => ?_) he hpl
  obtain ⟨vs, H1, I1, r1, v, ev, q1⟩ := hh
  subst ev
  refine ⟨I1.kIn, ?_⟩
  cases r1 with
  | cons rv rn =>
    rename_i v' us'
    cases rn
    show wpAny _ _ (call (.ref C) [v']) _ _ _
    have hlim := I1.nolimit
    obtain ⟨hp, g, dr, tk, os⟩ := s1
    refine wpAny_call (PySem.ErrName.made T I1.kIn hlim (by have := hr.dp; omega) fun h' tk' e d M => ?_)
    show MkP X pins σ Q (.ref e) ⟨h', g, dr, tk', os⟩
    obtain ⟨oe, fv, hoe, hc, hd, hdat, h1⟩ := M.obj
    have hns := M.ns
    obtain ⟨G', g1, g2⟩ := restrict h' fun b => decide (b ≠ e)
    have gk : ∀ b, b ≠ e → G'.get? b = h'.get? b := fun b hb => g1 b (decide_eq_true hb)
    have ge : G'.get? e = none := g2 e (by simp)
    have old : ∀ b o, hp.get? b = some o → G'.get? b = some o := fun b o q => (gk b (Nat.ne_of_lt (Nat.lt_of_lt_of_le (Heap.lt_size q) M.new))).trans (M.keep b o q)
    have ob : ObjOk X.prog X.w (upd H1 d (.xd [(("name" : Str), v)])) G' d (.xd [(("name" : Str), v)]) :=
      ⟨_, hns.at (fun o q => (gk d M.dne).trans q), fun f => relO_name rv f⟩
    have J : Inv X pins σ (upd H1 d (.xd [(("name" : Str), v)])) ⟨G', g, dr, tk', os⟩ := I1.laid (t' := tk') old M.dbig ob
    refine ⟨e, oe, fv, ⟨G', g, dr, tk', os⟩, _, .ref C, some d, rfl, J, fun b o q => ?_, ge, hoe, ⟨hc, hd⟩, hdat, h1, ?_, rfl, I1.bare, raises_own T.exC T.tyC, q1 d (I1.hok.fresh M.dbig)⟩
    · by_cases hb : b = e
      · have q' : G'.get? b = some o := q
        rw [hb, ge] at q'; cases q'
      · exact (gk b hb).symm.trans q
    · rw [upd_ne (Ne.symm M.dne)]
      exact I1.hok.fresh M.new
/-- raise nm(e) -/
def tRaiseName (C : Addr) (W : WX) (ta : TA) : TS := fun _ σ H => tMkName C ta σ H fun cls d H' => W cls d σ H'
theorem ps_raise_name {a : Expr} {ta : TA} {W : WX} {p pos pos2 : Pos} {k : Nat} (hc : X.calm = true) (T : PySem.ErrName.Is X.K X.mg nm C fI) (hr : Room k X.A) (tk : Takes X W) (ha : PA X [a] ta) (hg : Gl X nm := by rfl) (hdb : (nm == ("__debug__" : Str)) = false := by decide)
    (he : starEach (a :: []) X.env = (false, eval a X.env) :: starEach [] X.env := by rfl) (hpl : (backTo pos (starEach [] X.env)).any (·.1) = false := by rfl) :
    PS X (.Raise (some (.Call (.Name nm p) [a] [] pos)) none pos2) (tRaiseName C W ta) := ps_raise hc tk (pmk_name T hr ha hg hdb he hpl)
/-- e.name, e the error that the suite holds (at a; its class cls, its dict d) -/
def tByName (C : Addr) (a : Addr) (cls : Value) (d : Option Addr) (te : TE) : TE := fun σ H Q => te σ H fun x H1 => x = .ref a ∧ cls = .ref C ∧ ∃ (dd : Addr) (v : V), d = some dd ∧ H1 dd = some (.xd [(("name" : Str), v)]) ∧ Q v H1
theorem pe_by_name {a : Addr} {oe : Obj} {cls : Value} {d : Option Addr} {pn : List (Addr × Obj)} {e : Expr} {te : TE} {pos : Pos} (T : PySem.ErrName.Is X.K X.mg nm C fI) (hz : Zc cls d oe) (hf : ∃ vs, oe.data = .fields vs) (he : PE (X.suite a ((a, oe) :: pn)) e te)
    (hb : attributeBase e "name" X.env (eval e X.env) = eval e X.env := by rfl) :
    PE (X.suite a ((a, oe) :: pn)) (.Attribute e "name" pos) (tByName C a cls d te) := by
  refine ⟨fun pins s σ H Q I h => ?_⟩
  refine attr_of hb (thn (he.run pins s σ H _ I h) fun u s1 hh => ?_)
  obtain ⟨x, H1, I1, rx, ex, ec, dd, v, ed, ea, q⟩ := hh
  subst ex
  obtain rfl : u = Value.ref a := rx
  subst ec
  subst ed
  obtain ⟨ha, _⟩ := I1.pin (a, oe) (List.mem_append_left _ List.mem_cons_self)
  obtain ⟨vs, hd⟩ := hf
  have hx : ObjOk X.prog X.w H1 s1.heap dd (.xd [(("name" : Str), v)]) := I1.hok dd _ ea
  obtain ⟨mA, hns, hr⟩ := hx
  obtain ⟨od, ho, hl⟩ := lookIn_ns hns
  have l : List.lookup ("name" : Str) [(("name" : Str), v)] = some v := by simp [List.lookup]
  obtain ⟨u, hu, ru⟩ := RelO.some_of (v := v) (o := mA "name") (by rw [← l]; exact hr "name")
  have J : PySem.W.InstAt s1.heap a oe C (some od) := ⟨ha, hz.1, by unfold PySem.W.notCls; rw [hd] <;> rfl, by rw [hz.2]; exact ho⟩
  exact HandSPX.exc_get I1.kIn J T.ga T.gg T.exC (PySem.W.findObj_own T.hdC T.noN rfl (by rw [hl, hu])) (handed_of ru) ⟨v, H1, I1.tok _, ru, q⟩
end
end L2
namespace PySem
namespace ErrMany
open PySem.W PySem.Calls PyProof.Rows PySem.HandSPX
/-! ### __init__(self, many): self.many = many -/
def iA (p1 p2 : Pos) : Arguments := { posonlyargs := [], args := [{ arg := "self", annotation := none, pos := p1 }, { arg := "many", annotation := none, pos := p2 }], vararg := none, kwonlyargs := [], kw_defaults := [], kwarg := none, defaults := [] }
def iB (q1 q2 q3 q4 : Pos) : List Stmt := [.Assign [.Attribute (.Name "self" q1) "many" q2] (.Name "many" q3) q4]
def iS (mo : List (Str × Const)) : Scope := { kind := .function, names := [(PySem.Str.ofString "self", .local), (PySem.Str.ofString "many", .local)], isGenerator := false, isCoroutine := false, more := mo }
/-- an error class at C, called nm in the text, over Exception by own classes; its __init__ at fI -/
structure Is (K : Frag) (mg : Str → Option Value) (nm : Str) (C fI : Addr) : Prop where
  gC : mg nm = some (.ref C)
  ei : excInitIn K C ErrX.tailE "Exception.__new__" = true
  ov : excOver K C ErrX.tailE = true
  sa : findIn K (.ref C) "__setattr__" = some (some (.builtin "object.__setattr__"))
  ga : findIn K (.ref C) "__getattribute__" = some (some (.builtin "BaseException.__getattribute__"))
  gg : findIn K (.ref C) "__getattr__" = some none
  noN : findIn K (.ref C) "many" = some none
  iC : findIn K (.ref C) "__init__" = some (some (.ref fI))
  tC : typeIn K (.ref fI) = some (.type "function")
  kC : keepIn K (.ref C) = true
  exC : subIn K (.ref C) (.type "BaseException") = some true
  tyC : typeIn K (.ref C) = some (.type "type")
  hdC : hasDictIn K C = true
  fn : ∃ (qn : Str) (mo : List (Str × Const)) (oc : Value) (od : Option Addr) (doc pm : Value) (an : Option Addr) (cdv ct : Value) (osl : Array (Option Value)) (p1 p2 q1 q2 q3 q4 : Pos),
    K.lookup fI = some ⟨oc, od, .func (fnOf "__init__" qn (iA p1 p2) (iB q1 q2 q3 q4) (iS mo) .none .none doc pm an cdv ct), osl⟩ ∧ codeIn K cdv qn = true
/-- a made error: its own dict d holds the field -/
structure Made (h h' : Heap) (e C d : Addr) (v : Value) : Prop where
  keep : ∀ b o, h.get? b = some o → h'.get? b = some o
  new : h.objs.size ≤ e
  obj : ∃ oe vs, h'.get? e = some oe ∧ oe.cls = .ref C ∧ oe.dict = some d ∧ oe.data = .fields vs ∧ vs[1]? = some .none
  dbig : h.objs.size ≤ d
  dne : d ≠ e
  ns : h'.Ns1 d (fun y => if y = "many" then some v else none)
section
variable {prog : Program} {w : World} {A : Around} {E : Value → Shared → Prop} {R : Result → Shared → Prop} {s : Shared} {K : Frag} {mg : Str → Option Value} {nm : Str} {C fI : Addr}
theorem init (T : Is K mg nm C fI) {x t0 : Addr} {v : Value} (X : K.In s.heap) (hlim : s.heap.NoLimit) (hx : s.heap.get? x = some (excO C t0)) (hnx : K.lookup x = none) (hroom : A.depth < recursionLimit)
    (hq : ∀ h' tk dx, ErrX.InitEnd "many" s.heap h' x C dx t0 v → R (.ok (.ret .none)) { s with heap := h', toks := tk }) :
    codeAny (model prog w) A (.call (.ref fI) ⟨[.ref x, v], []⟩) R s := by
  obtain ⟨qn, mo, oc, od, doc, pm, an, cdv, ct, osl, p1, p2, q1, q2, q3, q4, ho, hcd⟩ := T.fn
  refine Att.call_fn (binds := [("self", .ref x), ("many", v)]) X hlim ho hcd hroom (BindsTo.of_eq (by first | rfl | with_unfolding_all rfl)) (by first | rfl | decide | with_unfolding_all rfl) (fun s₁ IC => ?_) rfl rfl rfl
  obtain ⟨h₁, tk₁, rfl⟩ := IC.toInCall.same
  have k : ∀ b o, s.heap.get? b = some o → h₁.get? b = some o := IC.toInCall.keep
  have hn := IC.toInCall.ns
  have X₁ : K.In h₁ := X.keeps k
  have hx₁ := k _ _ hx
  show wpAny _ _ (execs _ _) _ _ _
  refine wpAny_execs_cons (plainObj_wpAny_Assign_Attribute ?_)
  refine ErrX.ldC (v := v) hn (by first | rfl | with_unfolding_all rfl | kernel_rfl) (ErrX.ldC (v := .ref x) hn (by first | rfl | with_unfolding_all rfl | kernel_rfl) ?_)
  refine set_plain X₁ (ox := excO C t0) (od := none) ⟨hx₁, rfl, rfl, trivial⟩ T.sa ?_
  refine ErrX.store X₁ hx₁ T.ov T.hdC T.noN (fun h₃ tk₃ dx k₃ dn dne hx₃ hn₃ => ?_)
  show wpAny _ _ (execs _ _) _ _ _
  have z : s.heap.objs.size < h₁.objs.size := hn.lt
  exact wpAny_execs_nil (hq h₃ tk₃ dx ⟨fun b o hb e => k₃ b o hb (k b o e), hx₃, Nat.le_of_lt (Nat.lt_of_lt_of_le z dn), dne, hn₃⟩)
theorem made (T : Is K mg nm C fI) {v : Value} (X : K.In s.heap) (hlim : s.heap.NoLimit) (hroom : A.depth + 1 < recursionLimit)
    (hq : ∀ h' tk e d, Made s.heap h' e C d v → R (.ok (.ret (.ref e))) { s with heap := h', toks := tk }) :
    codeAny (model prog w) A (.call (.ref C) ⟨[v], []⟩) R s := by
  obtain ⟨nm', N, q, bs, bm, hdct, sn, sub, ab, col, dd, k0, k1, k2, k3, k5, hC, hbm⟩ := excInit_of X T.ei
  obtain ⟨hp, g, dr, tk, os⟩ := s
  have k : ∀ b o, hp.get? b = some o → ((hp.push (kdv_tup [v])).push (excO C hp.objs.size)).get? b = some o := fun b o e => Heap.get?_push_of_some _ (Heap.get?_push_of_some _ e)
  have hget : ((hp.push (kdv_tup [v])).push (excO C hp.objs.size)).get? (hp.objs.size + 1) = some (excO C hp.objs.size) := by heap_get
  have hnx : K.lookup (hp.objs.size + 1) = none := by
    cases e : K.lookup (hp.objs.size + 1) with
    | none => rfl
    | some o =>
      have z : hp.get? (hp.objs.size + 1) = some o := X _ _ e
      exact absurd (Nat.lt_of_succ_lt (Heap.lt_size z)) (Nat.lt_irrefl _)
  refine call_own F.excBase_Exception hbm hC (looks_findIn X T.iC) (fun self => bind_fn X self T.tC) (ErrX.one_size v) ?_
  refine init (s := ⟨(hp.push (kdv_tup [v])).push (excO C hp.objs.size), g, dr, tk, os⟩) T (X.keeps k) (hlim.keeps k) hget hnx ?_ fun h' tk' dx ⟨k', hx, dn, dne, hns⟩ => ?_
  · show A.depth + 1 < recursionLimit
    exact hroom
  · have old : ∀ b o, hp.get? b = some o → h'.get? b = some o := fun b o e => k' b o (Nat.ne_of_lt (Nat.lt_succ_of_lt (Heap.lt_size e))) (k b o e)
    have z : hp.objs.size + 1 + 1 ≤ dx := by
      first
        | (simpa only [Heap.size_push] using dn)
        | exact dn
        | (have q := dn; rw [Heap.size_push, Heap.size_push] at q; exact q)
    exact ⟨rfl, hq h' tk' (hp.objs.size + 1) dx ⟨old, Nat.le_succ _, ⟨_, _, hx, rfl, rfl, rfl, rfl⟩, Nat.le_trans (Nat.le_trans (Nat.le_succ _) (Nat.le_succ _)) z, dne, hns⟩⟩
end
end ErrMany
end PySem
namespace L2
open PySem PySem.Spec PyProof.Rows
theorem relO_many {v : V} {v' : Value} (r : RelV v v') (f : Str) : RelO (List.lookup f [(("many" : Str), v)]) (if f = "many" then some v' else none) := by
  by_cases hw : f = "many"
  · subst hw
    rw [if_pos rfl]
    have q : List.lookup ("many" : Str) [(("many" : Str), v)] = some v := by simp [List.lookup]
    rw [q]
    exact r
  · rw [if_neg hw]
    have qw : (f == ("many" : Str)) = false := by simpa using hw
    have q2 : List.lookup f [(("many" : Str), v)] = none := by simp [List.lookup, qw]
    rw [q2]
    trivial
section
variable {X : Cx} {C fI : Addr} {nm : Str}
/-- nm(e) -/
def tMkMany (C : Addr) (ta : TA) : St → Hp → XK → Prop := fun σ H Q => ta σ H fun vs H1 => ∃ v, vs = [v] ∧ ∀ d, H1 d = none → Q (.ref C) (some d) (upd H1 d (.xd [(("many" : Str), v)]))
theorem pmk_many {a : Expr} {ta : TA} {p pos : Pos} {k : Nat} (T : PySem.ErrMany.Is X.K X.mg nm C fI) (hr : Room k X.A) (ha : PA X [a] ta) (hg : Gl X nm := by rfl) (hdb : (nm == ("__debug__" : Str)) = false := by decide)
    (he : starEach (a :: []) X.env = (false, eval a X.env) :: starEach [] X.env := by rfl) (hpl : (backTo pos (starEach [] X.env)).any (·.1) = false := by rfl) :
    PMk X (.Call (.Name nm p) [a] [] pos) (tMkMany C ta) := by
  intro pins s σ H Q I h
  refine wpAny_Call_Name_kw (ld_glob I hg T.gC ?_ hdb)
  refine PySem.W.callWith_K (h₀ := X.base) I.ok.mod.kin T.kC (thn (ha.run pos pins s σ H _ I h) fun us s1 hh => ?_) he hpl
  obtain ⟨vs, H1, I1, r1, v, ev, q1⟩ := hh
  subst ev
  refine ⟨I1.kIn, ?_⟩
  cases r1 with
  | cons rv rn =>
    rename_i v' us'
    cases rn
    show wpAny _ _ (call (.ref C) [v']) _ _ _
    have hlim := I1.nolimit
    obtain ⟨hp, g, dr, tk, os⟩ := s1
    refine wpAny_call (PySem.ErrMany.made T I1.kIn hlim (by have := hr.dp; omega) fun h' tk' e d M => ?_)
    show MkP X pins σ Q (.ref e) ⟨h', g, dr, tk', os⟩
    obtain ⟨oe, fv, hoe, hc, hd, hdat, h1⟩ := M.obj
    have hns := M.ns
    obtain ⟨G', g1, g2⟩ := restrict h' fun b => decide (b ≠ e)
    have gk : ∀ b, b ≠ e → G'.get? b = h'.get? b := fun b hb => g1 b (decide_eq_true hb)
    have ge : G'.get? e = none := g2 e (by simp)
    have old : ∀ b o, hp.get? b = some o → G'.get? b = some o := fun b o q => (gk b (Nat.ne_of_lt (Nat.lt_of_lt_of_le (Heap.lt_size q) M.new))).trans (M.keep b o q)
    have ob : ObjOk X.prog X.w (upd H1 d (.xd [(("many" : Str), v)])) G' d (.xd [(("many" : Str), v)]) :=
      ⟨_, hns.at (fun o q => (gk d M.dne).trans q), fun f => relO_many rv f⟩
    have J : Inv X pins σ (upd H1 d (.xd [(("many" : Str), v)])) ⟨G', g, dr, tk', os⟩ := I1.laid (t' := tk') old M.dbig ob
    refine ⟨e, oe, fv, ⟨G', g, dr, tk', os⟩, _, .ref C, some d, rfl, J, fun b o q => ?_, ge, hoe, ⟨hc, hd⟩, hdat, h1, ?_, rfl, I1.bare, raises_own T.exC T.tyC, q1 d (I1.hok.fresh M.dbig)⟩
    · by_cases hb : b = e
      · have q' : G'.get? b = some o := q
        rw [hb, ge] at q'; cases q'
      · exact (gk b hb).symm.trans q
    · rw [upd_ne (Ne.symm M.dne)]
      exact I1.hok.fresh M.new
/-- raise nm(e) -/
def tRaiseMany (C : Addr) (W : WX) (ta : TA) : TS := fun _ σ H => tMkMany C ta σ H fun cls d H' => W cls d σ H'
theorem ps_raise_many {a : Expr} {ta : TA} {W : WX} {p pos pos2 : Pos} {k : Nat} (hc : X.calm = true) (T : PySem.ErrMany.Is X.K X.mg nm C fI) (hr : Room k X.A) (tk : Takes X W) (ha : PA X [a] ta) (hg : Gl X nm := by rfl) (hdb : (nm == ("__debug__" : Str)) = false := by decide)
    (he : starEach (a :: []) X.env = (false, eval a X.env) :: starEach [] X.env := by rfl) (hpl : (backTo pos (starEach [] X.env)).any (·.1) = false := by rfl) :
    PS X (.Raise (some (.Call (.Name nm p) [a] [] pos)) none pos2) (tRaiseMany C W ta) := ps_raise hc tk (pmk_many T hr ha hg hdb he hpl)
/-- e.many, e the error that the suite holds (at a; its class cls, its dict d) -/
def tByMany (C : Addr) (a : Addr) (cls : Value) (d : Option Addr) (te : TE) : TE := fun σ H Q => te σ H fun x H1 => x = .ref a ∧ cls = .ref C ∧ ∃ (dd : Addr) (v : V), d = some dd ∧ H1 dd = some (.xd [(("many" : Str), v)]) ∧ Q v H1
theorem pe_by_many {a : Addr} {oe : Obj} {cls : Value} {d : Option Addr} {pn : List (Addr × Obj)} {e : Expr} {te : TE} {pos : Pos} (T : PySem.ErrMany.Is X.K X.mg nm C fI) (hz : Zc cls d oe) (hf : ∃ vs, oe.data = .fields vs) (he : PE (X.suite a ((a, oe) :: pn)) e te)
    (hb : attributeBase e "many" X.env (eval e X.env) = eval e X.env := by rfl) :
    PE (X.suite a ((a, oe) :: pn)) (.Attribute e "many" pos) (tByMany C a cls d te) := by
  refine ⟨fun pins s σ H Q I h => ?_⟩
  refine attr_of hb (thn (he.run pins s σ H _ I h) fun u s1 hh => ?_)
  obtain ⟨x, H1, I1, rx, ex, ec, dd, v, ed, ea, q⟩ := hh
  subst ex
  obtain rfl : u = Value.ref a := rx
  subst ec
  subst ed
  obtain ⟨ha, _⟩ := I1.pin (a, oe) (List.mem_append_left _ List.mem_cons_self)
  obtain ⟨vs, hd⟩ := hf
  have hx : ObjOk X.prog X.w H1 s1.heap dd (.xd [(("many" : Str), v)]) := I1.hok dd _ ea
  obtain ⟨mA, hns, hr⟩ := hx
  obtain ⟨od, ho, hl⟩ := lookIn_ns hns
  have l : List.lookup ("many" : Str) [(("many" : Str), v)] = some v := by simp [List.lookup]
  obtain ⟨u, hu, ru⟩ := RelO.some_of (v := v) (o := mA "many") (by rw [← l]; exact hr "many")
  have J : PySem.W.InstAt s1.heap a oe C (some od) := ⟨ha, hz.1, by unfold PySem.W.notCls; rw [hd] <;> rfl, by rw [hz.2]; exact ho⟩
  exact HandSPX.exc_get I1.kIn J T.ga T.gg T.exC (PySem.W.findObj_own T.hdC T.noN rfl (by rw [hl, hu])) (handed_of ru) ⟨v, H1, I1.tok _, ru, q⟩
end
end L2

set_option Elab.async false
set_option linter.all false
set_option maxRecDepth 100000
set_option maxHeartbeats 2000000
/-! try with several clauses, each with a name or without one. -/
namespace L2
open PySem PySem.Spec PyProof.Rows
abbrev Suite := Addr → Value → Option Addr → TS
/-- a clause: its class, the slot of its name (where it has one), its suite -/
structure Cls1 where
  cls : Value
  slot : Option Nat
  suite : Suite
/-- behind a suite its name is empty -/
def slotEnds (D : Ends) (i : Nat) : Ends := { nx := fun σ H => D.nx (σ.set i none) H, rt := D.rt, bk := fun σ H => D.bk (σ.set i none) H, ct := fun σ H => D.ct (σ.set i none) H }
def Cls1.goes (x : Cls1) (a : Addr) (cls : Value) (d : Option Addr) (D : Ends) (σ : St) (H : Hp) : Prop :=
  match x.slot with
  | some i => x.suite a cls d (slotEnds D i) (σ.set i (some (.ref a))) H
  | none => x.suite a cls d D σ H
/-- what the clauses, from the first on, wish of what is raised -/
def wMix (K : PySem.W.Frag) (W0 : WX) (D : Ends) : List Cls1 → WX
  | [] => W0
  | x :: r => fun cls d σ H => ∃ b, PySem.W.exmOne K cls x.cls = some b ∧ (b = true → ∀ a, H a = none → x.goes a cls d D σ H) ∧ (b = false → wMix K W0 D r cls d σ H)
inductive MixOk (X : Cx) : List ExceptHandler → List Cls1 → Prop
  | nil : MixOk X [] []
  | bare {x : Str} {c : Value} {ts : Suite} {b₀ : Stmt} {suite : List Stmt} {np p : Pos} {hds : List ExceptHandler} {l : List Cls1} (hc : Names X x c)
      (hsu : ∀ (a : Addr) (oe : Obj) (cls : Value) (d : Option Addr) (pn : List (Addr × Obj)), Zc cls d oe → (∃ vs, oe.data = .fields vs) → PSs (X.suite a ((a, oe) :: pn)) (b₀ :: suite) (ts a cls d)) (r : MixOk X hds l) :
      MixOk X (.ExceptHandler (some (.Name x np)) none (b₀ :: suite) p :: hds) (⟨c, none, ts⟩ :: l)
  | named {x n : Str} {i : Nat} {c : Value} {ts : Suite} {b₀ : Stmt} {suite : List Stmt} {np p : Pos} {hds : List ExceptHandler} {l : List Cls1} (hi : X.N[i]? = some n) (hln : X.env.kindOf n = some .local) (hc : Names X x c)
      (hsu : ∀ (a : Addr) (oe : Obj) (cls : Value) (d : Option Addr) (pn : List (Addr × Obj)), Zc cls d oe → (∃ vs, oe.data = .fields vs) → PSs (X.suite a ((a, oe) :: pn)) (b₀ :: suite) (ts a cls d)) (r : MixOk X hds l) :
      MixOk X (.ExceptHandler (some (.Name x np)) (some n) (b₀ :: suite) p :: hds) (⟨c, some i, ts⟩ :: l)
section
variable {X : Cx} {body : List Stmt} {h₀ : ExceptHandler} {hds : List ExceptHandler} {l : List Cls1} {pos : Pos} {tb : WX → TS} {W0 : WX}
theorem ps_try_mix (hs : X.stack = X.env :: X.outer) (hf : X.env.frame = some X.env.locals) (hN : X.N.Nodup) (tk : Takes X W0)
    (hb : ∀ (W : WX) (pn : List (Addr × Obj)) (xe : Value → Shared → Prop), Takes (X.tr pn xe) W → PassesOwn (model X.prog X.w) X.A X.env xe → PSs (X.tr pn xe) body (tb W))
    (hh : MixOk X (h₀ :: hds) l) : PS X (.Try body (h₀ :: hds) [] [] pos) (fun D σ H => tb (wMix X.K W0 D l) D σ H) := by
  refine ⟨fun pins s σ H D I h => ?_⟩
  have ok := I.ok
  have fr : X.A.frames = some (X.env :: X.outer) := by rw [ok.frames, hs]
  refine wpAny_Try_except ?_
  refine wpAny_mono ((hb (wMix X.K W0 D l) (X.pn ++ pins) (fun e s₁ => wpAny (model X.prog X.w) X.A (noteFrame e X.env) (fun _ s₂ => wpAny (model X.prog X.w) X.A (setFlight e none) (fun _ s₃ =>
    wpAny (model X.prog X.w) X.A (handleBy e X.env (h₀ :: hds)) (SP X pins D) X.xe s₃) X.xe s₂) X.xe s₁) (fun u s' xx => ?_) PassesOwn.looking).run [] s σ H D (I.toTry _) h) (fun f s1 hsp => ?_) (fun e s1 he => he)
  · obtain ⟨a, B, sI, pins', σ', H', cls, d, rfl, J', nb, up, sky, na, os, ag, w⟩ := xx
    have J : Inv X pins σ' H' sI := J'.ofTry ok
    have sk : Sky B (X.env :: X.outer) a (Zc cls d) X.env.locals s'.heap := by rw [← hs]; exact sky
    show wpAny _ X.A (noteFrame (.ref a) X.env) _ _ _
    refine Sky.land Zc.steady fr hf sk fun h3 fl3 up3 => ?_
    have J3 : Inv X pins σ' H' { s' with heap := h3 } := J.landed nb fl3.1 (up.trans up3) os ag
    obtain ⟨oe3, vs3, he3, hz3, hd3⟩ := fl3.there
    have out : a ∉ frs (X.env :: X.outer) := fun hm => by
      obtain ⟨_, o', e', hnf⟩ := fl3.2.2.1.mem hm
      rw [he3] at e'
      cases e'
      exact hnf _ hd3
    have nL : a ≠ X.env.locals := fun z => out (List.mem_filterMap.mpr ⟨X.env, List.mem_cons_self, by rw [hf, z]⟩)
    have nF : a ∉ X.fs := fun hm => by
      obtain ⟨e, he, q⟩ := List.mem_filterMap.mp hm
      exact out (List.mem_filterMap.mpr ⟨e, List.mem_cons_of_mem _ he, q⟩)
    have S3 := J3.suite he3 hd3 na nL nF
    have LT : PySem.W.Looks (model X.prog X.w) h3 (typeOf (.ref a)) cls := fun A Q E s k q => wpAny_typeOf_ref (k _ _ he3) (by rw [hz3.1]; exact q)
    have ask : ∀ {x : Str} {np : Pos} {c : Value} {Q : Value → Shared → Prop} {E : Value → Shared → Prop}, Names X x c → Q c { s' with heap := h3 } →
        wpAny (model X.prog X.w) (X.A.mark (some (.ref a))) (eval (.Name x np) X.env) Q E { s' with heap := h3 } := fun {x np c Q E} hc q => by
      obtain ⟨hg, hdbg, hm | ⟨hm, hv, hnn⟩⟩ := hc
      · exact ld_glob (X := X.suite a ((a, oe3) :: (X.pn ++ pins))) S3 hg hm q hdbg
      · exact ld_blt (X := X.suite a ((a, oe3) :: (X.pn ++ pins))) S3 hg hm hv q hnn hdbg
    have go : ∀ {hds' : List ExceptHandler} {l' : List Cls1}, MixOk X hds' l' → wMix X.K W0 D l' cls d σ' H' →
        wpAny (model X.prog X.w) X.A (handleBy (.ref a) X.env hds') (SP X pins D) X.xe { s' with heap := h3 } := by
      intro hds' l' hk
      induction hk with
      | nil =>
        intro w
        refine wpAny_handleBy_nil ?_
        obtain ⟨k1, k2, k3, oe, vs, T, oT, ts', he, hz, hd, h1, hr⟩ := id fl3
        unfold PySem.passOn
        refine wpAny_bind (wpAny_field he hd h1 ?_)
        rw [if_neg (show ¬ ((Value.ref T == Value.none) = true) from by simp)]
        have fin : wpAny (model X.prog X.w) X.A (setFlight (.ref a) X.env.frame) (fun _ s4 => wpAny (model X.prog X.w) X.A (throw (.ref a) : Sem Flow) (SP X pins D) X.xe s4) X.xe { s' with heap := h3 } := by
          rw [hf]
          refine HandSPX.setFlight_upZ fl3 fun h4 hh4 up4 => wpAny_throw (tk _ _ ?_)
          exact ⟨a, B, sI, pins, σ', H', cls, d, rfl, J, nb, (up.trans up3).trans up4, .inr (.inr (by rw [hs]; exact hh4)), na, os, ag, w⟩
        first
          | exact wpAny_bind (wpAny_pure (wpAny_bind fin))
          | exact wpAny_bind fin
      | @bare x c ts b₀ suite np p hds2 l2 hc hsu r ih =>
        intro w
        obtain ⟨b, hb1, yes, no⟩ := w
        refine wpAny_handleBy_cons (codeAny_handlers_test ?_) (by intro q; cases q)
        refine ask hc ((PySem.W.exm_one (M := model X.prog X.w) (J3.kIn) LT hb1).here ?_)
        cases b with
        | true =>
          refine codeAny_handlers_suite ?_
          refine HandSPX.lands_againZ fl3 fun h4 fl4 up4 => ?_
          have J4 : Inv X pins σ' H' { s' with heap := h4 } := J.landed nb fl4.1 ((up.trans up3).trans up4) os ag
          obtain ⟨oe4, vs4, he4, hz4, hd4⟩ := fl4.there
          have S4 := J4.suite he4 hd4 na nL nF
          refine wpAny_mono ((hsu a oe4 cls d (X.pn ++ pins) hz4 ⟨_, hd4⟩).run [] _ _ H' _ S4 (yes rfl a na)) (fun f s6 hsp => ?_) (fun _ _ z => False.elim z)
          cases f with
          | ret u =>
            obtain ⟨v6, σ6, H6, S6, r6, q6⟩ := hsp
            exact ⟨_, _, _, S6.unsuite ok, r6, q6⟩
          | next => obtain ⟨σ6, H6, S6, q6⟩ := hsp; exact ⟨_, _, S6.unsuite ok, q6⟩
          | brk => obtain ⟨σ6, H6, S6, q6⟩ := hsp; exact ⟨_, _, S6.unsuite ok, q6⟩
          | cont => obtain ⟨σ6, H6, S6, q6⟩ := hsp; exact ⟨_, _, S6.unsuite ok, q6⟩
        | false =>
          show wpAny _ X.A (handleBy (.ref a) X.env hds2) _ _ _
          exact ih (no rfl)
      | @named x n i c ts b₀ suite np p hds2 l2 hi hln hc hsu r ih =>
        intro w
        obtain ⟨b, hb1, yes, no⟩ := w
        refine wpAny_handleBy_cons (codeAny_handlers_test ?_) (by intro q; cases q)
        refine ask hc ((PySem.W.exm_one (M := model X.prog X.w) (J3.kIn) LT hb1).here ?_)
        cases b with
        | true =>
          refine codeAny_handlers_suite_as ?_
          refine HandSPX.lands_againZ fl3 fun h4 fl4 up4 => ?_
          have J4 : Inv X pins σ' H' { s' with heap := h4 } := J.landed nb fl4.1 ((up.trans up3).trans up4) os ag
          obtain ⟨oe4, vs4, he4, hz4, hd4⟩ := fl4.there
          have S4 := J4.suite he4 hd4 na nL nF
          refine store_ok (X := X.suite a ((a, oe4) :: (X.pn ++ pins))) (v := .ref a) S4 hN hi (.inl hln) rfl (fun s5 S5 => ?_) (.inr hln)
          refine wpAny_mono ((hsu a oe4 cls d (X.pn ++ pins) hz4 ⟨_, hd4⟩).run [] s5 _ H' _ S5 (yes rfl a na)) (fun f s6 hsp => ?_) (fun _ _ z => False.elim z)
          have shut : ∀ {σ6 : St} {H6 : Hp} {Q : Shared → Prop}, Inv (X.suite a ((a, oe4) :: (X.pn ++ pins))) [] σ6 H6 s6 → (∀ s7, Inv X pins (σ6.set i none) H6 s7 → Q s7) →
              wpAny (model X.prog X.w) X.A (do bindName X.env n .none; unbindBehindTheSuite X.env n p) (fun _ s7 => Q s7) X.xe s6 := fun {σ6 H6 Q} S6 hq => gone_ok (S6.unsuite ok) hN hi hln hq
          cases f with
          | ret u =>
            obtain ⟨v6, σ6, H6, S6, r6, q6⟩ := hsp
            exact shut S6 fun s7 J7 => ⟨_, _, _, J7, r6, q6⟩
          | next => obtain ⟨σ6, H6, S6, q6⟩ := hsp; exact shut S6 fun s7 J7 => ⟨_, _, J7, q6⟩
          | brk => obtain ⟨σ6, H6, S6, q6⟩ := hsp; exact shut S6 fun s7 J7 => ⟨_, _, J7, q6⟩
          | cont => obtain ⟨σ6, H6, S6, q6⟩ := hsp; exact shut S6 fun s7 J7 => ⟨_, _, J7, q6⟩
        | false =>
          show wpAny _ X.A (handleBy (.ref a) X.env hds2) _ _ _
          exact ih (no rfl)
    exact go hh w
  · cases f with
    | next => obtain ⟨σ', H', J', q⟩ := hsp; exact wpAny_execs_nil ⟨σ', H', J'.ofTry ok, q⟩
    | brk => obtain ⟨σ', H', J', q⟩ := hsp; exact ⟨σ', H', J'.ofTry ok, q⟩
    | cont => obtain ⟨σ', H', J', q⟩ := hsp; exact ⟨σ', H', J'.ofTry ok, q⟩
    | ret u => obtain ⟨v, σ', H', J', r, q⟩ := hsp; exact ⟨v, σ', H', J'.ofTry ok, r, q⟩
end
end L2

set_option Elab.async false
set_option linter.all false
set_option maxRecDepth 100000
set_option maxHeartbeats 2000000
/-! An error made by a keyword, C(fl = v), as a value. -/
namespace PySem
namespace ErrX
open PySem.W PySem.Calls PyProof.Rows PySem.HandSPX
section
variable {M : Model} {prog : Program} {w : World} {A : Around} {E : Value → Shared → Prop} {R : Result → Shared → Prop} {h : Heap} {g : Array GenState} {d : Drawn} {t : Nat} {os : OsState}
variable {nm q : Str} {C N : Addr} {bs bm bmB : List Value} {hdct : Bool} {sn : List Str} {sub : List Value} {ab : Bool} {col : Option Bool} {dd : Option Addr} {k0 k1 k2 k3 k5 : Option Value} {B newId initId : String} {fl : Str} {v : Value}
theorem kw_check (F : ExcBaseFacts B newId initId bmB) (hT : ∀ X : String, bm.contains (.type X) = bmB.contains (.type X)) {Q : Unit → Shared → Prop}
    (hC : h.get? C = some (excClassObj nm q C N bs bm hdct sn sub ab col dd k0 k1 k2 k3 k5 newId)) (hq : Q () ⟨h, g, d, t, os⟩) : wpAny M A (checkBuiltinCall newId ⟨[.ref C], [(fl, v)]⟩) Q E ⟨h, g, d, t, os⟩ := by
  have inB : (Value.ref C :: bm).contains (.type B) = true := by rw [List.contains_cons, hT, F.hasB, Bool.or_true]
  have st := F.noStar
  simp only [checkBuiltinCall, F.newKind, F.newSplit, F.newRow]
  repeat (first | refine wpAny_loadPart_at hC ?_ | (refine wpAny_isSubtype_exc hC ?_; rw [inB]) | refine wpAny_staticBase_exc hC ?_ | refine wpAny_madeBy_exc hC ?_ | simp only [bne_self_eq_false, Bool.false_eq_true, if_false] | wp_step)
  exact hq
theorem kw_new (F : ExcBaseFacts B newId initId bmB) (hT : ∀ X : String, bm.contains (.type X) = bmB.contains (.type X))
    (hC : h.get? C = some (excClassObj nm q C N bs bm hdct sn sub ab col dd k0 k1 k2 k3 k5 newId))
    (hq : R (.ok (.ret (.ref (h.objs.size + 1)))) ⟨(h.push (kdv_tup [])).push (excO C h.objs.size), g, d, t, os⟩) :
    codeAny (model prog w) A (.builtin newId ⟨[.ref C], [(fl, v)]⟩) R ⟨h, g, d, t, os⟩ := by
  have hends := F.ends
  have inB : (Value.ref C :: bm).contains (.type B) = true := by rw [List.contains_cons, hT, F.hasB, Bool.or_true]
  have inA : (Value.ref C :: bm).contains (.type "AttributeError") = false := by rw [List.contains_cons, hT, F.noAttr]; rfl
  have inN : (Value.ref C :: bm).contains (.type "NameError") = false := by rw [List.contains_cons, hT, F.noName]; rfl
  have z : ([] : List Value).length ≤ sizeLine := Nat.zero_le _
  refine codeAny_builtinAt F.entry ?_
  unfold Builtin.«BaseException.__new__»
  refine wpAt_bind ?_
  show wpAt _ _ _ (stack >>= _) _ _ _
  refine wpAt_bind (wpAt_stack fun p below => wpAt_of_wpAny ?_)
  wp_walk
  refine wpAt_of_wpAny ?_
  rw [F.owner]
  repeat (first | with_reducible refine wpAny_madeHere_exc F.canon hC ?_ | with_reducible refine wpAny_loadPart_at hC ?_ | (with_reducible refine wpAny_isSubtype_exc hC ?_; first | rw [inB] | rw [inA] | rw [inN]) | wp_step)
  show R _ _
  rw [Heap.size_push]
  exact hq
theorem kw_type (F : ExcBaseFacts B newId initId bmB) (hT : ∀ X : String, bm.contains (.type X) = bmB.contains (.type X)) {fI : Addr} {Q : Fin → Shared → Prop}
    (hC : h.get? C = some (excClassObj nm q C N bs bm hdct sn sub ab col dd k0 k1 k2 k3 k5 newId))
    (hi : Looks (model prog w) h (typeLookup (.ref C) "__init__") (some (.ref fI))) (hb : ∀ self, Looks (model prog w) h (bindSpecial (.ref fI) self) (.ref fI, [self]))
    (hq : codeAny (model prog w) A (.call (.ref fI) ⟨[.ref (h.objs.size + 1)], [(fl, v)]⟩)
      (fun r s' => match r with | .ok (.ret u) => u = .none ∧ Q (.done (.ret (.ref (h.objs.size + 1)))) s' | .ok _ => False | .error e => E e s')
      ⟨(h.push (kdv_tup [])).push (excO C h.objs.size), g, d, t, os⟩) :
    wpAny (model prog w) A (Builtin.«type.__call__» ⟨[.ref C], [(fl, v)]⟩) Q E ⟨h, g, d, t, os⟩ := by
  repeat (first | with_reducible refine wpAny_loadPart_at hC ?_ | with_reducible refine wpAny_madeBy_exc hC ?_ | wp_step)
  refine codeAny_call_builtin_code (Code.quiet_builtin _ F.quiet) (kw_check F hT hC ?_)
  refine kw_new F hT hC ?_
  show wpAny _ _ _ _ _ _
  have k : ∀ b o, h.get? b = some o → ((h.push (kdv_tup [])).push (excO C h.objs.size)).get? b = some o := fun b o e => Heap.get?_push_of_some _ (Heap.get?_push_of_some _ e)
  have hC₁ := k _ _ hC
  have hget : ((h.push (kdv_tup [])).push (excO C h.objs.size)).get? (h.objs.size + 1) = some (excO C h.objs.size) := by heap_get
  have own : (Value.ref C :: bm).contains (.ref C) = true := by simp
  have i1 := hi.keeps k
  have b1 := (hb (.ref (h.objs.size + 1))).keeps k
  unfold isInstance
  repeat (first | with_reducible refine wpAny_loadPart_at hget ?_ | (with_reducible refine wpAny_isSubtype_exc hC₁ ?_; rw [own]) | wp_step)
  show wpAny _ _ (typeLookup (.ref C) _) _ _ _
  refine i1.at ?_
  refine wpAny_holding (wpAny_bind (b1.at ?_))
  refine wpAny_bind (wpAny_call (codeAny_mono hq fun r s' z => ?_))
  rcases r with e | (u | _ | _ | _) <;> first | exact z | exact z.elim | skip
  obtain ⟨rfl, z⟩ := z
  first
    | exact wpAny_pure (wpAny_pure z)
    | (wp_walk; exact z)
theorem kw_call (F : ExcBaseFacts B newId initId bmB) (hT : ∀ X : String, bm.contains (.type X) = bmB.contains (.type X)) {fI : Addr}
    (hC : h.get? C = some (excClassObj nm q C N bs bm hdct sn sub ab col dd k0 k1 k2 k3 k5 newId))
    (hi : Looks (model prog w) h (typeLookup (.ref C) "__init__") (some (.ref fI))) (hb : ∀ self, Looks (model prog w) h (bindSpecial (.ref fI) self) (.ref fI, [self]))
    (hq : codeAny (model prog w) (A.under (.builtin "type.__call__" ⟨[.ref C], [(fl, v)]⟩)) (.call (.ref fI) ⟨[.ref (h.objs.size + 1)], [(fl, v)]⟩) (InitBack (h.objs.size + 1) R)
      ⟨(h.push (kdv_tup [])).push (excO C h.objs.size), g, d, t, os⟩) :
    codeAny (model prog w) A (.call (.ref C) ⟨[], [(fl, v)]⟩) R ⟨h, g, d, t, os⟩ := by
  have f1 := tc_lookup
  have f2 := tc_bind (.ref C)
  have ty : (⟨h, g, d, t, os⟩ : Shared).TypeIs (.ref C) "type" := ⟨_, hC, rfl⟩
  refine codeAny_of_tree ?_
  show wpAny _ _ (callAny (.ref C) _) _ _ _
  repeat (any_goals (first | assumption | with_reducible refine wpAny_loadPart_at hC ?_ | wp_step))
  refine ⟨rfl, ?_⟩
  refine codeAny_call_builtin_at (Code.quiet_builtin _ (by decide +kernel)) entry_typeCall (wpAny_check_type_call_sub hC (kw_type F hT hC hi hb ?_))
  refine codeAny_mono hq fun r s' z => ?_
  rcases r with e | (u | _ | _ | _) <;> exact z
end
end ErrX
end PySem
namespace PySem
namespace ErrAt
open PySem.W PySem.Calls PyProof.Rows PySem.HandSPX
section
variable {prog : Program} {w : World} {A : Around} {E : Value → Shared → Prop} {R : Result → Shared → Prop} {s : Shared} {K : Frag} {mg : Str → Option Value} {nm : Str} {C fI : Addr}
theorem initK (T : Is K mg nm C fI) {x t0 : Addr} {v : Value} (X : K.In s.heap) (hlim : s.heap.NoLimit) (hx : s.heap.get? x = some (excO C t0)) (hroom : A.depth < recursionLimit)
    (hq : ∀ h' tk dx, ErrX.InitEnd "at" s.heap h' x C dx t0 v → R (.ok (.ret .none)) { s with heap := h', toks := tk }) :
    codeAny (model prog w) A (.call (.ref fI) ⟨[.ref x], [("at", v)]⟩) R s := by
  obtain ⟨qn, mo, oc, od, doc, pm, an, cdv, ct, osl, p1, p2, q1, q2, q3, q4, ho, hcd⟩ := T.fn
  refine Att.call_fn (binds := [("self", .ref x), ("at", v)]) X hlim ho hcd hroom (BindsTo.of_eq (by first | rfl | with_unfolding_all rfl)) (by first | rfl | decide | with_unfolding_all rfl) (fun s₁ IC => ?_) rfl rfl rfl
  obtain ⟨h₁, tk₁, rfl⟩ := IC.toInCall.same
  have k : ∀ b o, s.heap.get? b = some o → h₁.get? b = some o := IC.toInCall.keep
  have hn := IC.toInCall.ns
  have X₁ : K.In h₁ := X.keeps k
  have hx₁ := k _ _ hx
  show wpAny _ _ (execs _ _) _ _ _
  refine wpAny_execs_cons (plainObj_wpAny_Assign_Attribute ?_)
  refine ErrX.ldC (v := v) hn (by first | rfl | with_unfolding_all rfl | kernel_rfl) (ErrX.ldC (v := .ref x) hn (by first | rfl | with_unfolding_all rfl | kernel_rfl) ?_)
  refine set_plain X₁ (ox := excO C t0) (od := none) ⟨hx₁, rfl, rfl, trivial⟩ T.sa ?_
  refine ErrX.store X₁ hx₁ T.ov T.hdC T.noN (fun h₃ tk₃ dx k₃ dn dne hx₃ hn₃ => ?_)
  show wpAny _ _ (execs _ _) _ _ _
  have z : s.heap.objs.size < h₁.objs.size := hn.lt
  exact wpAny_execs_nil (hq h₃ tk₃ dx ⟨fun b o hb e => k₃ b o hb (k b o e), hx₃, Nat.le_of_lt (Nat.lt_of_lt_of_le z dn), dne, hn₃⟩)
theorem madeK (T : Is K mg nm C fI) {v : Value} (X : K.In s.heap) (hlim : s.heap.NoLimit) (hroom : A.depth + 1 < recursionLimit)
    (hq : ∀ h' tk e d, Made s.heap h' e C d v → R (.ok (.ret (.ref e))) { s with heap := h', toks := tk }) :
    codeAny (model prog w) A (.call (.ref C) ⟨[], [("at", v)]⟩) R s := by
  obtain ⟨nm', N, q, bs, bm, hdct, sn, sub, ab, col, dd, k0, k1, k2, k3, k5, hC, hbm⟩ := excInit_of X T.ei
  obtain ⟨hp, g, dr, tk, os⟩ := s
  have k : ∀ b o, hp.get? b = some o → ((hp.push (kdv_tup [])).push (excO C hp.objs.size)).get? b = some o := fun b o e => Heap.get?_push_of_some _ (Heap.get?_push_of_some _ e)
  have hget : ((hp.push (kdv_tup [])).push (excO C hp.objs.size)).get? (hp.objs.size + 1) = some (excO C hp.objs.size) := by heap_get
  refine ErrX.kw_call F.excBase_Exception hbm hC (looks_findIn X T.iC) (fun self => bind_fn X self T.tC) ?_
  refine initK (s := ⟨(hp.push (kdv_tup [])).push (excO C hp.objs.size), g, dr, tk, os⟩) T (X.keeps k) (hlim.keeps k) hget ?_ fun h' tk' dx ⟨k', hx, dn, dne, hns⟩ => ?_
  · show A.depth + 1 < recursionLimit
    exact hroom
  · have old : ∀ b o, hp.get? b = some o → h'.get? b = some o := fun b o e => k' b o (Nat.ne_of_lt (Nat.lt_succ_of_lt (Heap.lt_size e))) (k b o e)
    have z : hp.objs.size + 1 + 1 ≤ dx := by
      first
        | (simpa only [Heap.size_push] using dn)
        | exact dn
        | (have q := dn; rw [Heap.size_push, Heap.size_push] at q; exact q)
    exact ⟨rfl, hq h' tk' (hp.objs.size + 1) dx ⟨old, Nat.le_succ _, ⟨_, _, hx, rfl, rfl, rfl, rfl⟩, Nat.le_trans (Nat.le_trans (Nat.le_succ _) (Nat.le_succ _)) z, dne, hns⟩⟩
end
end ErrAt
end PySem
namespace L2
open PySem PySem.Spec PyProof.Rows
section
variable {X : Cx} {C fI : Addr} {nm : Str}
/-- nm(at = a).at: the error made is let go -/
theorem pe_kw_at {a : Expr} {ta : TE} {p kp pos pos2 : Pos} {k : Nat} (T : PySem.ErrAt.Is X.K X.mg nm C fI) (hr : Room k X.A) (ha : PE X a ta) (hg : Gl X nm := by rfl) (hdb : (nm == ("__debug__" : Str)) = false := by decide)
    (hall : (backToKw pos (keywordEach [⟨some "at", a, kp⟩] X.env)).all (·.1.isSome) = true := by rfl) (hks : (backToKw pos (keywordEach [⟨some "at", a, kp⟩] X.env)).filterMap (·.1) = [("at" : Str)] := by rfl)
    (hpl : ((backTo pos (starEach [] X.env)).any (·.1) || (backToKw pos (keywordEach [⟨some "at", a, kp⟩] X.env)).any (·.1.isNone)) = false := by rfl)
    (hb : attributeBase (.Call (.Name nm p) [] [⟨some "at", a, kp⟩] pos) "at" X.env (eval (.Call (.Name nm p) [] [⟨some "at", a, kp⟩] pos) X.env) = eval (.Call (.Name nm p) [] [⟨some "at", a, kp⟩] pos) X.env := by rfl) :
    PE X (.Attribute (.Call (.Name nm p) [] [⟨some "at", a, kp⟩] pos) "at" pos2) ta := by
  refine ⟨fun pins s σ H Q I h => ?_⟩
  refine attr_of hb (wpAny_Call_Name_kw (ld_glob I hg T.gC ?_ hdb))
  refine PySem.W.callWith_KW0 (h₀ := X.base) I.ok.mod.kin T.kC hall ?_ hpl
  have one : tCons ta tNil σ H (fun vs H1 => ∃ v, vs = [v] ∧ Q v H1) := by
    show ta σ H (fun v H1 => tNil σ H1 fun vs H2 => ∃ u, v :: vs = [u] ∧ Q u H2)
    exact cast (congrArg (ta σ H) (funext fun v => funext fun H1 => propext ⟨fun q => ⟨v, rfl, q⟩, fun ⟨u, e, q⟩ => by cases e; exact q⟩)) h
  refine thn ((pk_cons ha pk_nil).run pos pins s σ H _ I one) fun ws s1 ⟨zs, H1, I1, rz, v, ez, q⟩ => ⟨I1.kIn, ?_⟩
  subst ez
  cases rz with
  | @cons _ v' _ us' rv rn =>
    cases rn
    rw [hks]
    show wpAny _ _ (call (.ref C) [] [("at", v')]) _ _ _
    have hlim := I1.nolimit
    obtain ⟨hp, g, dr, tk, os⟩ := s1
    refine wpAny_call (PySem.ErrAt.madeK T I1.kIn hlim (by have := hr.dp; omega) fun h' tk' e d M => ?_)
    show wpAny _ X.A (getAttr (.ref e) "at" true) (EP X pins σ Q) X.xe ⟨h', g, dr, tk', os⟩
    obtain ⟨oe, fv, hoe, hc, hd, hdat, h1⟩ := M.obj
    obtain ⟨od, ho, hl⟩ := lookIn_ns M.ns
    have I2 : Inv X pins σ H1 ⟨h', g, dr, tk', os⟩ := I1.kept (t' := tk') M.keep
    have J : PySem.W.InstAt h' e oe C (some od) := ⟨hoe, hc, by unfold PySem.W.notCls; rw [hdat] <;> rfl, by rw [hd]; exact ho⟩
    exact HandSPX.exc_get I2.kIn J T.ga T.gg T.exC (PySem.W.findObj_own T.hdC T.noN rfl (by rw [hl, if_pos rfl])) (handed_of rv) ⟨v, H1, I2.tok _, rv, q⟩
end
end L2
namespace PySem
namespace ErrWord
open PySem.W PySem.Calls PyProof.Rows PySem.HandSPX
section
variable {prog : Program} {w : World} {A : Around} {E : Value → Shared → Prop} {R : Result → Shared → Prop} {s : Shared} {K : Frag} {mg : Str → Option Value} {nm : Str} {C fI : Addr}
theorem initK (T : Is K mg nm C fI) {x t0 : Addr} {v : Value} (X : K.In s.heap) (hlim : s.heap.NoLimit) (hx : s.heap.get? x = some (excO C t0)) (hroom : A.depth < recursionLimit)
    (hq : ∀ h' tk dx, ErrX.InitEnd "word" s.heap h' x C dx t0 v → R (.ok (.ret .none)) { s with heap := h', toks := tk }) :
    codeAny (model prog w) A (.call (.ref fI) ⟨[.ref x], [("word", v)]⟩) R s := by
  obtain ⟨qn, mo, oc, od, doc, pm, an, cdv, ct, osl, p1, p2, q1, q2, q3, q4, ho, hcd⟩ := T.fn
  refine Att.call_fn (binds := [("self", .ref x), ("word", v)]) X hlim ho hcd hroom (BindsTo.of_eq (by first | rfl | with_unfolding_all rfl)) (by first | rfl | decide | with_unfolding_all rfl) (fun s₁ IC => ?_) rfl rfl rfl
  obtain ⟨h₁, tk₁, rfl⟩ := IC.toInCall.same
  have k : ∀ b o, s.heap.get? b = some o → h₁.get? b = some o := IC.toInCall.keep
  have hn := IC.toInCall.ns
  have X₁ : K.In h₁ := X.keeps k
  have hx₁ := k _ _ hx
  show wpAny _ _ (execs _ _) _ _ _
  refine wpAny_execs_cons (plainObj_wpAny_Assign_Attribute ?_)
  refine ErrX.ldC (v := v) hn (by first | rfl | with_unfolding_all rfl | kernel_rfl) (ErrX.ldC (v := .ref x) hn (by first | rfl | with_unfolding_all rfl | kernel_rfl) ?_)
  refine set_plain X₁ (ox := excO C t0) (od := none) ⟨hx₁, rfl, rfl, trivial⟩ T.sa ?_
  refine ErrX.store X₁ hx₁ T.ov T.hdC T.noN (fun h₃ tk₃ dx k₃ dn dne hx₃ hn₃ => ?_)
  show wpAny _ _ (execs _ _) _ _ _
  have z : s.heap.objs.size < h₁.objs.size := hn.lt
  exact wpAny_execs_nil (hq h₃ tk₃ dx ⟨fun b o hb e => k₃ b o hb (k b o e), hx₃, Nat.le_of_lt (Nat.lt_of_lt_of_le z dn), dne, hn₃⟩)
theorem madeK (T : Is K mg nm C fI) {v : Value} (X : K.In s.heap) (hlim : s.heap.NoLimit) (hroom : A.depth + 1 < recursionLimit)
    (hq : ∀ h' tk e d, Made s.heap h' e C d v → R (.ok (.ret (.ref e))) { s with heap := h', toks := tk }) :
    codeAny (model prog w) A (.call (.ref C) ⟨[], [("word", v)]⟩) R s := by
  obtain ⟨nm', N, q, bs, bm, hdct, sn, sub, ab, col, dd, k0, k1, k2, k3, k5, hC, hbm⟩ := excInit_of X T.ei
  obtain ⟨hp, g, dr, tk, os⟩ := s
  have k : ∀ b o, hp.get? b = some o → ((hp.push (kdv_tup [])).push (excO C hp.objs.size)).get? b = some o := fun b o e => Heap.get?_push_of_some _ (Heap.get?_push_of_some _ e)
  have hget : ((hp.push (kdv_tup [])).push (excO C hp.objs.size)).get? (hp.objs.size + 1) = some (excO C hp.objs.size) := by heap_get
  refine ErrX.kw_call F.excBase_Exception hbm hC (looks_findIn X T.iC) (fun self => bind_fn X self T.tC) ?_
  refine initK (s := ⟨(hp.push (kdv_tup [])).push (excO C hp.objs.size), g, dr, tk, os⟩) T (X.keeps k) (hlim.keeps k) hget ?_ fun h' tk' dx ⟨k', hx, dn, dne, hns⟩ => ?_
  · show A.depth + 1 < recursionLimit
    exact hroom
  · have old : ∀ b o, hp.get? b = some o → h'.get? b = some o := fun b o e => k' b o (Nat.ne_of_lt (Nat.lt_succ_of_lt (Heap.lt_size e))) (k b o e)
    have z : hp.objs.size + 1 + 1 ≤ dx := by
      first
        | (simpa only [Heap.size_push] using dn)
        | exact dn
        | (have q := dn; rw [Heap.size_push, Heap.size_push] at q; exact q)
    exact ⟨rfl, hq h' tk' (hp.objs.size + 1) dx ⟨old, Nat.le_succ _, ⟨_, _, hx, rfl, rfl, rfl, rfl⟩, Nat.le_trans (Nat.le_trans (Nat.le_succ _) (Nat.le_succ _)) z, dne, hns⟩⟩
end
end ErrWord
end PySem
namespace L2
open PySem PySem.Spec PyProof.Rows
section
variable {X : Cx} {C fI : Addr} {nm : Str}
/-- nm(word = a).word: the error made is let go -/
theorem pe_kw_word {a : Expr} {ta : TE} {p kp pos pos2 : Pos} {k : Nat} (T : PySem.ErrWord.Is X.K X.mg nm C fI) (hr : Room k X.A) (ha : PE X a ta) (hg : Gl X nm := by rfl) (hdb : (nm == ("__debug__" : Str)) = false := by decide)
    (hall : (backToKw pos (keywordEach [⟨some "word", a, kp⟩] X.env)).all (·.1.isSome) = true := by rfl) (hks : (backToKw pos (keywordEach [⟨some "word", a, kp⟩] X.env)).filterMap (·.1) = [("word" : Str)] := by rfl)
    (hpl : ((backTo pos (starEach [] X.env)).any (·.1) || (backToKw pos (keywordEach [⟨some "word", a, kp⟩] X.env)).any (·.1.isNone)) = false := by rfl)
    (hb : attributeBase (.Call (.Name nm p) [] [⟨some "word", a, kp⟩] pos) "word" X.env (eval (.Call (.Name nm p) [] [⟨some "word", a, kp⟩] pos) X.env) = eval (.Call (.Name nm p) [] [⟨some "word", a, kp⟩] pos) X.env := by rfl) :
    PE X (.Attribute (.Call (.Name nm p) [] [⟨some "word", a, kp⟩] pos) "word" pos2) ta := by
  refine ⟨fun pins s σ H Q I h => ?_⟩
  refine attr_of hb (wpAny_Call_Name_kw (ld_glob I hg T.gC ?_ hdb))
  refine PySem.W.callWith_KW0 (h₀ := X.base) I.ok.mod.kin T.kC hall ?_ hpl
  have one : tCons ta tNil σ H (fun vs H1 => ∃ v, vs = [v] ∧ Q v H1) := by
    show ta σ H (fun v H1 => tNil σ H1 fun vs H2 => ∃ u, v :: vs = [u] ∧ Q u H2)
    exact cast (congrArg (ta σ H) (funext fun v => funext fun H1 => propext ⟨fun q => ⟨v, rfl, q⟩, fun ⟨u, e, q⟩ => by cases e; exact q⟩)) h
  refine thn ((pk_cons ha pk_nil).run pos pins s σ H _ I one) fun ws s1 ⟨zs, H1, I1, rz, v, ez, q⟩ => ⟨I1.kIn, ?_⟩
  subst ez
  cases rz with
  | @cons _ v' _ us' rv rn =>
    cases rn
    rw [hks]
    show wpAny _ _ (call (.ref C) [] [("word", v')]) _ _ _
    have hlim := I1.nolimit
    obtain ⟨hp, g, dr, tk, os⟩ := s1
    refine wpAny_call (PySem.ErrWord.madeK T I1.kIn hlim (by have := hr.dp; omega) fun h' tk' e d M => ?_)
    show wpAny _ X.A (getAttr (.ref e) "word" true) (EP X pins σ Q) X.xe ⟨h', g, dr, tk', os⟩
    obtain ⟨oe, fv, hoe, hc, hd, hdat, h1⟩ := M.obj
    obtain ⟨od, ho, hl⟩ := lookIn_ns M.ns
    have I2 : Inv X pins σ H1 ⟨h', g, dr, tk', os⟩ := I1.kept (t' := tk') M.keep
    have J : PySem.W.InstAt h' e oe C (some od) := ⟨hoe, hc, by unfold PySem.W.notCls; rw [hdat] <;> rfl, by rw [hd]; exact ho⟩
    exact HandSPX.exc_get I2.kIn J T.ga T.gg T.exC (PySem.W.findObj_own T.hdC T.noN rfl (by rw [hl, if_pos rfl])) (handed_of rv) ⟨v, H1, I2.tok _, rv, q⟩
end
end L2
namespace PySem
namespace ErrName
open PySem.W PySem.Calls PyProof.Rows PySem.HandSPX
section
variable {prog : Program} {w : World} {A : Around} {E : Value → Shared → Prop} {R : Result → Shared → Prop} {s : Shared} {K : Frag} {mg : Str → Option Value} {nm : Str} {C fI : Addr}
theorem initK (T : Is K mg nm C fI) {x t0 : Addr} {v : Value} (X : K.In s.heap) (hlim : s.heap.NoLimit) (hx : s.heap.get? x = some (excO C t0)) (hroom : A.depth < recursionLimit)
    (hq : ∀ h' tk dx, ErrX.InitEnd "name" s.heap h' x C dx t0 v → R (.ok (.ret .none)) { s with heap := h', toks := tk }) :
    codeAny (model prog w) A (.call (.ref fI) ⟨[.ref x], [("name", v)]⟩) R s := by
  obtain ⟨qn, mo, oc, od, doc, pm, an, cdv, ct, osl, p1, p2, q1, q2, q3, q4, ho, hcd⟩ := T.fn
  refine Att.call_fn (binds := [("self", .ref x), ("name", v)]) X hlim ho hcd hroom (BindsTo.of_eq (by first | rfl | with_unfolding_all rfl)) (by first | rfl | decide | with_unfolding_all rfl) (fun s₁ IC => ?_) rfl rfl rfl
  obtain ⟨h₁, tk₁, rfl⟩ := IC.toInCall.same
  have k : ∀ b o, s.heap.get? b = some o → h₁.get? b = some o := IC.toInCall.keep
  have hn := IC.toInCall.ns
  have X₁ : K.In h₁ := X.keeps k
  have hx₁ := k _ _ hx
  show wpAny _ _ (execs _ _) _ _ _
  refine wpAny_execs_cons (plainObj_wpAny_Assign_Attribute ?_)
  refine ErrX.ldC (v := v) hn (by first | rfl | with_unfolding_all rfl | kernel_rfl) (ErrX.ldC (v := .ref x) hn (by first | rfl | with_unfolding_all rfl | kernel_rfl) ?_)
  refine set_plain X₁ (ox := excO C t0) (od := none) ⟨hx₁, rfl, rfl, trivial⟩ T.sa ?_
  refine ErrX.store X₁ hx₁ T.ov T.hdC T.noN (fun h₃ tk₃ dx k₃ dn dne hx₃ hn₃ => ?_)
  show wpAny _ _ (execs _ _) _ _ _
  have z : s.heap.objs.size < h₁.objs.size := hn.lt
  exact wpAny_execs_nil (hq h₃ tk₃ dx ⟨fun b o hb e => k₃ b o hb (k b o e), hx₃, Nat.le_of_lt (Nat.lt_of_lt_of_le z dn), dne, hn₃⟩)
theorem madeK (T : Is K mg nm C fI) {v : Value} (X : K.In s.heap) (hlim : s.heap.NoLimit) (hroom : A.depth + 1 < recursionLimit)
    (hq : ∀ h' tk e d, Made s.heap h' e C d v → R (.ok (.ret (.ref e))) { s with heap := h', toks := tk }) :
    codeAny (model prog w) A (.call (.ref C) ⟨[], [("name", v)]⟩) R s := by
  obtain ⟨nm', N, q, bs, bm, hdct, sn, sub, ab, col, dd, k0, k1, k2, k3, k5, hC, hbm⟩ := excInit_of X T.ei
  obtain ⟨hp, g, dr, tk, os⟩ := s
  have k : ∀ b o, hp.get? b = some o → ((hp.push (kdv_tup [])).push (excO C hp.objs.size)).get? b = some o := fun b o e => Heap.get?_push_of_some _ (Heap.get?_push_of_some _ e)
  have hget : ((hp.push (kdv_tup [])).push (excO C hp.objs.size)).get? (hp.objs.size + 1) = some (excO C hp.objs.size) := by heap_get
  refine ErrX.kw_call F.excBase_Exception hbm hC (looks_findIn X T.iC) (fun self => bind_fn X self T.tC) ?_
  refine initK (s := ⟨(hp.push (kdv_tup [])).push (excO C hp.objs.size), g, dr, tk, os⟩) T (X.keeps k) (hlim.keeps k) hget ?_ fun h' tk' dx ⟨k', hx, dn, dne, hns⟩ => ?_
  · show A.depth + 1 < recursionLimit
    exact hroom
  · have old : ∀ b o, hp.get? b = some o → h'.get? b = some o := fun b o e => k' b o (Nat.ne_of_lt (Nat.lt_succ_of_lt (Heap.lt_size e))) (k b o e)
    have z : hp.objs.size + 1 + 1 ≤ dx := by
      first
        | (simpa only [Heap.size_push] using dn)
        | exact dn
        | (have q := dn; rw [Heap.size_push, Heap.size_push] at q; exact q)
    exact ⟨rfl, hq h' tk' (hp.objs.size + 1) dx ⟨old, Nat.le_succ _, ⟨_, _, hx, rfl, rfl, rfl, rfl⟩, Nat.le_trans (Nat.le_trans (Nat.le_succ _) (Nat.le_succ _)) z, dne, hns⟩⟩
end
end ErrName
end PySem
namespace L2
open PySem PySem.Spec PyProof.Rows
section
variable {X : Cx} {C fI : Addr} {nm : Str}
/-- nm(name = a).name: the error made is let go -/
theorem pe_kw_name {a : Expr} {ta : TE} {p kp pos pos2 : Pos} {k : Nat} (T : PySem.ErrName.Is X.K X.mg nm C fI) (hr : Room k X.A) (ha : PE X a ta) (hg : Gl X nm := by rfl) (hdb : (nm == ("__debug__" : Str)) = false := by decide)
    (hall : (backToKw pos (keywordEach [⟨some "name", a, kp⟩] X.env)).all (·.1.isSome) = true := by rfl) (hks : (backToKw pos (keywordEach [⟨some "name", a, kp⟩] X.env)).filterMap (·.1) = [("name" : Str)] := by rfl)
    (hpl : ((backTo pos (starEach [] X.env)).any (·.1) || (backToKw pos (keywordEach [⟨some "name", a, kp⟩] X.env)).any (·.1.isNone)) = false := by rfl)
    (hb : attributeBase (.Call (.Name nm p) [] [⟨some "name", a, kp⟩] pos) "name" X.env (eval (.Call (.Name nm p) [] [⟨some "name", a, kp⟩] pos) X.env) = eval (.Call (.Name nm p) [] [⟨some "name", a, kp⟩] pos) X.env := by rfl) :
    PE X (.Attribute (.Call (.Name nm p) [] [⟨some "name", a, kp⟩] pos) "name" pos2) ta := by
  refine ⟨fun pins s σ H Q I h => ?_⟩
  refine attr_of hb (wpAny_Call_Name_kw (ld_glob I hg T.gC ?_ hdb))
  refine PySem.W.callWith_KW0 (h₀ := X.base) I.ok.mod.kin T.kC hall ?_ hpl
  have one : tCons ta tNil σ H (fun vs H1 => ∃ v, vs = [v] ∧ Q v H1) := by
    show ta σ H (fun v H1 => tNil σ H1 fun vs H2 => ∃ u, v :: vs = [u] ∧ Q u H2)
    exact cast (congrArg (ta σ H) (funext fun v => funext fun H1 => propext ⟨fun q => ⟨v, rfl, q⟩, fun ⟨u, e, q⟩ => by cases e; exact q⟩)) h
  refine thn ((pk_cons ha pk_nil).run pos pins s σ H _ I one) fun ws s1 ⟨zs, H1, I1, rz, v, ez, q⟩ => ⟨I1.kIn, ?_⟩
  subst ez
  cases rz with
  | @cons _ v' _ us' rv rn =>
    cases rn
    rw [hks]
    show wpAny _ _ (call (.ref C) [] [("name", v')]) _ _ _
    have hlim := I1.nolimit
    obtain ⟨hp, g, dr, tk, os⟩ := s1
    refine wpAny_call (PySem.ErrName.madeK T I1.kIn hlim (by have := hr.dp; omega) fun h' tk' e d M => ?_)
    show wpAny _ X.A (getAttr (.ref e) "name" true) (EP X pins σ Q) X.xe ⟨h', g, dr, tk', os⟩
    obtain ⟨oe, fv, hoe, hc, hd, hdat, h1⟩ := M.obj
    obtain ⟨od, ho, hl⟩ := lookIn_ns M.ns
    have I2 : Inv X pins σ H1 ⟨h', g, dr, tk', os⟩ := I1.kept (t' := tk') M.keep
    have J : PySem.W.InstAt h' e oe C (some od) := ⟨hoe, hc, by unfold PySem.W.notCls; rw [hdat] <;> rfl, by rw [hd]; exact ho⟩
    exact HandSPX.exc_get I2.kIn J T.ga T.gg T.exC (PySem.W.findObj_own T.hdC T.noN rfl (by rw [hl, if_pos rfl])) (handed_of rv) ⟨v, H1, I2.tok _, rv, q⟩
end
end L2
namespace PySem
namespace ErrMany
open PySem.W PySem.Calls PyProof.Rows PySem.HandSPX
section
variable {prog : Program} {w : World} {A : Around} {E : Value → Shared → Prop} {R : Result → Shared → Prop} {s : Shared} {K : Frag} {mg : Str → Option Value} {nm : Str} {C fI : Addr}
theorem initK (T : Is K mg nm C fI) {x t0 : Addr} {v : Value} (X : K.In s.heap) (hlim : s.heap.NoLimit) (hx : s.heap.get? x = some (excO C t0)) (hroom : A.depth < recursionLimit)
    (hq : ∀ h' tk dx, ErrX.InitEnd "many" s.heap h' x C dx t0 v → R (.ok (.ret .none)) { s with heap := h', toks := tk }) :
    codeAny (model prog w) A (.call (.ref fI) ⟨[.ref x], [("many", v)]⟩) R s := by
  obtain ⟨qn, mo, oc, od, doc, pm, an, cdv, ct, osl, p1, p2, q1, q2, q3, q4, ho, hcd⟩ := T.fn
  refine Att.call_fn (binds := [("self", .ref x), ("many", v)]) X hlim ho hcd hroom (BindsTo.of_eq (by first | rfl | with_unfolding_all rfl)) (by first | rfl | decide | with_unfolding_all rfl) (fun s₁ IC => ?_) rfl rfl rfl
  obtain ⟨h₁, tk₁, rfl⟩ := IC.toInCall.same
  have k : ∀ b o, s.heap.get? b = some o → h₁.get? b = some o := IC.toInCall.keep
  have hn := IC.toInCall.ns
  have X₁ : K.In h₁ := X.keeps k
  have hx₁ := k _ _ hx
  show wpAny _ _ (execs _ _) _ _ _
  refine wpAny_execs_cons (plainObj_wpAny_Assign_Attribute ?_)
  refine ErrX.ldC (v := v) hn (by first | rfl | with_unfolding_all rfl | kernel_rfl) (ErrX.ldC (v := .ref x) hn (by first | rfl | with_unfolding_all rfl | kernel_rfl) ?_)
  refine set_plain X₁ (ox := excO C t0) (od := none) ⟨hx₁, rfl, rfl, trivial⟩ T.sa ?_
  refine ErrX.store X₁ hx₁ T.ov T.hdC T.noN (fun h₃ tk₃ dx k₃ dn dne hx₃ hn₃ => ?_)
  show wpAny _ _ (execs _ _) _ _ _
  have z : s.heap.objs.size < h₁.objs.size := hn.lt
  exact wpAny_execs_nil (hq h₃ tk₃ dx ⟨fun b o hb e => k₃ b o hb (k b o e), hx₃, Nat.le_of_lt (Nat.lt_of_lt_of_le z dn), dne, hn₃⟩)
theorem madeK (T : Is K mg nm C fI) {v : Value} (X : K.In s.heap) (hlim : s.heap.NoLimit) (hroom : A.depth + 1 < recursionLimit)
    (hq : ∀ h' tk e d, Made s.heap h' e C d v → R (.ok (.ret (.ref e))) { s with heap := h', toks := tk }) :
    codeAny (model prog w) A (.call (.ref C) ⟨[], [("many", v)]⟩) R s := by
  obtain ⟨nm', N, q, bs, bm, hdct, sn, sub, ab, col, dd, k0, k1, k2, k3, k5, hC, hbm⟩ := excInit_of X T.ei
  obtain ⟨hp, g, dr, tk, os⟩ := s
  have k : ∀ b o, hp.get? b = some o → ((hp.push (kdv_tup [])).push (excO C hp.objs.size)).get? b = some o := fun b o e => Heap.get?_push_of_some _ (Heap.get?_push_of_some _ e)
  have hget : ((hp.push (kdv_tup [])).push (excO C hp.objs.size)).get? (hp.objs.size + 1) = some (excO C hp.objs.size) := by heap_get
  refine ErrX.kw_call F.excBase_Exception hbm hC (looks_findIn X T.iC) (fun self => bind_fn X self T.tC) ?_
  refine initK (s := ⟨(hp.push (kdv_tup [])).push (excO C hp.objs.size), g, dr, tk, os⟩) T (X.keeps k) (hlim.keeps k) hget ?_ fun h' tk' dx ⟨k', hx, dn, dne, hns⟩ => ?_
  · show A.depth + 1 < recursionLimit
    exact hroom
  · have old : ∀ b o, hp.get? b = some o → h'.get? b = some o := fun b o e => k' b o (Nat.ne_of_lt (Nat.lt_succ_of_lt (Heap.lt_size e))) (k b o e)
    have z : hp.objs.size + 1 + 1 ≤ dx := by
      first
        | (simpa only [Heap.size_push] using dn)
        | exact dn
        | (have q := dn; rw [Heap.size_push, Heap.size_push] at q; exact q)
    exact ⟨rfl, hq h' tk' (hp.objs.size + 1) dx ⟨old, Nat.le_succ _, ⟨_, _, hx, rfl, rfl, rfl, rfl⟩, Nat.le_trans (Nat.le_trans (Nat.le_succ _) (Nat.le_succ _)) z, dne, hns⟩⟩
end
end ErrMany
end PySem
namespace L2
open PySem PySem.Spec PyProof.Rows
section
variable {X : Cx} {C fI : Addr} {nm : Str}
/-- nm(many = a).many: the error made is let go -/
theorem pe_kw_many {a : Expr} {ta : TE} {p kp pos pos2 : Pos} {k : Nat} (T : PySem.ErrMany.Is X.K X.mg nm C fI) (hr : Room k X.A) (ha : PE X a ta) (hg : Gl X nm := by rfl) (hdb : (nm == ("__debug__" : Str)) = false := by decide)
    (hall : (backToKw pos (keywordEach [⟨some "many", a, kp⟩] X.env)).all (·.1.isSome) = true := by rfl) (hks : (backToKw pos (keywordEach [⟨some "many", a, kp⟩] X.env)).filterMap (·.1) = [("many" : Str)] := by rfl)
    (hpl : ((backTo pos (starEach [] X.env)).any (·.1) || (backToKw pos (keywordEach [⟨some "many", a, kp⟩] X.env)).any (·.1.isNone)) = false := by rfl)
    (hb : attributeBase (.Call (.Name nm p) [] [⟨some "many", a, kp⟩] pos) "many" X.env (eval (.Call (.Name nm p) [] [⟨some "many", a, kp⟩] pos) X.env) = eval (.Call (.Name nm p) [] [⟨some "many", a, kp⟩] pos) X.env := by rfl) :
    PE X (.Attribute (.Call (.Name nm p) [] [⟨some "many", a, kp⟩] pos) "many" pos2) ta := by
  refine ⟨fun pins s σ H Q I h => ?_⟩
  refine attr_of hb (wpAny_Call_Name_kw (ld_glob I hg T.gC ?_ hdb))
  refine PySem.W.callWith_KW0 (h₀ := X.base) I.ok.mod.kin T.kC hall ?_ hpl
  have one : tCons ta tNil σ H (fun vs H1 => ∃ v, vs = [v] ∧ Q v H1) := by
    show ta σ H (fun v H1 => tNil σ H1 fun vs H2 => ∃ u, v :: vs = [u] ∧ Q u H2)
    exact cast (congrArg (ta σ H) (funext fun v => funext fun H1 => propext ⟨fun q => ⟨v, rfl, q⟩, fun ⟨u, e, q⟩ => by cases e; exact q⟩)) h
  refine thn ((pk_cons ha pk_nil).run pos pins s σ H _ I one) fun ws s1 ⟨zs, H1, I1, rz, v, ez, q⟩ => ⟨I1.kIn, ?_⟩
  subst ez
  cases rz with
  | @cons _ v' _ us' rv rn =>
    cases rn
    rw [hks]
    show wpAny _ _ (call (.ref C) [] [("many", v')]) _ _ _
    have hlim := I1.nolimit
    obtain ⟨hp, g, dr, tk, os⟩ := s1
    refine wpAny_call (PySem.ErrMany.madeK T I1.kIn hlim (by have := hr.dp; omega) fun h' tk' e d M => ?_)
    show wpAny _ X.A (getAttr (.ref e) "many" true) (EP X pins σ Q) X.xe ⟨h', g, dr, tk', os⟩
    obtain ⟨oe, fv, hoe, hc, hd, hdat, h1⟩ := M.obj
    obtain ⟨od, ho, hl⟩ := lookIn_ns M.ns
    have I2 : Inv X pins σ H1 ⟨h', g, dr, tk', os⟩ := I1.kept (t' := tk') M.keep
    have J : PySem.W.InstAt h' e oe C (some od) := ⟨hoe, hc, by unfold PySem.W.notCls; rw [hdat] <;> rfl, by rw [hd]; exact ho⟩
    exact HandSPX.exc_get I2.kIn J T.ga T.gg T.exC (PySem.W.findObj_own T.hdC T.noN rfl (by rw [hl, if_pos rfl])) (handed_of rv) ⟨v, H1, I2.tok _, rv, q⟩
end
end L2

set_option Elab.async false
set_option linter.all false
set_option maxRecDepth 100000
namespace Kx
open PySem PySem.Spec PyProof.Rows L2
/-! ### the text by places -/
def topS (i : Nat) : Stmt := PySem.Challenge.pw_nomoreseen_k00_whole_errors_and_what_the.main.body.getD i (.Pass ⟨0, 0, 0, 0⟩)
abbrev s_InvalidBook___init : Stmt := inClass (topS 2) 0
theorem sc_InvalidBook___init : FnScope ["self", "word"] ["self", "word"] (defScope s_InvalidBook___init) := ⟨rfl, rfl, rfl, by decide +kernel, rfl, by decide +kernel, by decide +kernel⟩
abbrev s_InvalidModule___init : Stmt := inClass (topS 3) 0
theorem sc_InvalidModule___init : FnScope ["self", "at"] ["self", "at"] (defScope s_InvalidModule___init) := ⟨rfl, rfl, rfl, by decide +kernel, rfl, by decide +kernel, by decide +kernel⟩
abbrev s_InvalidSecrets___init : Stmt := inClass (topS 4) 0
theorem sc_InvalidSecrets___init : FnScope ["self", "at"] ["self", "at"] (defScope s_InvalidSecrets___init) := ⟨rfl, rfl, rfl, by decide +kernel, rfl, by decide +kernel, by decide +kernel⟩
abbrev s_InvalidState___init : Stmt := inClass (topS 5) 0
theorem sc_InvalidState___init : FnScope ["self", "at"] ["self", "at"] (defScope s_InvalidState___init) := ⟨rfl, rfl, rfl, by decide +kernel, rfl, by decide +kernel, by decide +kernel⟩
abbrev s_InvalidPlay___init : Stmt := inClass (topS 6) 0
theorem sc_InvalidPlay___init : FnScope ["self", "at"] ["self", "at"] (defScope s_InvalidPlay___init) := ⟨rfl, rfl, rfl, by decide +kernel, rfl, by decide +kernel, by decide +kernel⟩
abbrev s_InvalidScript___init : Stmt := inClass (topS 7) 0
theorem sc_InvalidScript___init : FnScope ["self", "at"] ["self", "at"] (defScope s_InvalidScript___init) := ⟨rfl, rfl, rfl, by decide +kernel, rfl, by decide +kernel, by decide +kernel⟩
abbrev s_InvalidStranger___init : Stmt := inClass (topS 8) 0
theorem sc_InvalidStranger___init : FnScope ["self", "at"] ["self", "at"] (defScope s_InvalidStranger___init) := ⟨rfl, rfl, rfl, by decide +kernel, rfl, by decide +kernel, by decide +kernel⟩
abbrev s_InvalidText___init : Stmt := inClass (topS 9) 0
theorem sc_InvalidText___init : FnScope ["self", "at"] ["self", "at"] (defScope s_InvalidText___init) := ⟨rfl, rfl, rfl, by decide +kernel, rfl, by decide +kernel, by decide +kernel⟩
abbrev s_InvalidSpots___init : Stmt := inClass (topS 10) 0
theorem sc_InvalidSpots___init : FnScope ["self", "at"] ["self", "at"] (defScope s_InvalidSpots___init) := ⟨rfl, rfl, rfl, by decide +kernel, rfl, by decide +kernel, by decide +kernel⟩
abbrev s_InvalidCode___init : Stmt := inClass (topS 11) 0
theorem sc_InvalidCode___init : FnScope ["self", "at"] ["self", "at"] (defScope s_InvalidCode___init) := ⟨rfl, rfl, rfl, by decide +kernel, rfl, by decide +kernel, by decide +kernel⟩
abbrev s_InvalidRoom___init : Stmt := inClass (topS 12) 0
theorem sc_InvalidRoom___init : FnScope ["self", "at"] ["self", "at"] (defScope s_InvalidRoom___init) := ⟨rfl, rfl, rfl, by decide +kernel, rfl, by decide +kernel, by decide +kernel⟩
abbrev s_InvalidFrames___init : Stmt := inClass (topS 13) 0
theorem sc_InvalidFrames___init : FnScope ["self", "at"] ["self", "at"] (defScope s_InvalidFrames___init) := ⟨rfl, rfl, rfl, by decide +kernel, rfl, by decide +kernel, by decide +kernel⟩
abbrev s_InvalidWeb___init : Stmt := inClass (topS 14) 0
theorem sc_InvalidWeb___init : FnScope ["self", "at"] ["self", "at"] (defScope s_InvalidWeb___init) := ⟨rfl, rfl, rfl, by decide +kernel, rfl, by decide +kernel, by decide +kernel⟩
abbrev s_InvalidLots___init : Stmt := inClass (topS 15) 0
theorem sc_InvalidLots___init : FnScope ["self", "at"] ["self", "at"] (defScope s_InvalidLots___init) := ⟨rfl, rfl, rfl, by decide +kernel, rfl, by decide +kernel, by decide +kernel⟩
abbrev s_InvalidLink___init : Stmt := inClass (topS 16) 0
theorem sc_InvalidLink___init : FnScope ["self", "at"] ["self", "at"] (defScope s_InvalidLink___init) := ⟨rfl, rfl, rfl, by decide +kernel, rfl, by decide +kernel, by decide +kernel⟩
abbrev s_InvalidIndex___init : Stmt := inClass (topS 17) 0
theorem sc_InvalidIndex___init : FnScope ["self", "at"] ["self", "at"] (defScope s_InvalidIndex___init) := ⟨rfl, rfl, rfl, by decide +kernel, rfl, by decide +kernel, by decide +kernel⟩
abbrev s_InvalidSize___init : Stmt := inClass (topS 18) 0
theorem sc_InvalidSize___init : FnScope ["self", "word"] ["self", "word"] (defScope s_InvalidSize___init) := ⟨rfl, rfl, rfl, by decide +kernel, rfl, by decide +kernel, by decide +kernel⟩
abbrev s_LargeTable___init : Stmt := inClass (topS 19) 0
theorem sc_LargeTable___init : FnScope ["self", "many"] ["self", "many"] (defScope s_LargeTable___init) := ⟨rfl, rfl, rfl, by decide +kernel, rfl, by decide +kernel, by decide +kernel⟩
abbrev s_Refused___init : Stmt := inClass (topS 20) 0
theorem sc_Refused___init : FnScope ["self", "at"] ["self", "at"] (defScope s_Refused___init) := ⟨rfl, rfl, rfl, by decide +kernel, rfl, by decide +kernel, by decide +kernel⟩
abbrev s_NoName___init : Stmt := inClass (topS 21) 0
theorem sc_NoName___init : FnScope ["self", "name"] ["self", "name"] (defScope s_NoName___init) := ⟨rfl, rfl, rfl, by decide +kernel, rfl, by decide +kernel, by decide +kernel⟩
abbrev s_law_box : Stmt := topS 24
theorem sc_law_box : FnScope ["script", "k", "cell"] ["script", "k"] (defScope s_law_box) := ⟨rfl, rfl, rfl, by decide +kernel, rfl, by decide +kernel, by decide +kernel⟩
abbrev s_law_take : Stmt := topS 25
theorem sc_law_take : FnScope ["box", "many", "digit", "raw"] ["box", "many"] (defScope s_law_take) := ⟨rfl, rfl, rfl, by decide +kernel, rfl, by decide +kernel, by decide +kernel⟩
abbrev s_law_pick : Stmt := topS 26
theorem sc_law_pick : FnScope ["box", "some"] ["box", "some"] (defScope s_law_pick) := ⟨rfl, rfl, rfl, by decide +kernel, rfl, by decide +kernel, by decide +kernel⟩
abbrev s_law_raise_a : Stmt := topS 27
theorem sc_law_raise_a : FnScope ["number", "thing"] ["number", "thing"] (defScope s_law_raise_a) := ⟨rfl, rfl, rfl, by decide +kernel, rfl, by decide +kernel, by decide +kernel⟩
abbrev s_law_raise_b : Stmt := topS 28
theorem sc_law_raise_b : FnScope ["number", "thing"] ["number", "thing"] (defScope s_law_raise_b) := ⟨rfl, rfl, rfl, by decide +kernel, rfl, by decide +kernel, by decide +kernel⟩
abbrev s_law_raise_c : Stmt := topS 29
theorem sc_law_raise_c : FnScope ["number", "thing"] ["number", "thing"] (defScope s_law_raise_c) := ⟨rfl, rfl, rfl, by decide +kernel, rfl, by decide +kernel, by decide +kernel⟩
abbrev s_law_raise : Stmt := topS 30
theorem sc_law_raise : FnScope ["number", "thing"] ["number", "thing"] (defScope s_law_raise) := ⟨rfl, rfl, rfl, by decide +kernel, rfl, by decide +kernel, by decide +kernel⟩
abbrev s_law_caught_a : Stmt := topS 31
theorem sc_law_caught_a : FnScope ["number", "thing", "e"] ["number", "thing"] (defScope s_law_caught_a) := ⟨rfl, rfl, rfl, by decide +kernel, rfl, by decide +kernel, by decide +kernel⟩
abbrev s_law_caught_b : Stmt := topS 32
theorem sc_law_caught_b : FnScope ["number", "thing", "e"] ["number", "thing"] (defScope s_law_caught_b) := ⟨rfl, rfl, rfl, by decide +kernel, rfl, by decide +kernel, by decide +kernel⟩
abbrev s_law_caught_c : Stmt := topS 33
theorem sc_law_caught_c : FnScope ["number", "thing", "e"] ["number", "thing"] (defScope s_law_caught_c) := ⟨rfl, rfl, rfl, by decide +kernel, rfl, by decide +kernel, by decide +kernel⟩
abbrev s_law_is_base : Stmt := topS 34
theorem sc_law_is_base : FnScope ["number", "thing"] ["number", "thing"] (defScope s_law_is_base) := ⟨rfl, rfl, rfl, by decide +kernel, rfl, by decide +kernel, by decide +kernel⟩
abbrev s_law : Stmt := topS 35
theorem sc_law : FnScope ["script", "box", "number", "thing", "kept"] ["script"] (defScope s_law) := ⟨rfl, rfl, rfl, by decide +kernel, rfl, by decide +kernel, by decide +kernel⟩
/-! ### the box of draws: three ints, the first none below 0 -/
def BoxAt (H : Hp) (b : Addr) : Prop := ∃ x y z : Int, 0 ≤ x ∧ H b = some (.lst [.int x, .int y, .int z])
/-- built-ins of the text, not shadowed -/
structure Bi (mg : Str → Option Value) : Prop where
  len : mg "len" = none
  abs : mg "abs" = none
  int : mg "int" = none
  range : mg "range" = none
def spBox (K : PySem.W.Frag) : Sp := fun vs H Q _ => ∃ (a : Addr) (ns : List Int) (k : Int), vs = [.ref a, .int k] ∧ SqL K H a (ns.map V.int) ∧ ns.length ≤ 63 ∧ 0 ≤ k ∧ k ≤ 1000 ∧
  ∀ (H' : Hp) (b : Addr), Same H H' → H b = none → BoxAt H' b → Q (.ref b) H'
def spTake : Sp := fun vs H Q _ => ∃ (b : Addr) (m : Int), vs = [.ref b, .int m] ∧ BoxAt H b ∧ 0 < m ∧ m < 1000000 ∧
  ∀ (v x y z : Int), 0 ≤ v → v < m → 0 ≤ x → Q (.int v) (upd H b (.lst [.int x, .int y, .int z]))
def spPick (K : PySem.W.Frag) : Sp := fun vs H Q _ => ∃ (b l : Addr) (xs : List V), vs = [.ref b, .ref l] ∧ BoxAt H b ∧ SqL K H l xs ∧ (∀ (x y z : Int), SqL K (upd H b (.lst [.int x, .int y, .int z])) l xs) ∧ 0 < xs.length ∧ xs.length < 1000 ∧
  ∀ (i : Nat) (v : V) (x y z : Int), xs[i]? = some v → 0 ≤ x → Q v (upd H b (.lst [.int x, .int y, .int z]))
theorem int_at {ns : List Int} {k : Int} (h0 : 0 ≤ k) (h1 : k < ns.length) : ∃ z, ns[k.toNat]? = some z ∧ atI (ns.map V.int) k = some (.int z) := by
  have hk : k.toNat < ns.length := by omega
  refine ⟨ns[k.toNat], List.getElem?_eq_getElem hk, ?_⟩
  have e : k = ((k.toNat : Nat) : Int) := by omega
  have q : (ns.map V.int)[k.toNat]? = some (.int ns[k.toNat]) := by
    rw [List.getElem?_map, List.getElem?_eq_getElem hk]
    rfl
  exact at_of e q
theorem abs_nn (i : Int) : 0 ≤ (if i < 0 then -i else i) := by
  split <;> omega
theorem upd_upd' {H : Hp} {b : Addr} {o u : HO} : upd (upd H b o) b u = upd H b u := upd_upd
section
variable {P : Program} {w : World} {K : PySem.W.Frag} {mg : Str → Option Value} {base : Heap}
theorem ok_box {f : Addr} {fd : FuncData} {k : Nat} (F : Fun K "_law_box" "_law_box" s_law_box f fd) (B : Bi mg) : FnOk P w K mg base CX0 (k + 1) f fd ["script", "k"] (spBox K) := by
  refine F.ok sc_law_box (fun vs H Q E h => ?_) (fun cdv A outer s H vs Q E hr h => ?_)
  · obtain ⟨a, ns, k, rfl, _⟩ := h
    rfl
  · obtain ⟨a, ns, k, rfl, hS, hl, h0, h1, q⟩ := h
    refine ⟨_, pss_cons (ps_set (i := 2) sc_law_box.nd rfl (.inl rfl) (pe_op op_add (pe_op op_mul pe_int (pv 1)) pe_int))
      (C8.pss_cut (ps_if (pt_cmpR op_lt (pv 1) (pe_callB call_len_seq (by rfl) B.len PySem.boot_len (pa_cons (pv 0) pa_nil)) (nomark _))
        (pss_one (ps_set (i := 2) sc_law_box.nd rfl (.inl rfl) (pe_callB call_abs (by rfl) B.abs (by decide +kernel) (pa_cons (pe_ix ix_list (pv 0) (pv 1) (fun _ _ => rfl)) pa_nil))))
        (pss_one (ps_if (pt_cmpR op_gt (pe_callB call_len_seq (by rfl) B.len PySem.boot_len (pa_cons (pv 0) pa_nil)) pe_int (nomark _))
          (pss_one (ps_set (i := 2) sc_law_box.nd rfl (.inl rfl) (pe_op op_add (pv 2) (pe_op op_mul (pe_op op_mod (pe_callTy call_int1 (by rfl) B.int (by decide +kernel) (pa_cons (pe_callB call_abs (by rfl) B.abs (by decide +kernel)
            (pa_cons (pe_ix ix_list (pv 0) (pe_op op_mod (pe_callTy call_int1 (by rfl) B.int (by decide +kernel) (pa_cons (pv 1) pa_nil)) (pe_callB call_len_seq (by rfl) B.len PySem.boot_len (pa_cons (pv 0) pa_nil))) (fun _ _ => rfl)) pa_nil)) pa_nil)) pe_int) pe_int))))
          pss_nil)))
      (pss_one (ps_ret (pe_lst (pa_cons (pe_ix ix_list (pe_lst (pa_cons pe_int (pa_cons (pv 2) pa_nil))) (pe_callTy call_int1 (by rfl) B.int (by decide +kernel) (pa_cons (pe_cmpR op_ge (pv 2) (pe_op op_pow pe_int pe_int) (nomark _)) pa_nil)) (fun _ _ => rfl))
        (pa_cons (pe_op op_add (pe_op op_mod (pe_callTy call_int1 (by rfl) B.int (by decide +kernel) (pa_cons (pe_op op_add (pe_op op_mul (pe_op op_mod (pe_callTy call_int1 (by rfl) B.int (by decide +kernel) (pa_cons (pv 2) pa_nil)) pe_int) pe_int) (pe_op op_mul pe_int (pv 1))) pa_nil)) pe_int) pe_int)
        (pa_cons pe_int pa_nil))))))), ?_⟩
    -- cell = c * k + d
    refine ⟨_, rfl, _, _, rfl, rfl, .inl ⟨by decide, by decide⟩, _, _, rfl, rfl, ?_⟩
    -- behind the ifs cell is some number from 0 on
    refine ⟨fun σ' H' => ∃ c : Int, 0 ≤ c ∧ σ' = [some (.ref a), some (.int k), some (.int c)] ∧ H' = H, ?_, ?_⟩
    · refine ⟨_, rfl, _, rfl, a, _, rfl, .inl hS, _, _, rfl, rfl, _, rfl, ite2 (fun e => ?_) (fun _ => ?_)⟩
      · have e1 : k < (ns.map V.int).length := of_decide_eq_true e
        rw [List.length_map] at e1
        obtain ⟨z, _, hz⟩ := int_at h0 e1
        exact ⟨_, rfl, _, rfl, a, _, k, _, rfl, rfl, hS, hz, z, rfl, _, abs_nn z, rfl, rfl⟩
      · refine ⟨_, rfl, a, _, rfl, .inl hS, _, _, rfl, rfl, _, rfl, ite2 (fun e => ?_) (fun _ => ?_)⟩
        · have e1 : (0 : Int) < (ns.map V.int).length := of_decide_eq_true e
          have e2 : (0 : Int) < ns.length := by rw [List.length_map] at e1; exact e1
          have m0 : 0 ≤ k % ((ns.map V.int).length : Int) := Int.emod_nonneg _ (by omega)
          have m1 : k % ((ns.map V.int).length : Int) < ns.length := by
            have q := Int.emod_lt_of_pos k e1
            rw [List.length_map] at q ⊢
            exact q
          obtain ⟨z, _, hz⟩ := int_at m0 m1
          refine ⟨_, rfl, _, rfl, _, rfl, .inl ⟨k, rfl, _, rfl, a, _, rfl, .inl hS, _, _, rfl, rfl, e1, a, _, _, _, rfl, rfl, hS, hz, z, rfl, .inl ⟨_, rfl, _, _, rfl, rfl, (by show (0 : Int) < 2147483629; decide), _, _, rfl, rfl, .inr ⟨by decide, by decide⟩, _, _, rfl, rfl, _, ?_, rfl, rfl⟩⟩⟩
          have q1 := abs_nn z
          generalize (if z < 0 then -z else z) = y at q1 ⊢
          have q2 : 0 ≤ y % 2147483629 := Int.emod_nonneg _ (by decide)
          generalize y % 2147483629 = x at q2 ⊢
          omega
        · refine ⟨_, ?_, rfl, rfl⟩
          omega
    · rintro σ' H' ⟨c, hc, rfl, rfl⟩
      -- [[0, cell][int(cell >= 10 ** 18)], .., 0]
      refine ⟨_, rfl, by show 2 ≤ sizeLine; decide, fun l hl => ?_⟩
      have sm : Same H' (upd H' l (.lst [.int 0, .int c])) := fun b o e => by
        rw [upd_ne (ne_of_none e hl)]
        exact e
      have fin : ∀ x : Int, 0 ≤ x → ∀ (b : Addr) (y : Int), (upd H' l (.lst [.int 0, .int c])) b = none → Q (.ref b) (upd (upd H' l (.lst [.int 0, .int c])) b (.lst [.int x, .int y, .int 0])) := fun x hx b y hb =>
        q _ b (fun c o e => by rw [upd_ne (ne_of_none (sm _ _ e) hb)]; exact sm _ _ e) (sm.free hb) ⟨x, y, 0, hx, upd_same⟩
      refine ⟨_, rfl, _, _, rfl, rfl, ⟨by decide, by decide, by decide⟩, _, _, rfl, rfl, .inr ⟨_, rfl, l, [.int 0, .int c], _, if decide (10 ^ (18 : Int).toNat ≤ c) = true then .int c else .int 0, rfl, rfl, SqL.of upd_same, ?_, ?_⟩⟩
      · split
        · exact atI_nat (j := 1) rfl
        · exact atI_nat (j := 0) rfl
      · refine ⟨_, rfl, .inl ⟨_, rfl, _, _, rfl, rfl, (by show (0 : Int) < 2147483629; decide), _, _, rfl, rfl, .inr ⟨by decide, by decide⟩, _, rfl, _, _, rfl, rfl, .inl ⟨by decide, by decide⟩, _, _, rfl, rfl, .inl ⟨_, rfl, _, _, rfl, rfl, (by show (0 : Int) < 2147483629; decide), _, _, rfl, rfl, by show 3 ≤ sizeLine; decide, fun b hb => ?_⟩⟩⟩
        split
        · exact fin c hc b _ hb
        · exact fin 0 (Int.le_refl _) b _ hb
theorem ok_take {f : Addr} {fd : FuncData} {k : Nat} (F : Fun K "_law_take" "_law_take" s_law_take f fd) (B : Bi mg) : FnOk P w K mg base CX0 (k + 1) f fd ["box", "many"] spTake := by
  refine F.ok sc_law_take (fun vs H Q E h => ?_) (fun cdv A outer s H vs Q E hr h => ?_)
  · obtain ⟨b, m, rfl, _⟩ := h
    rfl
  · obtain ⟨b, m, rfl, ⟨x, y, z, hx, hb⟩, m0, m1, q⟩ := h
    refine ⟨_, pss_cons (ps_if (pt_cmpR op_gt (pe_ix ix_list (pv 0) pe_int (fun _ _ => rfl)) pe_int (nomark _))
        (pss_cons (ps_set (i := 2) sc_law_take.nd rfl (.inl rfl) (pe_op op_mod (pe_callTy call_int1 (by rfl) B.int (by decide +kernel) (pa_cons (pe_ix ix_list (pv 0) pe_int (fun _ _ => rfl)) pa_nil)) (pv 1)))
        (pss_cons (ps_asg (pe_op op_fdiv (pe_ix ix_list (pv 0) pe_int (fun _ _ => rfl)) (pv 1)) (pg_sub (pv 0) pe_int set_list))
        (pss_one (ps_ret (pv 2))))) pss_nil)
      (pss_cons (ps_asg (pe_op op_add (pe_ix ix_list (pv 0) pe_int (fun _ _ => rfl)) pe_int) (pg_sub (pv 0) pe_int set_list))
      (pss_cons (ps_set (i := 3) sc_law_take.nd rfl (.inl rfl) (pe_op op_mod (pe_callTy call_int1 (by rfl) B.int (by decide +kernel)
        (pa_cons (pe_op op_add (pe_op op_mul (pe_op op_add (pe_ix ix_list (pv 0) pe_int (fun _ _ => rfl)) (pe_op op_mul pe_int (pe_ix ix_list (pv 0) pe_int (fun _ _ => rfl)))) pe_int) pe_int) pa_nil)) pe_int))
      (pss_cons (ps_asg (pe_op op_add (pe_op op_mod (pe_callTy call_int1 (by rfl) B.int (by decide +kernel) (pa_cons (pe_op op_add (pe_op op_mul (pv 3) pe_int) pe_int) pa_nil)) pe_int) pe_int) (pg_sub (pv 0) pe_int set_list))
      (pss_one (ps_ret (pe_op op_mod (pe_callTy call_int1 (by rfl) B.int (by decide +kernel) (pa_cons (pe_op op_fdiv (pe_op op_add (pe_op op_mul (pv 3) pe_int) (pe_ix ix_list (pv 0) pe_int (fun _ _ => rfl))) pe_int) pa_nil)) (pv 1))))))), ?_⟩
    have a0 : ∀ x y z : Int, atI [V.int x, .int y, .int z] 0 = some (.int x) := fun x y z => atI_nat (j := 0) rfl
    have a1 : ∀ x y z : Int, atI [V.int x, .int y, .int z] 1 = some (.int y) := fun x y z => atI_nat (j := 1) rfl
    have a2 : ∀ x y z : Int, atI [V.int x, .int y, .int z] 2 = some (.int z) := fun x y z => atI_nat (j := 2) rfl
    have lo : ∀ i : Int, 0 ≤ i % m := fun i => Int.emod_nonneg _ (by omega)
    have hi : ∀ i : Int, i % m < m := fun i => Int.emod_lt_of_pos _ m0
    refine ⟨_, rfl, b, _, 0, _, rfl, rfl, SqL.of hb, a0 x y z, _, _, rfl, rfl, _, rfl, ite2 (fun e => ?_) (fun _ => ?_)⟩
    · refine ⟨_, rfl, b, _, 0, _, rfl, rfl, SqL.of hb, a0 x y z, .inl ⟨_, rfl, _, rfl, _, _, rfl, rfl, m0, ?_⟩⟩
      refine ⟨_, rfl, b, _, 0, _, rfl, rfl, SqL.of hb, a0 x y z, _, rfl, _, _, rfl, rfl, ⟨m0, by omega⟩, _, rfl, b, _, 0, 0, rfl, rfl, hb, rfl, ?_⟩
      refine ⟨_, rfl, q _ (x / m) y z (lo x) (hi x) (Int.ediv_nonneg hx (Int.le_of_lt m0))⟩
    · refine ⟨_, rfl, b, _, 2, _, rfl, rfl, SqL.of hb, a2 x y z, _, _, rfl, rfl, _, rfl, b, _, 2, 2, rfl, rfl, hb, rfl, ?_⟩
      have h1 : (upd H b (.lst [.int x, .int y, .int (z + 1)])) b = some (.lst [.int x, .int y, .int (z + 1)]) := upd_same
      refine ⟨_, rfl, b, _, 1, _, rfl, rfl, SqL.of h1, a1 _ _ _, _, rfl, b, _, 2, _, rfl, rfl, SqL.of h1, a2 _ _ _, _, _, rfl, rfl, .inl ⟨by decide, by decide⟩, _, _, rfl, rfl, _, _, rfl, rfl, .inr ⟨by decide, by decide⟩, _, _, rfl, rfl, .inl ⟨_, rfl, _, _, rfl, rfl, (by show (0 : Int) < 2147483563; decide), ?_⟩⟩
      refine ⟨_, rfl, _, _, rfl, rfl, .inr ⟨by decide, by decide⟩, _, _, rfl, rfl, .inl ⟨_, rfl, _, _, rfl, rfl, (by show (0 : Int) < 2147483629; decide), _, _, rfl, rfl, _, rfl, b, _, 1, 1, rfl, rfl, h1, rfl, ?_⟩⟩
      refine ⟨_, rfl, _, _, rfl, rfl, .inr ⟨by decide, by decide⟩, _, rfl, b, _, 1, _, rfl, rfl, SqL.of upd_same, a1 _ _ _, _, _, rfl, rfl, _, _, rfl, rfl, ⟨by decide, by decide⟩, .inl ⟨_, rfl, _, rfl, _, _, rfl, rfl, m0, ?_⟩⟩
      have e := @upd_upd H b (.lst [.int x, .int y, .int (z + 1)])
      exact cast (congrArg (Q _) upd_upd.symm) (q _ _ _ _ (lo _) (hi _) hx)
theorem ok_pick {f fT : Addr} {fd fdT : FuncData} {k : Nat} (F : Fun K "_law_pick" "_law_pick" s_law_pick f fd) (FT : Fun K "_law_take" "_law_take" s_law_take fT fdT) (bT : Binds K fdT ["box", "many"] []) (gT : mg "_law_take" = some (.ref fT)) (B : Bi mg) :
    FnOk P w K mg base CX0 (k + 2) f fd ["box", "some"] (spPick K) := by
  have GT : FnOk P w K mg base CX0 (k + 1) fT fdT ["box", "many"] spTake := ok_take FT B
  refine F.ok sc_law_pick (fun vs H Q E h => ?_) (fun cdv A outer s H vs Q E hr h => ?_)
  · obtain ⟨b, l, xs, rfl, _⟩ := h
    rfl
  · obtain ⟨b, l, xs, rfl, hb, hl, hl', n0, n1, q⟩ := h
    refine ⟨_, pss_one (ps_ret (pe_ix ix_list (pv 1) (pe_call GT hr rfl gT FT.kp bT .nil pass0 (pa_cons (pv 0) (pa_cons (pe_callB call_len_seq (by rfl) B.len PySem.boot_len (pa_cons (pv 1) pa_nil)) pa_nil))) (fun _ _ => rfl))), ?_⟩
    refine ⟨_, rfl, _, rfl, _, rfl, l, _, rfl, .inl hl, b, _, rfl, hb, by omega, by omega, fun v x y z v0 v1 hx => ?_⟩
    have hv : v.toNat < xs.length := by omega
    have e : v = ((v.toNat : Nat) : Int) := by omega
    exact ⟨l, xs, v, xs[v.toNat], rfl, rfl, hl' x y z, at_of e (List.getElem?_eq_getElem hv), q v.toNat _ x y z (List.getElem?_eq_getElem hv) hx⟩
end
end Kx

set_option Elab.async false
set_option linter.all false
set_option maxRecDepth 100000
set_option maxHeartbeats 4000000
namespace L2
open PySem PySem.Spec PyProof.Rows
/-- X() of an own class without own __init__ -/
theorem pmk_own0 {X : Cx} {C : Addr} {bmB : List Value} {B newId initId : String} {x : Str} {p pos : Pos} (F : ExcBaseFacts B newId initId bmB) (q : PySem.W.excIn X.K C bmB newId = true) (gC : X.mg x = some (.ref C)) (kC : PySem.W.keepIn X.K (.ref C) = true) (r : Raises X (.ref C))
    (hg : Gl X x := by rfl) (hdb : (x == ("__debug__" : Str)) = false := by decide) : PMk X (.Call (.Name x p) [] [] pos) (fun _ H Q => Q (.ref C) none H) := by
  intro pins s σ H Q I h
  refine wpAny_Call_Name_kw (ld_glob I hg gC ?_ hdb)
  refine PySem.W.callWith_K0 I.kIn kC ?_
  show wpAny _ _ (call (.ref C) []) _ _ _
  obtain ⟨bm, N, nm, qn, bs, hdct, sn, sub, ab, col, dd, k0, k1, k2, k3, k5, mN, hC, hN, hni, T⟩ := exc_obj I.kIn q
  exact wpAny_call_exc_subT F T hC hN hni (fun h' e hm => mk_of I hm r h (I.hok.gone hm.new)) (Nat.zero_le _)
end L2
namespace Kx
open PySem PySem.Spec PyProof.Rows L2
/-! ### the error classes -/
/-- what the top has written: the classes at C i, their __init__ at fi i, the base at S -/
structure Txt (K : PySem.W.Frag) (mg : Str → Option Value) (C fi : Nat → Addr) (S : Addr) : Prop where
  e0 : PySem.ErrWord.Is K mg "InvalidBook" (C 0) (fi 0)
  e1 : PySem.ErrAt.Is K mg "InvalidModule" (C 1) (fi 1)
  e2 : PySem.ErrAt.Is K mg "InvalidSecrets" (C 2) (fi 2)
  e3 : PySem.ErrAt.Is K mg "InvalidState" (C 3) (fi 3)
  e4 : PySem.ErrAt.Is K mg "InvalidPlay" (C 4) (fi 4)
  e5 : PySem.ErrAt.Is K mg "InvalidScript" (C 5) (fi 5)
  e6 : PySem.ErrAt.Is K mg "InvalidStranger" (C 6) (fi 6)
  e7 : PySem.ErrAt.Is K mg "InvalidText" (C 7) (fi 7)
  e8 : PySem.ErrAt.Is K mg "InvalidSpots" (C 8) (fi 8)
  e9 : PySem.ErrAt.Is K mg "InvalidCode" (C 9) (fi 9)
  e10 : PySem.ErrAt.Is K mg "InvalidRoom" (C 10) (fi 10)
  e11 : PySem.ErrAt.Is K mg "InvalidFrames" (C 11) (fi 11)
  e12 : PySem.ErrAt.Is K mg "InvalidWeb" (C 12) (fi 12)
  e13 : PySem.ErrAt.Is K mg "InvalidLots" (C 13) (fi 13)
  e14 : PySem.ErrAt.Is K mg "InvalidLink" (C 14) (fi 14)
  e15 : PySem.ErrAt.Is K mg "InvalidIndex" (C 15) (fi 15)
  e16 : PySem.ErrWord.Is K mg "InvalidSize" (C 16) (fi 16)
  e17 : PySem.ErrMany.Is K mg "LargeTable" (C 17) (fi 17)
  e18 : PySem.ErrAt.Is K mg "Refused" (C 18) (fi 18)
  e19 : PySem.ErrName.Is K mg "NoName" (C 19) (fi 19)
  x20 : PySem.W.excIn K (C 20) PySem.ErrX.tailE "Exception.__new__" = true
  g20 : mg "InvalidCommand" = some (.ref (C 20))
  k20 : PySem.W.keepIn K (.ref (C 20)) = true
  b20 : PySem.W.subIn K (.ref (C 20)) (.type "BaseException") = some true
  t20 : PySem.W.typeIn K (.ref (C 20)) = some (.type "type")
  gS : mg "SeamError" = some (.ref S)
  bS : PySem.W.subIn K (.ref S) (.type "BaseException") = some true
  tS : PySem.W.typeIn K (.ref S) = some (.type "type")
  iS : (PySem.W.clsIn K S).isSome = true
  mro : ∀ i, i ≤ 20 → (PySem.W.clsIn K (C i)).map (·.mro) = some (.ref (C i) :: .ref S :: PySem.ErrX.tailE)
  inj : ∀ i j, i ≤ 20 → j ≤ 20 → C i = C j → i = j
  neS : ∀ i, i ≤ 20 → C i ≠ S
section
variable {K : PySem.W.Frag} {mg : Str → Option Value} {C fi : Nat → Addr} {S : Addr}
theorem Txt.base (T : Txt K mg C fi S) : ∀ i, i ≤ 20 → PySem.W.subIn K (.ref (C i)) (.type "BaseException") = some true ∧ PySem.W.typeIn K (.ref (C i)) = some (.type "type") := fun i hi => by
  match i, hi with
  | 0, _ => exact ⟨T.e0.exC, T.e0.tyC⟩
  | 1, _ => exact ⟨T.e1.exC, T.e1.tyC⟩
  | 2, _ => exact ⟨T.e2.exC, T.e2.tyC⟩
  | 3, _ => exact ⟨T.e3.exC, T.e3.tyC⟩
  | 4, _ => exact ⟨T.e4.exC, T.e4.tyC⟩
  | 5, _ => exact ⟨T.e5.exC, T.e5.tyC⟩
  | 6, _ => exact ⟨T.e6.exC, T.e6.tyC⟩
  | 7, _ => exact ⟨T.e7.exC, T.e7.tyC⟩
  | 8, _ => exact ⟨T.e8.exC, T.e8.tyC⟩
  | 9, _ => exact ⟨T.e9.exC, T.e9.tyC⟩
  | 10, _ => exact ⟨T.e10.exC, T.e10.tyC⟩
  | 11, _ => exact ⟨T.e11.exC, T.e11.tyC⟩
  | 12, _ => exact ⟨T.e12.exC, T.e12.tyC⟩
  | 13, _ => exact ⟨T.e13.exC, T.e13.tyC⟩
  | 14, _ => exact ⟨T.e14.exC, T.e14.tyC⟩
  | 15, _ => exact ⟨T.e15.exC, T.e15.tyC⟩
  | 16, _ => exact ⟨T.e16.exC, T.e16.tyC⟩
  | 17, _ => exact ⟨T.e17.exC, T.e17.tyC⟩
  | 18, _ => exact ⟨T.e18.exC, T.e18.tyC⟩
  | 19, _ => exact ⟨T.e19.exC, T.e19.tyC⟩
  | 20, _ => exact ⟨T.b20, T.t20⟩
  | n + 21, h => exact absurd h (by omega)
theorem Txt.sub (T : Txt K mg C fi S) {i : Nat} (hi : i ≤ 20) (c : Value) : PySem.W.subIn K (.ref (C i)) c = some ((.ref (C i) :: .ref S :: PySem.ErrX.tailE : List Value).contains c) := by
  have m := T.mro i hi
  cases e : PySem.W.clsIn K (C i) with
  | none =>
    rw [e] at m
    cases m
  | some cd =>
    rw [e] at m
    have m' : cd.mro = .ref (C i) :: .ref S :: PySem.ErrX.tailE := Option.some.inj m
    show PySem.W.mroIn K (C i) c = _
    unfold PySem.W.mroIn
    rw [e, Option.bind_some, m', if_neg (show ¬ (List.isEmpty (Value.ref (C i) :: .ref S :: PySem.ErrX.tailE) = true) from Bool.false_ne_true)]
theorem exm_mk {a b : Addr} {r : Bool} (h1 : PySem.W.subIn K (.ref b) (.type "BaseException") = some true) (h2 : (PySem.W.clsIn K b).isSome = true) (h3 : PySem.W.typeIn K (.ref b) = some (.type "type")) (h4 : PySem.W.subIn K (.ref a) (.ref b) = some r) :
    PySem.W.exmOne K (.ref a) (.ref b) = some r := by
  have e1 : (PySem.W.subIn K (.ref b) (.type "BaseException") == some true) = true := by rw [h1] <;> rfl
  have e2 : ((PySem.W.clsIn K b).isSome && PySem.W.typeIn K (.ref b) == some (.type "type")) = true := by rw [h2, h3] <;> rfl
  show (if (PySem.W.subIn K (.ref b) (.type "BaseException") == some true) = true then (if ((PySem.W.clsIn K b).isSome && PySem.W.typeIn K (.ref b) == some (.type "type")) = true then PySem.W.subIn K (.ref a) (.ref b) else none) else none) = some r
  rw [if_pos e1, if_pos e2]
  exact h4
theorem Txt.isC (T : Txt K mg C fi S) {i : Nat} (hi : i ≤ 20) : (PySem.W.clsIn K (C i)).isSome = true := by
  have m := T.mro i hi
  cases e : PySem.W.clsIn K (C i) with
  | none =>
    rw [e] at m
    cases m
  | some cd => rfl
theorem Txt.exm (T : Txt K mg C fi S) {i j : Nat} (hi : i ≤ 20) (hj : j ≤ 20) : PySem.W.exmOne K (.ref (C i)) (.ref (C j)) = some (decide (i = j)) := by
  refine exm_mk (T.base j hj).1 (T.isC hj) (T.base j hj).2 ?_
  rw [T.sub hi]
  by_cases e : i = j
  · subst e
    simp
  · have h1 : ¬ C j = C i := fun z => e (T.inj i j hi hj z.symm)
    have h2 : ¬ C j = S := T.neS j hj
    simp [h1, h2, e, PySem.ErrX.tailE]
theorem Txt.exS (T : Txt K mg C fi S) {i : Nat} (hi : i ≤ 20) : PySem.W.exmOne K (.ref (C i)) (.ref S) = some true := by
  refine exm_mk T.bS T.iS T.tS ?_
  rw [T.sub hi]
  simp
end
/-- the field in which the i-th error keeps its thing -/
def fld : Nat → Str
  | 0 => "word" | 16 => "word" | 17 => "many" | 19 => "name" | _ => "at"
/-- how the i-th error goes out that was made of x -/
def Out (C : Nat → Addr) (i : Nat) (x : V) (H : Hp) (E : XK) : Prop :=
  (i < 20 → ∀ d, H d = none → E (.ref (C i)) (some d) (upd H d (.xd [(fld i, x)]))) ∧ (i = 20 → E (.ref (C 20)) none H)
def spRaise (C : Nat → Addr) (lo hi : Nat) : Sp := fun vs H _ E => ∃ (i : Nat) (x : V), vs = [.int (i : Int), x] ∧ lo ≤ i ∧ i ≤ hi ∧ Out C i x H E
def spCaught (C : Nat → Addr) (hi : Nat) : Sp := fun vs H Q E => ∃ (i : Nat) (x : V), vs = [.int (i : Int), x] ∧ i ≤ 20 ∧
  (i ≤ hi → ∀ H' p, Same H H' → H' p = some (.tup [.int (i : Int), x]) → Q (.ref p) H') ∧ (hi < i → Out C i x H E)
def spIsBase : Sp := fun vs H Q _ => ∃ (i : Nat) (x : V), vs = [.int (i : Int), x] ∧ i ≤ 20 ∧ ∀ H', Same H H' → Q (.bl true) H'
theorem same_new {H : Hp} {p : Addr} {o : HO} (h : H p = none) : Same H (upd H p o) := fun b u e => by
  rw [upd_ne (ne_of_none e h)]
  exact e
section
variable {P : Program} {w : World} {K : PySem.W.Frag} {mg : Str → Option Value} {base : Heap} {C fi : Nat → Addr} {S : Addr}
theorem ok_raise_a {f : Addr} {fd : FuncData} {k : Nat} (F : Fun K "_law_raise_a" "_law_raise_a" s_law_raise_a f fd) (T : Txt K mg C fi S) : FnOk P w K mg base (L2.CX P w) (k + 2) f fd ["number", "thing"] (spRaise C 0 7) := by
  refine F.okX sc_law_raise_a (fun vs H Q E h => ?_) (fun cdv A outer s H vs Q E hr h => ?_)
  · obtain ⟨i, x, rfl, _⟩ := h
    rfl
  · obtain ⟨i, x, rfl, l0, l1, o1, o2⟩ := h
    refine ⟨_, pss_one (ps_if (pt_cmpR op_eq (pv 0) pe_int (nomark _)) (pss_one (ps_raise_word rfl T.e0 hr (takes_of rfl rfl rfl rfl) (pa_cons (pv 1) pa_nil))) (pss_one (ps_if (pt_cmpR op_eq (pv 0) pe_int (nomark _)) (pss_one (ps_raise_at rfl T.e1 hr (takes_of rfl rfl rfl rfl) (pa_cons (pv 1) pa_nil))) (pss_one (ps_if (pt_cmpR op_eq (pv 0) pe_int (nomark _)) (pss_one (ps_raise_at rfl T.e2 hr (takes_of rfl rfl rfl rfl) (pa_cons (pv 1) pa_nil))) (pss_one (ps_if (pt_cmpR op_eq (pv 0) pe_int (nomark _)) (pss_one (ps_raise_at rfl T.e3 hr (takes_of rfl rfl rfl rfl) (pa_cons (pv 1) pa_nil))) (pss_one (ps_if (pt_cmpR op_eq (pv 0) pe_int (nomark _)) (pss_one (ps_raise_at rfl T.e4 hr (takes_of rfl rfl rfl rfl) (pa_cons (pv 1) pa_nil))) (pss_one (ps_if (pt_cmpR op_eq (pv 0) pe_int (nomark _)) (pss_one (ps_raise_at rfl T.e5 hr (takes_of rfl rfl rfl rfl) (pa_cons (pv 1) pa_nil))) (pss_one (ps_if (pt_cmpR op_eq (pv 0) pe_int (nomark _)) (pss_one (ps_raise_at rfl T.e6 hr (takes_of rfl rfl rfl rfl) (pa_cons (pv 1) pa_nil))) (pss_one (ps_if (pt_cmpR op_eq (pv 0) pe_int (nomark _)) (pss_one (ps_raise_at rfl T.e7 hr (takes_of rfl rfl rfl rfl) (pa_cons (pv 1) pa_nil))) pss_nil))))))))))))))), ?_⟩
    match i, l0, l1, o1, o2 with
    | 0, _, _, o1, o2 => exact ⟨_, rfl, rfl, _, rfl, iteT ⟨_, rfl, _, rfl, fun d hd => o1 (by decide) d hd⟩⟩
    | 1, _, _, o1, o2 => exact ⟨_, rfl, rfl, _, rfl, iteF ⟨_, rfl, rfl, _, rfl, iteT ⟨_, rfl, _, rfl, fun d hd => o1 (by decide) d hd⟩⟩⟩
    | 2, _, _, o1, o2 => exact ⟨_, rfl, rfl, _, rfl, iteF ⟨_, rfl, rfl, _, rfl, iteF ⟨_, rfl, rfl, _, rfl, iteT ⟨_, rfl, _, rfl, fun d hd => o1 (by decide) d hd⟩⟩⟩⟩
    | 3, _, _, o1, o2 => exact ⟨_, rfl, rfl, _, rfl, iteF ⟨_, rfl, rfl, _, rfl, iteF ⟨_, rfl, rfl, _, rfl, iteF ⟨_, rfl, rfl, _, rfl, iteT ⟨_, rfl, _, rfl, fun d hd => o1 (by decide) d hd⟩⟩⟩⟩⟩
    | 4, _, _, o1, o2 => exact ⟨_, rfl, rfl, _, rfl, iteF ⟨_, rfl, rfl, _, rfl, iteF ⟨_, rfl, rfl, _, rfl, iteF ⟨_, rfl, rfl, _, rfl, iteF ⟨_, rfl, rfl, _, rfl, iteT ⟨_, rfl, _, rfl, fun d hd => o1 (by decide) d hd⟩⟩⟩⟩⟩⟩
    | 5, _, _, o1, o2 => exact ⟨_, rfl, rfl, _, rfl, iteF ⟨_, rfl, rfl, _, rfl, iteF ⟨_, rfl, rfl, _, rfl, iteF ⟨_, rfl, rfl, _, rfl, iteF ⟨_, rfl, rfl, _, rfl, iteF ⟨_, rfl, rfl, _, rfl, iteT ⟨_, rfl, _, rfl, fun d hd => o1 (by decide) d hd⟩⟩⟩⟩⟩⟩⟩
    | 6, _, _, o1, o2 => exact ⟨_, rfl, rfl, _, rfl, iteF ⟨_, rfl, rfl, _, rfl, iteF ⟨_, rfl, rfl, _, rfl, iteF ⟨_, rfl, rfl, _, rfl, iteF ⟨_, rfl, rfl, _, rfl, iteF ⟨_, rfl, rfl, _, rfl, iteF ⟨_, rfl, rfl, _, rfl, iteT ⟨_, rfl, _, rfl, fun d hd => o1 (by decide) d hd⟩⟩⟩⟩⟩⟩⟩⟩
    | 7, _, _, o1, o2 => exact ⟨_, rfl, rfl, _, rfl, iteF ⟨_, rfl, rfl, _, rfl, iteF ⟨_, rfl, rfl, _, rfl, iteF ⟨_, rfl, rfl, _, rfl, iteF ⟨_, rfl, rfl, _, rfl, iteF ⟨_, rfl, rfl, _, rfl, iteF ⟨_, rfl, rfl, _, rfl, iteF ⟨_, rfl, rfl, _, rfl, iteT ⟨_, rfl, _, rfl, fun d hd => o1 (by decide) d hd⟩⟩⟩⟩⟩⟩⟩⟩⟩
    | n + 8, _, h, _, _ => exact absurd h (by omega)
theorem ok_raise_b {f : Addr} {fd : FuncData} {k : Nat} (F : Fun K "_law_raise_b" "_law_raise_b" s_law_raise_b f fd) (T : Txt K mg C fi S) : FnOk P w K mg base (L2.CX P w) (k + 2) f fd ["number", "thing"] (spRaise C 8 15) := by
  refine F.okX sc_law_raise_b (fun vs H Q E h => ?_) (fun cdv A outer s H vs Q E hr h => ?_)
  · obtain ⟨i, x, rfl, _⟩ := h
    rfl
  · obtain ⟨i, x, rfl, l0, l1, o1, o2⟩ := h
    refine ⟨_, pss_one (ps_if (pt_cmpR op_eq (pv 0) pe_int (nomark _)) (pss_one (ps_raise_at rfl T.e8 hr (takes_of rfl rfl rfl rfl) (pa_cons (pv 1) pa_nil))) (pss_one (ps_if (pt_cmpR op_eq (pv 0) pe_int (nomark _)) (pss_one (ps_raise_at rfl T.e9 hr (takes_of rfl rfl rfl rfl) (pa_cons (pv 1) pa_nil))) (pss_one (ps_if (pt_cmpR op_eq (pv 0) pe_int (nomark _)) (pss_one (ps_raise_at rfl T.e10 hr (takes_of rfl rfl rfl rfl) (pa_cons (pv 1) pa_nil))) (pss_one (ps_if (pt_cmpR op_eq (pv 0) pe_int (nomark _)) (pss_one (ps_raise_at rfl T.e11 hr (takes_of rfl rfl rfl rfl) (pa_cons (pv 1) pa_nil))) (pss_one (ps_if (pt_cmpR op_eq (pv 0) pe_int (nomark _)) (pss_one (ps_raise_at rfl T.e12 hr (takes_of rfl rfl rfl rfl) (pa_cons (pv 1) pa_nil))) (pss_one (ps_if (pt_cmpR op_eq (pv 0) pe_int (nomark _)) (pss_one (ps_raise_at rfl T.e13 hr (takes_of rfl rfl rfl rfl) (pa_cons (pv 1) pa_nil))) (pss_one (ps_if (pt_cmpR op_eq (pv 0) pe_int (nomark _)) (pss_one (ps_raise_at rfl T.e14 hr (takes_of rfl rfl rfl rfl) (pa_cons (pv 1) pa_nil))) (pss_one (ps_if (pt_cmpR op_eq (pv 0) pe_int (nomark _)) (pss_one (ps_raise_at rfl T.e15 hr (takes_of rfl rfl rfl rfl) (pa_cons (pv 1) pa_nil))) pss_nil))))))))))))))), ?_⟩
    match i, l0, l1, o1, o2 with
    | 8, _, _, o1, o2 => exact ⟨_, rfl, rfl, _, rfl, iteT ⟨_, rfl, _, rfl, fun d hd => o1 (by decide) d hd⟩⟩
    | 9, _, _, o1, o2 => exact ⟨_, rfl, rfl, _, rfl, iteF ⟨_, rfl, rfl, _, rfl, iteT ⟨_, rfl, _, rfl, fun d hd => o1 (by decide) d hd⟩⟩⟩
    | 10, _, _, o1, o2 => exact ⟨_, rfl, rfl, _, rfl, iteF ⟨_, rfl, rfl, _, rfl, iteF ⟨_, rfl, rfl, _, rfl, iteT ⟨_, rfl, _, rfl, fun d hd => o1 (by decide) d hd⟩⟩⟩⟩
    | 11, _, _, o1, o2 => exact ⟨_, rfl, rfl, _, rfl, iteF ⟨_, rfl, rfl, _, rfl, iteF ⟨_, rfl, rfl, _, rfl, iteF ⟨_, rfl, rfl, _, rfl, iteT ⟨_, rfl, _, rfl, fun d hd => o1 (by decide) d hd⟩⟩⟩⟩⟩
    | 12, _, _, o1, o2 => exact ⟨_, rfl, rfl, _, rfl, iteF ⟨_, rfl, rfl, _, rfl, iteF ⟨_, rfl, rfl, _, rfl, iteF ⟨_, rfl, rfl, _, rfl, iteF ⟨_, rfl, rfl, _, rfl, iteT ⟨_, rfl, _, rfl, fun d hd => o1 (by decide) d hd⟩⟩⟩⟩⟩⟩
    | 13, _, _, o1, o2 => exact ⟨_, rfl, rfl, _, rfl, iteF ⟨_, rfl, rfl, _, rfl, iteF ⟨_, rfl, rfl, _, rfl, iteF ⟨_, rfl, rfl, _, rfl, iteF ⟨_, rfl, rfl, _, rfl, iteF ⟨_, rfl, rfl, _, rfl, iteT ⟨_, rfl, _, rfl, fun d hd => o1 (by decide) d hd⟩⟩⟩⟩⟩⟩⟩
    | 14, _, _, o1, o2 => exact ⟨_, rfl, rfl, _, rfl, iteF ⟨_, rfl, rfl, _, rfl, iteF ⟨_, rfl, rfl, _, rfl, iteF ⟨_, rfl, rfl, _, rfl, iteF ⟨_, rfl, rfl, _, rfl, iteF ⟨_, rfl, rfl, _, rfl, iteF ⟨_, rfl, rfl, _, rfl, iteT ⟨_, rfl, _, rfl, fun d hd => o1 (by decide) d hd⟩⟩⟩⟩⟩⟩⟩⟩
    | 15, _, _, o1, o2 => exact ⟨_, rfl, rfl, _, rfl, iteF ⟨_, rfl, rfl, _, rfl, iteF ⟨_, rfl, rfl, _, rfl, iteF ⟨_, rfl, rfl, _, rfl, iteF ⟨_, rfl, rfl, _, rfl, iteF ⟨_, rfl, rfl, _, rfl, iteF ⟨_, rfl, rfl, _, rfl, iteF ⟨_, rfl, rfl, _, rfl, iteT ⟨_, rfl, _, rfl, fun d hd => o1 (by decide) d hd⟩⟩⟩⟩⟩⟩⟩⟩⟩
    | 0, h, _, _, _ => exact absurd h (by decide)
    | 1, h, _, _, _ => exact absurd h (by decide)
    | 2, h, _, _, _ => exact absurd h (by decide)
    | 3, h, _, _, _ => exact absurd h (by decide)
    | 4, h, _, _, _ => exact absurd h (by decide)
    | 5, h, _, _, _ => exact absurd h (by decide)
    | 6, h, _, _, _ => exact absurd h (by decide)
    | 7, h, _, _, _ => exact absurd h (by decide)
    | n + 16, _, h, _, _ => exact absurd h (by omega)
theorem ok_raise_c {f : Addr} {fd : FuncData} {k : Nat} (F : Fun K "_law_raise_c" "_law_raise_c" s_law_raise_c f fd) (T : Txt K mg C fi S) : FnOk P w K mg base (L2.CX P w) (k + 2) f fd ["number", "thing"] (spRaise C 16 20) := by
  refine F.okX sc_law_raise_c (fun vs H Q E h => ?_) (fun cdv A outer s H vs Q E hr h => ?_)
  · obtain ⟨i, x, rfl, _⟩ := h
    rfl
  · obtain ⟨i, x, rfl, l0, l1, o1, o2⟩ := h
    refine ⟨_, pss_one (ps_if (pt_cmpR op_eq (pv 0) pe_int (nomark _)) (pss_one (ps_raise_word rfl T.e16 hr (takes_of rfl rfl rfl rfl) (pa_cons (pv 1) pa_nil))) (pss_one (ps_if (pt_cmpR op_eq (pv 0) pe_int (nomark _)) (pss_one (ps_raise_many rfl T.e17 hr (takes_of rfl rfl rfl rfl) (pa_cons (pv 1) pa_nil))) (pss_one (ps_if (pt_cmpR op_eq (pv 0) pe_int (nomark _)) (pss_one (ps_raise_at rfl T.e18 hr (takes_of rfl rfl rfl rfl) (pa_cons (pv 1) pa_nil))) (pss_one (ps_if (pt_cmpR op_eq (pv 0) pe_int (nomark _)) (pss_one (ps_raise_name rfl T.e19 hr (takes_of rfl rfl rfl rfl) (pa_cons (pv 1) pa_nil))) (pss_one (ps_if (pt_cmpR op_eq (pv 0) pe_int (nomark _)) (pss_one (ps_raise rfl (takes_of rfl rfl rfl rfl) (pmk_own0 PySem.F.excBase_Exception T.x20 T.g20 T.k20 (raises_own T.b20 T.t20)))) pss_nil))))))))), ?_⟩
    match i, l0, l1, o1, o2 with
    | 16, _, _, o1, o2 => exact ⟨_, rfl, rfl, _, rfl, iteT ⟨_, rfl, _, rfl, fun d hd => o1 (by decide) d hd⟩⟩
    | 17, _, _, o1, o2 => exact ⟨_, rfl, rfl, _, rfl, iteF ⟨_, rfl, rfl, _, rfl, iteT ⟨_, rfl, _, rfl, fun d hd => o1 (by decide) d hd⟩⟩⟩
    | 18, _, _, o1, o2 => exact ⟨_, rfl, rfl, _, rfl, iteF ⟨_, rfl, rfl, _, rfl, iteF ⟨_, rfl, rfl, _, rfl, iteT ⟨_, rfl, _, rfl, fun d hd => o1 (by decide) d hd⟩⟩⟩⟩
    | 19, _, _, o1, o2 => exact ⟨_, rfl, rfl, _, rfl, iteF ⟨_, rfl, rfl, _, rfl, iteF ⟨_, rfl, rfl, _, rfl, iteF ⟨_, rfl, rfl, _, rfl, iteT ⟨_, rfl, _, rfl, fun d hd => o1 (by decide) d hd⟩⟩⟩⟩⟩
    | 20, _, _, o1, o2 => exact ⟨_, rfl, rfl, _, rfl, iteF ⟨_, rfl, rfl, _, rfl, iteF ⟨_, rfl, rfl, _, rfl, iteF ⟨_, rfl, rfl, _, rfl, iteF ⟨_, rfl, rfl, _, rfl, iteT (o2 rfl)⟩⟩⟩⟩⟩
    | 0, h, _, _, _ => exact absurd h (by decide)
    | 1, h, _, _, _ => exact absurd h (by decide)
    | 2, h, _, _, _ => exact absurd h (by decide)
    | 3, h, _, _, _ => exact absurd h (by decide)
    | 4, h, _, _, _ => exact absurd h (by decide)
    | 5, h, _, _, _ => exact absurd h (by decide)
    | 6, h, _, _, _ => exact absurd h (by decide)
    | 7, h, _, _, _ => exact absurd h (by decide)
    | 8, h, _, _, _ => exact absurd h (by decide)
    | 9, h, _, _, _ => exact absurd h (by decide)
    | 10, h, _, _, _ => exact absurd h (by decide)
    | 11, h, _, _, _ => exact absurd h (by decide)
    | 12, h, _, _, _ => exact absurd h (by decide)
    | 13, h, _, _, _ => exact absurd h (by decide)
    | 14, h, _, _, _ => exact absurd h (by decide)
    | 15, h, _, _, _ => exact absurd h (by decide)
    | n + 21, _, h, _, _ => exact absurd h (by omega)
theorem ok_raise {f fa fb fc : Addr} {fd fda fdb fdc : FuncData} {k : Nat} (F : Fun K "_law_raise" "_law_raise" s_law_raise f fd) (T : Txt K mg C fi S)
    (Fa : Fun K "_law_raise_a" "_law_raise_a" s_law_raise_a fa fda) (ba : Binds K fda ["number", "thing"] []) (ga : mg "_law_raise_a" = some (.ref fa))
    (Fb : Fun K "_law_raise_b" "_law_raise_b" s_law_raise_b fb fdb) (bb : Binds K fdb ["number", "thing"] []) (gb : mg "_law_raise_b" = some (.ref fb))
    (Fc : Fun K "_law_raise_c" "_law_raise_c" s_law_raise_c fc fdc) (bc : Binds K fdc ["number", "thing"] []) (gc : mg "_law_raise_c" = some (.ref fc)) :
    FnOk P w K mg base (L2.CX P w) (k + 3) f fd ["number", "thing"] (spRaise C 0 20) := by
  have Ga : FnOk P w K mg base (L2.CX P w) (k + 2) fa fda ["number", "thing"] (spRaise C 0 7) := ok_raise_a Fa T
  have Gb : FnOk P w K mg base (L2.CX P w) (k + 2) fb fdb ["number", "thing"] (spRaise C 8 15) := ok_raise_b Fb T
  have Gc : FnOk P w K mg base (L2.CX P w) (k + 2) fc fdc ["number", "thing"] (spRaise C 16 20) := ok_raise_c Fc T
  refine F.okX sc_law_raise (fun vs H Q E h => ?_) (fun cdv A outer s H vs Q E hr h => ?_)
  · obtain ⟨i, x, rfl, _⟩ := h
    rfl
  · obtain ⟨i, x, rfl, l0, l1, o⟩ := h
    refine ⟨_, pss_one (ps_if (pt_cmpR op_lt (pv 0) pe_int (nomark _)) (pss_one (ps_expr (pe_call (E := E) Ga hr rfl ga Fa.kp ba .nil (passes_call (takes_of rfl rfl rfl rfl) fun _ _ _ _ h => h) (pa_cons (pv 0) (pa_cons (pv 1) pa_nil)))))
      (pss_one (ps_if (pt_cmpR op_lt (pv 0) pe_int (nomark _)) (pss_one (ps_expr (pe_call (E := E) Gb hr rfl gb Fb.kp bb .nil (passes_call (takes_of rfl rfl rfl rfl) fun _ _ _ _ h => h) (pa_cons (pv 0) (pa_cons (pv 1) pa_nil)))))
        (pss_one (ps_expr (pe_call (E := E) Gc hr rfl gc Fc.kp bc .nil (passes_call (takes_of rfl rfl rfl rfl) fun _ _ _ _ h => h) (pa_cons (pv 0) (pa_cons (pv 1) pa_nil)))))))), ?_⟩
    refine ⟨_, rfl, _, _, rfl, rfl, _, rfl, ite2 (fun e => ?_) (fun e => ?_)⟩
    · have e1 : (i : Int) < 8 := of_decide_eq_true e
      exact ⟨_, rfl, _, rfl, i, x, rfl, Nat.zero_le _, by omega, o⟩
    · have e1 : ¬ (i : Int) < 8 := fun z => e (decide_eq_true z)
      refine ⟨_, rfl, _, _, rfl, rfl, _, rfl, ite2 (fun e => ?_) (fun e => ?_)⟩
      · have e2 : (i : Int) < 16 := of_decide_eq_true e
        exact ⟨_, rfl, _, rfl, i, x, rfl, by omega, by omega, o⟩
      · have e2 : ¬ (i : Int) < 16 := fun z => e (decide_eq_true z)
        exact ⟨_, rfl, _, rfl, i, x, rfl, by omega, l1, o⟩
end
end Kx

set_option Elab.async false
set_option linter.all false
set_option maxRecDepth 100000
set_option maxHeartbeats 4000000
namespace Kx
open PySem PySem.Spec PyProof.Rows L2
section
variable {K : PySem.W.Frag} {W0 : WX} {D : Ends} {x : Cls1} {r : List Cls1} {cls : Value} {d : Option Addr} {σ : L2.St} {H : Hp}
theorem mix_skip (h : PySem.W.exmOne K cls x.cls = some false) (k : wMix K W0 D r cls d σ H) : wMix K W0 D (x :: r) cls d σ H := ⟨false, h, fun q => Bool.noConfusion q, fun _ => k⟩
theorem mix_take (h : PySem.W.exmOne K cls x.cls = some true) (k : ∀ a, H a = none → x.goes a cls d D σ H) : wMix K W0 D (x :: r) cls d σ H := ⟨true, h, fun _ => k, fun q => Bool.noConfusion q⟩
end
/-- return (i, e.f), the error e in slot 2 -/
def tGet (tb : Addr → Value → Option Addr → TE) (i : Int) : Suite := fun a cls d => tRet (tTup (tCons (tC (.int i)) (tCons (tb a cls d) tNil)))
section
variable {P : Program} {w : World} {K : PySem.W.Frag} {mg : Str → Option Value} {base : Heap} {C fi : Nat → Addr} {S : Addr}
def cls_caught_a (C : Nat → Addr) : List Cls1 := [⟨.ref (C 0), some 2, tGet (fun a cls d => tByWord (C 0) a cls d (tVar 2)) 0⟩, ⟨.ref (C 1), some 2, tGet (fun a cls d => tByAt (C 1) a cls d (tVar 2)) 1⟩, ⟨.ref (C 2), some 2, tGet (fun a cls d => tByAt (C 2) a cls d (tVar 2)) 2⟩, ⟨.ref (C 3), some 2, tGet (fun a cls d => tByAt (C 3) a cls d (tVar 2)) 3⟩, ⟨.ref (C 4), some 2, tGet (fun a cls d => tByAt (C 4) a cls d (tVar 2)) 4⟩, ⟨.ref (C 5), some 2, tGet (fun a cls d => tByAt (C 5) a cls d (tVar 2)) 5⟩, ⟨.ref (C 6), some 2, tGet (fun a cls d => tByAt (C 6) a cls d (tVar 2)) 6⟩, ⟨.ref (C 7), some 2, tGet (fun a cls d => tByAt (C 7) a cls d (tVar 2)) 7⟩]
theorem ok_caught_a {f fP : Addr} {fd fdP : FuncData} {k : Nat} (F : Fun K "_law_caught_a" "_law_caught_a" s_law_caught_a f fd) (T : Txt K mg C fi S) (FP : Fun K "_law_raise" "_law_raise" s_law_raise fP fdP) (b : Binds K fdP ["number", "thing"] []) (g : mg "_law_raise" = some (.ref fP))
    (G : FnOk P w K mg base (L2.CX P w) (k + 3) fP fdP ["number", "thing"] (spRaise C 0 20)) : FnOk P w K mg base (L2.CX P w) (k + 4) f fd ["number", "thing"] (spCaught C 7) := by
  refine F.okX sc_law_caught_a (fun vs H Q E h => ?_) (fun cdv A outer s H vs Q E hr h => ?_)
  · obtain ⟨i, x, rfl, _⟩ := h
    rfl
  · obtain ⟨i, x, rfl, l1, q, o⟩ := h
    refine ⟨_, pss_cons (by exact (ps_try_mix (tb := fun W => tDrop (tCallS (spRaise C 0 20) (WE W) (tCons (tVar 0) (tCons (tVar 1) tNil)))) (W0 := (fun cls d _ H => E cls d H)) (l := cls_caught_a C) rfl rfl sc_law_caught_a.nd (takes_of rfl rfl rfl rfl)
      (fun W pn xe tk _ => pss_one (ps_expr (by exact (pe_callS G hr rfl g FP.kp b (fun σ => passAt tk σ) (by exact (pa_cons (pv 0) (pa_cons (pv 1) pa_nil)))))))
      (.named rfl rfl ⟨rfl, by decide, .inl T.e0.gC⟩ (fun a oe cls d pn hz hf => pss_one (ps_ret (pe_tup (pa_cons pe_int (pa_cons (by exact (pe_by_word T.e0 hz hf (pv 2))) pa_nil))))) (.named rfl rfl ⟨rfl, by decide, .inl T.e1.gC⟩ (fun a oe cls d pn hz hf => pss_one (ps_ret (pe_tup (pa_cons pe_int (pa_cons (by exact (pe_by_at T.e1 hz hf (pv 2))) pa_nil))))) (.named rfl rfl ⟨rfl, by decide, .inl T.e2.gC⟩ (fun a oe cls d pn hz hf => pss_one (ps_ret (pe_tup (pa_cons pe_int (pa_cons (by exact (pe_by_at T.e2 hz hf (pv 2))) pa_nil))))) (.named rfl rfl ⟨rfl, by decide, .inl T.e3.gC⟩ (fun a oe cls d pn hz hf => pss_one (ps_ret (pe_tup (pa_cons pe_int (pa_cons (by exact (pe_by_at T.e3 hz hf (pv 2))) pa_nil))))) (.named rfl rfl ⟨rfl, by decide, .inl T.e4.gC⟩ (fun a oe cls d pn hz hf => pss_one (ps_ret (pe_tup (pa_cons pe_int (pa_cons (by exact (pe_by_at T.e4 hz hf (pv 2))) pa_nil))))) (.named rfl rfl ⟨rfl, by decide, .inl T.e5.gC⟩ (fun a oe cls d pn hz hf => pss_one (ps_ret (pe_tup (pa_cons pe_int (pa_cons (by exact (pe_by_at T.e5 hz hf (pv 2))) pa_nil))))) (.named rfl rfl ⟨rfl, by decide, .inl T.e6.gC⟩ (fun a oe cls d pn hz hf => pss_one (ps_ret (pe_tup (pa_cons pe_int (pa_cons (by exact (pe_by_at T.e6 hz hf (pv 2))) pa_nil))))) (.named rfl rfl ⟨rfl, by decide, .inl T.e7.gC⟩ (fun a oe cls d pn hz hf => pss_one (ps_ret (pe_tup (pa_cons pe_int (pa_cons (by exact (pe_by_at T.e7 hz hf (pv 2))) pa_nil))))) .nil)))))))))) (pss_one (ps_ret pe_non)), ?_⟩
    have fin : ∀ (i : Nat) (x : V), (i ≤ 7 → ∀ H' p, Same H H' → H' p = some (.tup [.int (i : Int), x]) → Q (.ref p) H') → ∀ H1, Same H H1 → i ≤ 7 → ∀ p, H1 p = none → Q (.ref p) (upd H1 p (.tup [.int (i : Int), x])) := fun i x q H1 s1 hi p hp =>
      q hi _ p (s1.trans (same_new hp)) upd_same
    match i, l1, q, o with
    | 0, _, q, o => exact ⟨_, rfl, _, rfl, 0, x, rfl, Nat.zero_le _, by decide, ⟨fun _ d hd => mix_take (T.exm (i := 0) (j := 0) (by decide) (by decide)) fun a ha => ⟨_, rfl, rfl, rfl, d, x, rfl, upd_same, (by show 2 ≤ sizeLine; decide), fun p hp => fin 0 x q _ (same_new hd) (by decide) p hp⟩, fun h => absurd h (by decide)⟩⟩
    | 1, _, q, o => exact ⟨_, rfl, _, rfl, 1, x, rfl, Nat.zero_le _, by decide, ⟨fun _ d hd => mix_skip (T.exm (i := 1) (j := 0) (by decide) (by decide)) (mix_take (T.exm (i := 1) (j := 1) (by decide) (by decide)) fun a ha => ⟨_, rfl, rfl, rfl, d, x, rfl, upd_same, (by show 2 ≤ sizeLine; decide), fun p hp => fin 1 x q _ (same_new hd) (by decide) p hp⟩), fun h => absurd h (by decide)⟩⟩
    | 2, _, q, o => exact ⟨_, rfl, _, rfl, 2, x, rfl, Nat.zero_le _, by decide, ⟨fun _ d hd => mix_skip (T.exm (i := 2) (j := 0) (by decide) (by decide)) (mix_skip (T.exm (i := 2) (j := 1) (by decide) (by decide)) (mix_take (T.exm (i := 2) (j := 2) (by decide) (by decide)) fun a ha => ⟨_, rfl, rfl, rfl, d, x, rfl, upd_same, (by show 2 ≤ sizeLine; decide), fun p hp => fin 2 x q _ (same_new hd) (by decide) p hp⟩)), fun h => absurd h (by decide)⟩⟩
    | 3, _, q, o => exact ⟨_, rfl, _, rfl, 3, x, rfl, Nat.zero_le _, by decide, ⟨fun _ d hd => mix_skip (T.exm (i := 3) (j := 0) (by decide) (by decide)) (mix_skip (T.exm (i := 3) (j := 1) (by decide) (by decide)) (mix_skip (T.exm (i := 3) (j := 2) (by decide) (by decide)) (mix_take (T.exm (i := 3) (j := 3) (by decide) (by decide)) fun a ha => ⟨_, rfl, rfl, rfl, d, x, rfl, upd_same, (by show 2 ≤ sizeLine; decide), fun p hp => fin 3 x q _ (same_new hd) (by decide) p hp⟩))), fun h => absurd h (by decide)⟩⟩
    | 4, _, q, o => exact ⟨_, rfl, _, rfl, 4, x, rfl, Nat.zero_le _, by decide, ⟨fun _ d hd => mix_skip (T.exm (i := 4) (j := 0) (by decide) (by decide)) (mix_skip (T.exm (i := 4) (j := 1) (by decide) (by decide)) (mix_skip (T.exm (i := 4) (j := 2) (by decide) (by decide)) (mix_skip (T.exm (i := 4) (j := 3) (by decide) (by decide)) (mix_take (T.exm (i := 4) (j := 4) (by decide) (by decide)) fun a ha => ⟨_, rfl, rfl, rfl, d, x, rfl, upd_same, (by show 2 ≤ sizeLine; decide), fun p hp => fin 4 x q _ (same_new hd) (by decide) p hp⟩)))), fun h => absurd h (by decide)⟩⟩
    | 5, _, q, o => exact ⟨_, rfl, _, rfl, 5, x, rfl, Nat.zero_le _, by decide, ⟨fun _ d hd => mix_skip (T.exm (i := 5) (j := 0) (by decide) (by decide)) (mix_skip (T.exm (i := 5) (j := 1) (by decide) (by decide)) (mix_skip (T.exm (i := 5) (j := 2) (by decide) (by decide)) (mix_skip (T.exm (i := 5) (j := 3) (by decide) (by decide)) (mix_skip (T.exm (i := 5) (j := 4) (by decide) (by decide)) (mix_take (T.exm (i := 5) (j := 5) (by decide) (by decide)) fun a ha => ⟨_, rfl, rfl, rfl, d, x, rfl, upd_same, (by show 2 ≤ sizeLine; decide), fun p hp => fin 5 x q _ (same_new hd) (by decide) p hp⟩))))), fun h => absurd h (by decide)⟩⟩
    | 6, _, q, o => exact ⟨_, rfl, _, rfl, 6, x, rfl, Nat.zero_le _, by decide, ⟨fun _ d hd => mix_skip (T.exm (i := 6) (j := 0) (by decide) (by decide)) (mix_skip (T.exm (i := 6) (j := 1) (by decide) (by decide)) (mix_skip (T.exm (i := 6) (j := 2) (by decide) (by decide)) (mix_skip (T.exm (i := 6) (j := 3) (by decide) (by decide)) (mix_skip (T.exm (i := 6) (j := 4) (by decide) (by decide)) (mix_skip (T.exm (i := 6) (j := 5) (by decide) (by decide)) (mix_take (T.exm (i := 6) (j := 6) (by decide) (by decide)) fun a ha => ⟨_, rfl, rfl, rfl, d, x, rfl, upd_same, (by show 2 ≤ sizeLine; decide), fun p hp => fin 6 x q _ (same_new hd) (by decide) p hp⟩)))))), fun h => absurd h (by decide)⟩⟩
    | 7, _, q, o => exact ⟨_, rfl, _, rfl, 7, x, rfl, Nat.zero_le _, by decide, ⟨fun _ d hd => mix_skip (T.exm (i := 7) (j := 0) (by decide) (by decide)) (mix_skip (T.exm (i := 7) (j := 1) (by decide) (by decide)) (mix_skip (T.exm (i := 7) (j := 2) (by decide) (by decide)) (mix_skip (T.exm (i := 7) (j := 3) (by decide) (by decide)) (mix_skip (T.exm (i := 7) (j := 4) (by decide) (by decide)) (mix_skip (T.exm (i := 7) (j := 5) (by decide) (by decide)) (mix_skip (T.exm (i := 7) (j := 6) (by decide) (by decide)) (mix_take (T.exm (i := 7) (j := 7) (by decide) (by decide)) fun a ha => ⟨_, rfl, rfl, rfl, d, x, rfl, upd_same, (by show 2 ≤ sizeLine; decide), fun p hp => fin 7 x q _ (same_new hd) (by decide) p hp⟩))))))), fun h => absurd h (by decide)⟩⟩
    | 8, _, q, o => exact ⟨_, rfl, _, rfl, 8, x, rfl, Nat.zero_le _, by decide, ⟨fun _ d hd => mix_skip (T.exm (i := 8) (j := 0) (by decide) (by decide)) (mix_skip (T.exm (i := 8) (j := 1) (by decide) (by decide)) (mix_skip (T.exm (i := 8) (j := 2) (by decide) (by decide)) (mix_skip (T.exm (i := 8) (j := 3) (by decide) (by decide)) (mix_skip (T.exm (i := 8) (j := 4) (by decide) (by decide)) (mix_skip (T.exm (i := 8) (j := 5) (by decide) (by decide)) (mix_skip (T.exm (i := 8) (j := 6) (by decide) (by decide)) (mix_skip (T.exm (i := 8) (j := 7) (by decide) (by decide)) ((o (by decide)).1 (by decide) d hd)))))))), fun h => absurd h (by decide)⟩⟩
    | 9, _, q, o => exact ⟨_, rfl, _, rfl, 9, x, rfl, Nat.zero_le _, by decide, ⟨fun _ d hd => mix_skip (T.exm (i := 9) (j := 0) (by decide) (by decide)) (mix_skip (T.exm (i := 9) (j := 1) (by decide) (by decide)) (mix_skip (T.exm (i := 9) (j := 2) (by decide) (by decide)) (mix_skip (T.exm (i := 9) (j := 3) (by decide) (by decide)) (mix_skip (T.exm (i := 9) (j := 4) (by decide) (by decide)) (mix_skip (T.exm (i := 9) (j := 5) (by decide) (by decide)) (mix_skip (T.exm (i := 9) (j := 6) (by decide) (by decide)) (mix_skip (T.exm (i := 9) (j := 7) (by decide) (by decide)) ((o (by decide)).1 (by decide) d hd)))))))), fun h => absurd h (by decide)⟩⟩
    | 10, _, q, o => exact ⟨_, rfl, _, rfl, 10, x, rfl, Nat.zero_le _, by decide, ⟨fun _ d hd => mix_skip (T.exm (i := 10) (j := 0) (by decide) (by decide)) (mix_skip (T.exm (i := 10) (j := 1) (by decide) (by decide)) (mix_skip (T.exm (i := 10) (j := 2) (by decide) (by decide)) (mix_skip (T.exm (i := 10) (j := 3) (by decide) (by decide)) (mix_skip (T.exm (i := 10) (j := 4) (by decide) (by decide)) (mix_skip (T.exm (i := 10) (j := 5) (by decide) (by decide)) (mix_skip (T.exm (i := 10) (j := 6) (by decide) (by decide)) (mix_skip (T.exm (i := 10) (j := 7) (by decide) (by decide)) ((o (by decide)).1 (by decide) d hd)))))))), fun h => absurd h (by decide)⟩⟩
    | 11, _, q, o => exact ⟨_, rfl, _, rfl, 11, x, rfl, Nat.zero_le _, by decide, ⟨fun _ d hd => mix_skip (T.exm (i := 11) (j := 0) (by decide) (by decide)) (mix_skip (T.exm (i := 11) (j := 1) (by decide) (by decide)) (mix_skip (T.exm (i := 11) (j := 2) (by decide) (by decide)) (mix_skip (T.exm (i := 11) (j := 3) (by decide) (by decide)) (mix_skip (T.exm (i := 11) (j := 4) (by decide) (by decide)) (mix_skip (T.exm (i := 11) (j := 5) (by decide) (by decide)) (mix_skip (T.exm (i := 11) (j := 6) (by decide) (by decide)) (mix_skip (T.exm (i := 11) (j := 7) (by decide) (by decide)) ((o (by decide)).1 (by decide) d hd)))))))), fun h => absurd h (by decide)⟩⟩
    | 12, _, q, o => exact ⟨_, rfl, _, rfl, 12, x, rfl, Nat.zero_le _, by decide, ⟨fun _ d hd => mix_skip (T.exm (i := 12) (j := 0) (by decide) (by decide)) (mix_skip (T.exm (i := 12) (j := 1) (by decide) (by decide)) (mix_skip (T.exm (i := 12) (j := 2) (by decide) (by decide)) (mix_skip (T.exm (i := 12) (j := 3) (by decide) (by decide)) (mix_skip (T.exm (i := 12) (j := 4) (by decide) (by decide)) (mix_skip (T.exm (i := 12) (j := 5) (by decide) (by decide)) (mix_skip (T.exm (i := 12) (j := 6) (by decide) (by decide)) (mix_skip (T.exm (i := 12) (j := 7) (by decide) (by decide)) ((o (by decide)).1 (by decide) d hd)))))))), fun h => absurd h (by decide)⟩⟩
    | 13, _, q, o => exact ⟨_, rfl, _, rfl, 13, x, rfl, Nat.zero_le _, by decide, ⟨fun _ d hd => mix_skip (T.exm (i := 13) (j := 0) (by decide) (by decide)) (mix_skip (T.exm (i := 13) (j := 1) (by decide) (by decide)) (mix_skip (T.exm (i := 13) (j := 2) (by decide) (by decide)) (mix_skip (T.exm (i := 13) (j := 3) (by decide) (by decide)) (mix_skip (T.exm (i := 13) (j := 4) (by decide) (by decide)) (mix_skip (T.exm (i := 13) (j := 5) (by decide) (by decide)) (mix_skip (T.exm (i := 13) (j := 6) (by decide) (by decide)) (mix_skip (T.exm (i := 13) (j := 7) (by decide) (by decide)) ((o (by decide)).1 (by decide) d hd)))))))), fun h => absurd h (by decide)⟩⟩
    | 14, _, q, o => exact ⟨_, rfl, _, rfl, 14, x, rfl, Nat.zero_le _, by decide, ⟨fun _ d hd => mix_skip (T.exm (i := 14) (j := 0) (by decide) (by decide)) (mix_skip (T.exm (i := 14) (j := 1) (by decide) (by decide)) (mix_skip (T.exm (i := 14) (j := 2) (by decide) (by decide)) (mix_skip (T.exm (i := 14) (j := 3) (by decide) (by decide)) (mix_skip (T.exm (i := 14) (j := 4) (by decide) (by decide)) (mix_skip (T.exm (i := 14) (j := 5) (by decide) (by decide)) (mix_skip (T.exm (i := 14) (j := 6) (by decide) (by decide)) (mix_skip (T.exm (i := 14) (j := 7) (by decide) (by decide)) ((o (by decide)).1 (by decide) d hd)))))))), fun h => absurd h (by decide)⟩⟩
    | 15, _, q, o => exact ⟨_, rfl, _, rfl, 15, x, rfl, Nat.zero_le _, by decide, ⟨fun _ d hd => mix_skip (T.exm (i := 15) (j := 0) (by decide) (by decide)) (mix_skip (T.exm (i := 15) (j := 1) (by decide) (by decide)) (mix_skip (T.exm (i := 15) (j := 2) (by decide) (by decide)) (mix_skip (T.exm (i := 15) (j := 3) (by decide) (by decide)) (mix_skip (T.exm (i := 15) (j := 4) (by decide) (by decide)) (mix_skip (T.exm (i := 15) (j := 5) (by decide) (by decide)) (mix_skip (T.exm (i := 15) (j := 6) (by decide) (by decide)) (mix_skip (T.exm (i := 15) (j := 7) (by decide) (by decide)) ((o (by decide)).1 (by decide) d hd)))))))), fun h => absurd h (by decide)⟩⟩
    | 16, _, q, o => exact ⟨_, rfl, _, rfl, 16, x, rfl, Nat.zero_le _, by decide, ⟨fun _ d hd => mix_skip (T.exm (i := 16) (j := 0) (by decide) (by decide)) (mix_skip (T.exm (i := 16) (j := 1) (by decide) (by decide)) (mix_skip (T.exm (i := 16) (j := 2) (by decide) (by decide)) (mix_skip (T.exm (i := 16) (j := 3) (by decide) (by decide)) (mix_skip (T.exm (i := 16) (j := 4) (by decide) (by decide)) (mix_skip (T.exm (i := 16) (j := 5) (by decide) (by decide)) (mix_skip (T.exm (i := 16) (j := 6) (by decide) (by decide)) (mix_skip (T.exm (i := 16) (j := 7) (by decide) (by decide)) ((o (by decide)).1 (by decide) d hd)))))))), fun h => absurd h (by decide)⟩⟩
    | 17, _, q, o => exact ⟨_, rfl, _, rfl, 17, x, rfl, Nat.zero_le _, by decide, ⟨fun _ d hd => mix_skip (T.exm (i := 17) (j := 0) (by decide) (by decide)) (mix_skip (T.exm (i := 17) (j := 1) (by decide) (by decide)) (mix_skip (T.exm (i := 17) (j := 2) (by decide) (by decide)) (mix_skip (T.exm (i := 17) (j := 3) (by decide) (by decide)) (mix_skip (T.exm (i := 17) (j := 4) (by decide) (by decide)) (mix_skip (T.exm (i := 17) (j := 5) (by decide) (by decide)) (mix_skip (T.exm (i := 17) (j := 6) (by decide) (by decide)) (mix_skip (T.exm (i := 17) (j := 7) (by decide) (by decide)) ((o (by decide)).1 (by decide) d hd)))))))), fun h => absurd h (by decide)⟩⟩
    | 18, _, q, o => exact ⟨_, rfl, _, rfl, 18, x, rfl, Nat.zero_le _, by decide, ⟨fun _ d hd => mix_skip (T.exm (i := 18) (j := 0) (by decide) (by decide)) (mix_skip (T.exm (i := 18) (j := 1) (by decide) (by decide)) (mix_skip (T.exm (i := 18) (j := 2) (by decide) (by decide)) (mix_skip (T.exm (i := 18) (j := 3) (by decide) (by decide)) (mix_skip (T.exm (i := 18) (j := 4) (by decide) (by decide)) (mix_skip (T.exm (i := 18) (j := 5) (by decide) (by decide)) (mix_skip (T.exm (i := 18) (j := 6) (by decide) (by decide)) (mix_skip (T.exm (i := 18) (j := 7) (by decide) (by decide)) ((o (by decide)).1 (by decide) d hd)))))))), fun h => absurd h (by decide)⟩⟩
    | 19, _, q, o => exact ⟨_, rfl, _, rfl, 19, x, rfl, Nat.zero_le _, by decide, ⟨fun _ d hd => mix_skip (T.exm (i := 19) (j := 0) (by decide) (by decide)) (mix_skip (T.exm (i := 19) (j := 1) (by decide) (by decide)) (mix_skip (T.exm (i := 19) (j := 2) (by decide) (by decide)) (mix_skip (T.exm (i := 19) (j := 3) (by decide) (by decide)) (mix_skip (T.exm (i := 19) (j := 4) (by decide) (by decide)) (mix_skip (T.exm (i := 19) (j := 5) (by decide) (by decide)) (mix_skip (T.exm (i := 19) (j := 6) (by decide) (by decide)) (mix_skip (T.exm (i := 19) (j := 7) (by decide) (by decide)) ((o (by decide)).1 (by decide) d hd)))))))), fun h => absurd h (by decide)⟩⟩
    | 20, _, q, o => exact ⟨_, rfl, _, rfl, 20, x, rfl, Nat.zero_le _, by decide, ⟨fun h => absurd h (by decide), fun _ => mix_skip (T.exm (i := 20) (j := 0) (by decide) (by decide)) (mix_skip (T.exm (i := 20) (j := 1) (by decide) (by decide)) (mix_skip (T.exm (i := 20) (j := 2) (by decide) (by decide)) (mix_skip (T.exm (i := 20) (j := 3) (by decide) (by decide)) (mix_skip (T.exm (i := 20) (j := 4) (by decide) (by decide)) (mix_skip (T.exm (i := 20) (j := 5) (by decide) (by decide)) (mix_skip (T.exm (i := 20) (j := 6) (by decide) (by decide)) (mix_skip (T.exm (i := 20) (j := 7) (by decide) (by decide)) ((o (by decide)).2 rfl))))))))⟩⟩
    | n + 21, h, _, _ => exact absurd h (by omega)
def cls_caught_b (C : Nat → Addr) : List Cls1 := [⟨.ref (C 8), some 2, tGet (fun a cls d => tByAt (C 8) a cls d (tVar 2)) 8⟩, ⟨.ref (C 9), some 2, tGet (fun a cls d => tByAt (C 9) a cls d (tVar 2)) 9⟩, ⟨.ref (C 10), some 2, tGet (fun a cls d => tByAt (C 10) a cls d (tVar 2)) 10⟩, ⟨.ref (C 11), some 2, tGet (fun a cls d => tByAt (C 11) a cls d (tVar 2)) 11⟩, ⟨.ref (C 12), some 2, tGet (fun a cls d => tByAt (C 12) a cls d (tVar 2)) 12⟩, ⟨.ref (C 13), some 2, tGet (fun a cls d => tByAt (C 13) a cls d (tVar 2)) 13⟩, ⟨.ref (C 14), some 2, tGet (fun a cls d => tByAt (C 14) a cls d (tVar 2)) 14⟩, ⟨.ref (C 15), some 2, tGet (fun a cls d => tByAt (C 15) a cls d (tVar 2)) 15⟩]
theorem ok_caught_b {f fP : Addr} {fd fdP : FuncData} {k : Nat} (F : Fun K "_law_caught_b" "_law_caught_b" s_law_caught_b f fd) (T : Txt K mg C fi S) (FP : Fun K "_law_caught_a" "_law_caught_a" s_law_caught_a fP fdP) (b : Binds K fdP ["number", "thing"] []) (g : mg "_law_caught_a" = some (.ref fP))
    (G : FnOk P w K mg base (L2.CX P w) (k + 4) fP fdP ["number", "thing"] (spCaught C 7)) : FnOk P w K mg base (L2.CX P w) (k + 5) f fd ["number", "thing"] (spCaught C 15) := by
  refine F.okX sc_law_caught_b (fun vs H Q E h => ?_) (fun cdv A outer s H vs Q E hr h => ?_)
  · obtain ⟨i, x, rfl, _⟩ := h
    rfl
  · obtain ⟨i, x, rfl, l1, q, o⟩ := h
    refine ⟨_, pss_cons (by exact (ps_try_mix (tb := fun W => tRet (tCallS (spCaught C 7) (WE W) (tCons (tVar 0) (tCons (tVar 1) tNil)))) (W0 := (fun cls d _ H => E cls d H)) (l := cls_caught_b C) rfl rfl sc_law_caught_b.nd (takes_of rfl rfl rfl rfl)
      (fun W pn xe tk _ => pss_one (ps_ret (by exact (pe_callS G hr rfl g FP.kp b (fun σ => passAt tk σ) (by exact (pa_cons (pv 0) (pa_cons (pv 1) pa_nil)))))))
      (.named rfl rfl ⟨rfl, by decide, .inl T.e8.gC⟩ (fun a oe cls d pn hz hf => pss_one (ps_ret (pe_tup (pa_cons pe_int (pa_cons (by exact (pe_by_at T.e8 hz hf (pv 2))) pa_nil))))) (.named rfl rfl ⟨rfl, by decide, .inl T.e9.gC⟩ (fun a oe cls d pn hz hf => pss_one (ps_ret (pe_tup (pa_cons pe_int (pa_cons (by exact (pe_by_at T.e9 hz hf (pv 2))) pa_nil))))) (.named rfl rfl ⟨rfl, by decide, .inl T.e10.gC⟩ (fun a oe cls d pn hz hf => pss_one (ps_ret (pe_tup (pa_cons pe_int (pa_cons (by exact (pe_by_at T.e10 hz hf (pv 2))) pa_nil))))) (.named rfl rfl ⟨rfl, by decide, .inl T.e11.gC⟩ (fun a oe cls d pn hz hf => pss_one (ps_ret (pe_tup (pa_cons pe_int (pa_cons (by exact (pe_by_at T.e11 hz hf (pv 2))) pa_nil))))) (.named rfl rfl ⟨rfl, by decide, .inl T.e12.gC⟩ (fun a oe cls d pn hz hf => pss_one (ps_ret (pe_tup (pa_cons pe_int (pa_cons (by exact (pe_by_at T.e12 hz hf (pv 2))) pa_nil))))) (.named rfl rfl ⟨rfl, by decide, .inl T.e13.gC⟩ (fun a oe cls d pn hz hf => pss_one (ps_ret (pe_tup (pa_cons pe_int (pa_cons (by exact (pe_by_at T.e13 hz hf (pv 2))) pa_nil))))) (.named rfl rfl ⟨rfl, by decide, .inl T.e14.gC⟩ (fun a oe cls d pn hz hf => pss_one (ps_ret (pe_tup (pa_cons pe_int (pa_cons (by exact (pe_by_at T.e14 hz hf (pv 2))) pa_nil))))) (.named rfl rfl ⟨rfl, by decide, .inl T.e15.gC⟩ (fun a oe cls d pn hz hf => pss_one (ps_ret (pe_tup (pa_cons pe_int (pa_cons (by exact (pe_by_at T.e15 hz hf (pv 2))) pa_nil))))) .nil)))))))))) (pss_one (ps_ret pe_non)), ?_⟩
    have fin : ∀ (i : Nat) (x : V), (i ≤ 15 → ∀ H' p, Same H H' → H' p = some (.tup [.int (i : Int), x]) → Q (.ref p) H') → ∀ H1, Same H H1 → i ≤ 15 → ∀ p, H1 p = none → Q (.ref p) (upd H1 p (.tup [.int (i : Int), x])) := fun i x q H1 s1 hi p hp =>
      q hi _ p (s1.trans (same_new hp)) upd_same
    match i, l1, q, o with
    | 0, _, q, o => exact ⟨_, rfl, _, rfl, 0, x, rfl, by decide, fun _ H1 p s1 e1 => q (by decide) H1 p s1 e1, fun h => absurd h (by decide)⟩
    | 1, _, q, o => exact ⟨_, rfl, _, rfl, 1, x, rfl, by decide, fun _ H1 p s1 e1 => q (by decide) H1 p s1 e1, fun h => absurd h (by decide)⟩
    | 2, _, q, o => exact ⟨_, rfl, _, rfl, 2, x, rfl, by decide, fun _ H1 p s1 e1 => q (by decide) H1 p s1 e1, fun h => absurd h (by decide)⟩
    | 3, _, q, o => exact ⟨_, rfl, _, rfl, 3, x, rfl, by decide, fun _ H1 p s1 e1 => q (by decide) H1 p s1 e1, fun h => absurd h (by decide)⟩
    | 4, _, q, o => exact ⟨_, rfl, _, rfl, 4, x, rfl, by decide, fun _ H1 p s1 e1 => q (by decide) H1 p s1 e1, fun h => absurd h (by decide)⟩
    | 5, _, q, o => exact ⟨_, rfl, _, rfl, 5, x, rfl, by decide, fun _ H1 p s1 e1 => q (by decide) H1 p s1 e1, fun h => absurd h (by decide)⟩
    | 6, _, q, o => exact ⟨_, rfl, _, rfl, 6, x, rfl, by decide, fun _ H1 p s1 e1 => q (by decide) H1 p s1 e1, fun h => absurd h (by decide)⟩
    | 7, _, q, o => exact ⟨_, rfl, _, rfl, 7, x, rfl, by decide, fun _ H1 p s1 e1 => q (by decide) H1 p s1 e1, fun h => absurd h (by decide)⟩
    | 8, _, q, o => exact ⟨_, rfl, _, rfl, 8, x, rfl, by decide, fun h => absurd h (by decide), fun _ => ⟨fun _ d hd => mix_take (T.exm (i := 8) (j := 8) (by decide) (by decide)) fun a ha => ⟨_, rfl, rfl, rfl, d, x, rfl, upd_same, (by show 2 ≤ sizeLine; decide), fun p hp => fin 8 x q _ (same_new hd) (by decide) p hp⟩, fun h => absurd h (by decide)⟩⟩
    | 9, _, q, o => exact ⟨_, rfl, _, rfl, 9, x, rfl, by decide, fun h => absurd h (by decide), fun _ => ⟨fun _ d hd => mix_skip (T.exm (i := 9) (j := 8) (by decide) (by decide)) (mix_take (T.exm (i := 9) (j := 9) (by decide) (by decide)) fun a ha => ⟨_, rfl, rfl, rfl, d, x, rfl, upd_same, (by show 2 ≤ sizeLine; decide), fun p hp => fin 9 x q _ (same_new hd) (by decide) p hp⟩), fun h => absurd h (by decide)⟩⟩
    | 10, _, q, o => exact ⟨_, rfl, _, rfl, 10, x, rfl, by decide, fun h => absurd h (by decide), fun _ => ⟨fun _ d hd => mix_skip (T.exm (i := 10) (j := 8) (by decide) (by decide)) (mix_skip (T.exm (i := 10) (j := 9) (by decide) (by decide)) (mix_take (T.exm (i := 10) (j := 10) (by decide) (by decide)) fun a ha => ⟨_, rfl, rfl, rfl, d, x, rfl, upd_same, (by show 2 ≤ sizeLine; decide), fun p hp => fin 10 x q _ (same_new hd) (by decide) p hp⟩)), fun h => absurd h (by decide)⟩⟩
    | 11, _, q, o => exact ⟨_, rfl, _, rfl, 11, x, rfl, by decide, fun h => absurd h (by decide), fun _ => ⟨fun _ d hd => mix_skip (T.exm (i := 11) (j := 8) (by decide) (by decide)) (mix_skip (T.exm (i := 11) (j := 9) (by decide) (by decide)) (mix_skip (T.exm (i := 11) (j := 10) (by decide) (by decide)) (mix_take (T.exm (i := 11) (j := 11) (by decide) (by decide)) fun a ha => ⟨_, rfl, rfl, rfl, d, x, rfl, upd_same, (by show 2 ≤ sizeLine; decide), fun p hp => fin 11 x q _ (same_new hd) (by decide) p hp⟩))), fun h => absurd h (by decide)⟩⟩
    | 12, _, q, o => exact ⟨_, rfl, _, rfl, 12, x, rfl, by decide, fun h => absurd h (by decide), fun _ => ⟨fun _ d hd => mix_skip (T.exm (i := 12) (j := 8) (by decide) (by decide)) (mix_skip (T.exm (i := 12) (j := 9) (by decide) (by decide)) (mix_skip (T.exm (i := 12) (j := 10) (by decide) (by decide)) (mix_skip (T.exm (i := 12) (j := 11) (by decide) (by decide)) (mix_take (T.exm (i := 12) (j := 12) (by decide) (by decide)) fun a ha => ⟨_, rfl, rfl, rfl, d, x, rfl, upd_same, (by show 2 ≤ sizeLine; decide), fun p hp => fin 12 x q _ (same_new hd) (by decide) p hp⟩)))), fun h => absurd h (by decide)⟩⟩
    | 13, _, q, o => exact ⟨_, rfl, _, rfl, 13, x, rfl, by decide, fun h => absurd h (by decide), fun _ => ⟨fun _ d hd => mix_skip (T.exm (i := 13) (j := 8) (by decide) (by decide)) (mix_skip (T.exm (i := 13) (j := 9) (by decide) (by decide)) (mix_skip (T.exm (i := 13) (j := 10) (by decide) (by decide)) (mix_skip (T.exm (i := 13) (j := 11) (by decide) (by decide)) (mix_skip (T.exm (i := 13) (j := 12) (by decide) (by decide)) (mix_take (T.exm (i := 13) (j := 13) (by decide) (by decide)) fun a ha => ⟨_, rfl, rfl, rfl, d, x, rfl, upd_same, (by show 2 ≤ sizeLine; decide), fun p hp => fin 13 x q _ (same_new hd) (by decide) p hp⟩))))), fun h => absurd h (by decide)⟩⟩
    | 14, _, q, o => exact ⟨_, rfl, _, rfl, 14, x, rfl, by decide, fun h => absurd h (by decide), fun _ => ⟨fun _ d hd => mix_skip (T.exm (i := 14) (j := 8) (by decide) (by decide)) (mix_skip (T.exm (i := 14) (j := 9) (by decide) (by decide)) (mix_skip (T.exm (i := 14) (j := 10) (by decide) (by decide)) (mix_skip (T.exm (i := 14) (j := 11) (by decide) (by decide)) (mix_skip (T.exm (i := 14) (j := 12) (by decide) (by decide)) (mix_skip (T.exm (i := 14) (j := 13) (by decide) (by decide)) (mix_take (T.exm (i := 14) (j := 14) (by decide) (by decide)) fun a ha => ⟨_, rfl, rfl, rfl, d, x, rfl, upd_same, (by show 2 ≤ sizeLine; decide), fun p hp => fin 14 x q _ (same_new hd) (by decide) p hp⟩)))))), fun h => absurd h (by decide)⟩⟩
    | 15, _, q, o => exact ⟨_, rfl, _, rfl, 15, x, rfl, by decide, fun h => absurd h (by decide), fun _ => ⟨fun _ d hd => mix_skip (T.exm (i := 15) (j := 8) (by decide) (by decide)) (mix_skip (T.exm (i := 15) (j := 9) (by decide) (by decide)) (mix_skip (T.exm (i := 15) (j := 10) (by decide) (by decide)) (mix_skip (T.exm (i := 15) (j := 11) (by decide) (by decide)) (mix_skip (T.exm (i := 15) (j := 12) (by decide) (by decide)) (mix_skip (T.exm (i := 15) (j := 13) (by decide) (by decide)) (mix_skip (T.exm (i := 15) (j := 14) (by decide) (by decide)) (mix_take (T.exm (i := 15) (j := 15) (by decide) (by decide)) fun a ha => ⟨_, rfl, rfl, rfl, d, x, rfl, upd_same, (by show 2 ≤ sizeLine; decide), fun p hp => fin 15 x q _ (same_new hd) (by decide) p hp⟩))))))), fun h => absurd h (by decide)⟩⟩
    | 16, _, q, o => exact ⟨_, rfl, _, rfl, 16, x, rfl, by decide, fun h => absurd h (by decide), fun _ => ⟨fun _ d hd => mix_skip (T.exm (i := 16) (j := 8) (by decide) (by decide)) (mix_skip (T.exm (i := 16) (j := 9) (by decide) (by decide)) (mix_skip (T.exm (i := 16) (j := 10) (by decide) (by decide)) (mix_skip (T.exm (i := 16) (j := 11) (by decide) (by decide)) (mix_skip (T.exm (i := 16) (j := 12) (by decide) (by decide)) (mix_skip (T.exm (i := 16) (j := 13) (by decide) (by decide)) (mix_skip (T.exm (i := 16) (j := 14) (by decide) (by decide)) (mix_skip (T.exm (i := 16) (j := 15) (by decide) (by decide)) ((o (by decide)).1 (by decide) d hd)))))))), fun h => absurd h (by decide)⟩⟩
    | 17, _, q, o => exact ⟨_, rfl, _, rfl, 17, x, rfl, by decide, fun h => absurd h (by decide), fun _ => ⟨fun _ d hd => mix_skip (T.exm (i := 17) (j := 8) (by decide) (by decide)) (mix_skip (T.exm (i := 17) (j := 9) (by decide) (by decide)) (mix_skip (T.exm (i := 17) (j := 10) (by decide) (by decide)) (mix_skip (T.exm (i := 17) (j := 11) (by decide) (by decide)) (mix_skip (T.exm (i := 17) (j := 12) (by decide) (by decide)) (mix_skip (T.exm (i := 17) (j := 13) (by decide) (by decide)) (mix_skip (T.exm (i := 17) (j := 14) (by decide) (by decide)) (mix_skip (T.exm (i := 17) (j := 15) (by decide) (by decide)) ((o (by decide)).1 (by decide) d hd)))))))), fun h => absurd h (by decide)⟩⟩
    | 18, _, q, o => exact ⟨_, rfl, _, rfl, 18, x, rfl, by decide, fun h => absurd h (by decide), fun _ => ⟨fun _ d hd => mix_skip (T.exm (i := 18) (j := 8) (by decide) (by decide)) (mix_skip (T.exm (i := 18) (j := 9) (by decide) (by decide)) (mix_skip (T.exm (i := 18) (j := 10) (by decide) (by decide)) (mix_skip (T.exm (i := 18) (j := 11) (by decide) (by decide)) (mix_skip (T.exm (i := 18) (j := 12) (by decide) (by decide)) (mix_skip (T.exm (i := 18) (j := 13) (by decide) (by decide)) (mix_skip (T.exm (i := 18) (j := 14) (by decide) (by decide)) (mix_skip (T.exm (i := 18) (j := 15) (by decide) (by decide)) ((o (by decide)).1 (by decide) d hd)))))))), fun h => absurd h (by decide)⟩⟩
    | 19, _, q, o => exact ⟨_, rfl, _, rfl, 19, x, rfl, by decide, fun h => absurd h (by decide), fun _ => ⟨fun _ d hd => mix_skip (T.exm (i := 19) (j := 8) (by decide) (by decide)) (mix_skip (T.exm (i := 19) (j := 9) (by decide) (by decide)) (mix_skip (T.exm (i := 19) (j := 10) (by decide) (by decide)) (mix_skip (T.exm (i := 19) (j := 11) (by decide) (by decide)) (mix_skip (T.exm (i := 19) (j := 12) (by decide) (by decide)) (mix_skip (T.exm (i := 19) (j := 13) (by decide) (by decide)) (mix_skip (T.exm (i := 19) (j := 14) (by decide) (by decide)) (mix_skip (T.exm (i := 19) (j := 15) (by decide) (by decide)) ((o (by decide)).1 (by decide) d hd)))))))), fun h => absurd h (by decide)⟩⟩
    | 20, _, q, o => exact ⟨_, rfl, _, rfl, 20, x, rfl, by decide, fun h => absurd h (by decide), fun _ => ⟨fun h => absurd h (by decide), fun _ => mix_skip (T.exm (i := 20) (j := 8) (by decide) (by decide)) (mix_skip (T.exm (i := 20) (j := 9) (by decide) (by decide)) (mix_skip (T.exm (i := 20) (j := 10) (by decide) (by decide)) (mix_skip (T.exm (i := 20) (j := 11) (by decide) (by decide)) (mix_skip (T.exm (i := 20) (j := 12) (by decide) (by decide)) (mix_skip (T.exm (i := 20) (j := 13) (by decide) (by decide)) (mix_skip (T.exm (i := 20) (j := 14) (by decide) (by decide)) (mix_skip (T.exm (i := 20) (j := 15) (by decide) (by decide)) ((o (by decide)).2 rfl))))))))⟩⟩
    | n + 21, h, _, _ => exact absurd h (by omega)
def cls_caught_c (C : Nat → Addr) : List Cls1 := [⟨.ref (C 16), some 2, tGet (fun a cls d => tByWord (C 16) a cls d (tVar 2)) 16⟩, ⟨.ref (C 17), some 2, tGet (fun a cls d => tByMany (C 17) a cls d (tVar 2)) 17⟩, ⟨.ref (C 18), some 2, tGet (fun a cls d => tByAt (C 18) a cls d (tVar 2)) 18⟩, ⟨.ref (C 19), some 2, tGet (fun a cls d => tByName (C 19) a cls d (tVar 2)) 19⟩, ⟨.ref (C 20), none, fun _ _ _ => tRet (tTup (tCons (tC (.int 20)) (tCons (tVar 1) tNil)))⟩]
theorem ok_caught_c {f fP : Addr} {fd fdP : FuncData} {k : Nat} (F : Fun K "_law_caught_c" "_law_caught_c" s_law_caught_c f fd) (T : Txt K mg C fi S) (FP : Fun K "_law_caught_b" "_law_caught_b" s_law_caught_b fP fdP) (b : Binds K fdP ["number", "thing"] []) (g : mg "_law_caught_b" = some (.ref fP))
    (G : FnOk P w K mg base (L2.CX P w) (k + 5) fP fdP ["number", "thing"] (spCaught C 15)) : FnOk P w K mg base CX0 (k + 6) f fd ["number", "thing"] (spCaught C 20) := by
  refine F.ok sc_law_caught_c (fun vs H Q E h => ?_) (fun cdv A outer s H vs Q E hr h => ?_)
  · obtain ⟨i, x, rfl, _⟩ := h
    rfl
  · obtain ⟨i, x, rfl, l1, q, o⟩ := h
    refine ⟨_, pss_cons (by exact (ps_try_mix (tb := fun W => tRet (tCallS (spCaught C 15) (WE W) (tCons (tVar 0) (tCons (tVar 1) tNil)))) (W0 := (fun _ _ _ _ => False)) (l := cls_caught_c C) rfl rfl sc_law_caught_c.nd takes0
      (fun W pn xe tk _ => pss_one (ps_ret (by exact (pe_callS G hr rfl g FP.kp b (fun σ => passAt tk σ) (by exact (pa_cons (pv 0) (pa_cons (pv 1) pa_nil)))))))
      (.named rfl rfl ⟨rfl, by decide, .inl T.e16.gC⟩ (fun a oe cls d pn hz hf => pss_one (ps_ret (pe_tup (pa_cons pe_int (pa_cons (by exact (pe_by_word T.e16 hz hf (pv 2))) pa_nil))))) (.named rfl rfl ⟨rfl, by decide, .inl T.e17.gC⟩ (fun a oe cls d pn hz hf => pss_one (ps_ret (pe_tup (pa_cons pe_int (pa_cons (by exact (pe_by_many T.e17 hz hf (pv 2))) pa_nil))))) (.named rfl rfl ⟨rfl, by decide, .inl T.e18.gC⟩ (fun a oe cls d pn hz hf => pss_one (ps_ret (pe_tup (pa_cons pe_int (pa_cons (by exact (pe_by_at T.e18 hz hf (pv 2))) pa_nil))))) (.named rfl rfl ⟨rfl, by decide, .inl T.e19.gC⟩ (fun a oe cls d pn hz hf => pss_one (ps_ret (pe_tup (pa_cons pe_int (pa_cons (by exact (pe_by_name T.e19 hz hf (pv 2))) pa_nil))))) (.bare ⟨rfl, by decide, .inl T.g20⟩ (fun a oe cls d pn hz hf => pss_one (ps_ret (pe_tup (pa_cons pe_int (pa_cons (pv 1) pa_nil))))) .nil))))))) (pss_one (ps_ret pe_non)), ?_⟩
    have fin : ∀ (i : Nat) (x : V), (i ≤ 20 → ∀ H' p, Same H H' → H' p = some (.tup [.int (i : Int), x]) → Q (.ref p) H') → ∀ H1, Same H H1 → i ≤ 20 → ∀ p, H1 p = none → Q (.ref p) (upd H1 p (.tup [.int (i : Int), x])) := fun i x q H1 s1 hi p hp =>
      q hi _ p (s1.trans (same_new hp)) upd_same
    match i, l1, q, o with
    | 0, _, q, o => exact ⟨_, rfl, _, rfl, 0, x, rfl, by decide, fun _ H1 p s1 e1 => q (by decide) H1 p s1 e1, fun h => absurd h (by decide)⟩
    | 1, _, q, o => exact ⟨_, rfl, _, rfl, 1, x, rfl, by decide, fun _ H1 p s1 e1 => q (by decide) H1 p s1 e1, fun h => absurd h (by decide)⟩
    | 2, _, q, o => exact ⟨_, rfl, _, rfl, 2, x, rfl, by decide, fun _ H1 p s1 e1 => q (by decide) H1 p s1 e1, fun h => absurd h (by decide)⟩
    | 3, _, q, o => exact ⟨_, rfl, _, rfl, 3, x, rfl, by decide, fun _ H1 p s1 e1 => q (by decide) H1 p s1 e1, fun h => absurd h (by decide)⟩
    | 4, _, q, o => exact ⟨_, rfl, _, rfl, 4, x, rfl, by decide, fun _ H1 p s1 e1 => q (by decide) H1 p s1 e1, fun h => absurd h (by decide)⟩
    | 5, _, q, o => exact ⟨_, rfl, _, rfl, 5, x, rfl, by decide, fun _ H1 p s1 e1 => q (by decide) H1 p s1 e1, fun h => absurd h (by decide)⟩
    | 6, _, q, o => exact ⟨_, rfl, _, rfl, 6, x, rfl, by decide, fun _ H1 p s1 e1 => q (by decide) H1 p s1 e1, fun h => absurd h (by decide)⟩
    | 7, _, q, o => exact ⟨_, rfl, _, rfl, 7, x, rfl, by decide, fun _ H1 p s1 e1 => q (by decide) H1 p s1 e1, fun h => absurd h (by decide)⟩
    | 8, _, q, o => exact ⟨_, rfl, _, rfl, 8, x, rfl, by decide, fun _ H1 p s1 e1 => q (by decide) H1 p s1 e1, fun h => absurd h (by decide)⟩
    | 9, _, q, o => exact ⟨_, rfl, _, rfl, 9, x, rfl, by decide, fun _ H1 p s1 e1 => q (by decide) H1 p s1 e1, fun h => absurd h (by decide)⟩
    | 10, _, q, o => exact ⟨_, rfl, _, rfl, 10, x, rfl, by decide, fun _ H1 p s1 e1 => q (by decide) H1 p s1 e1, fun h => absurd h (by decide)⟩
    | 11, _, q, o => exact ⟨_, rfl, _, rfl, 11, x, rfl, by decide, fun _ H1 p s1 e1 => q (by decide) H1 p s1 e1, fun h => absurd h (by decide)⟩
    | 12, _, q, o => exact ⟨_, rfl, _, rfl, 12, x, rfl, by decide, fun _ H1 p s1 e1 => q (by decide) H1 p s1 e1, fun h => absurd h (by decide)⟩
    | 13, _, q, o => exact ⟨_, rfl, _, rfl, 13, x, rfl, by decide, fun _ H1 p s1 e1 => q (by decide) H1 p s1 e1, fun h => absurd h (by decide)⟩
    | 14, _, q, o => exact ⟨_, rfl, _, rfl, 14, x, rfl, by decide, fun _ H1 p s1 e1 => q (by decide) H1 p s1 e1, fun h => absurd h (by decide)⟩
    | 15, _, q, o => exact ⟨_, rfl, _, rfl, 15, x, rfl, by decide, fun _ H1 p s1 e1 => q (by decide) H1 p s1 e1, fun h => absurd h (by decide)⟩
    | 16, _, q, o => exact ⟨_, rfl, _, rfl, 16, x, rfl, by decide, fun h => absurd h (by decide), fun _ => ⟨fun _ d hd => mix_take (T.exm (i := 16) (j := 16) (by decide) (by decide)) fun a ha => ⟨_, rfl, rfl, rfl, d, x, rfl, upd_same, (by show 2 ≤ sizeLine; decide), fun p hp => fin 16 x q _ (same_new hd) (by decide) p hp⟩, fun h => absurd h (by decide)⟩⟩
    | 17, _, q, o => exact ⟨_, rfl, _, rfl, 17, x, rfl, by decide, fun h => absurd h (by decide), fun _ => ⟨fun _ d hd => mix_skip (T.exm (i := 17) (j := 16) (by decide) (by decide)) (mix_take (T.exm (i := 17) (j := 17) (by decide) (by decide)) fun a ha => ⟨_, rfl, rfl, rfl, d, x, rfl, upd_same, (by show 2 ≤ sizeLine; decide), fun p hp => fin 17 x q _ (same_new hd) (by decide) p hp⟩), fun h => absurd h (by decide)⟩⟩
    | 18, _, q, o => exact ⟨_, rfl, _, rfl, 18, x, rfl, by decide, fun h => absurd h (by decide), fun _ => ⟨fun _ d hd => mix_skip (T.exm (i := 18) (j := 16) (by decide) (by decide)) (mix_skip (T.exm (i := 18) (j := 17) (by decide) (by decide)) (mix_take (T.exm (i := 18) (j := 18) (by decide) (by decide)) fun a ha => ⟨_, rfl, rfl, rfl, d, x, rfl, upd_same, (by show 2 ≤ sizeLine; decide), fun p hp => fin 18 x q _ (same_new hd) (by decide) p hp⟩)), fun h => absurd h (by decide)⟩⟩
    | 19, _, q, o => exact ⟨_, rfl, _, rfl, 19, x, rfl, by decide, fun h => absurd h (by decide), fun _ => ⟨fun _ d hd => mix_skip (T.exm (i := 19) (j := 16) (by decide) (by decide)) (mix_skip (T.exm (i := 19) (j := 17) (by decide) (by decide)) (mix_skip (T.exm (i := 19) (j := 18) (by decide) (by decide)) (mix_take (T.exm (i := 19) (j := 19) (by decide) (by decide)) fun a ha => ⟨_, rfl, rfl, rfl, d, x, rfl, upd_same, (by show 2 ≤ sizeLine; decide), fun p hp => fin 19 x q _ (same_new hd) (by decide) p hp⟩))), fun h => absurd h (by decide)⟩⟩
    | 20, _, q, o => exact ⟨_, rfl, _, rfl, 20, x, rfl, by decide, fun h => absurd h (by decide), fun _ => ⟨fun h => absurd h (by decide), fun _ => mix_skip (T.exm (i := 20) (j := 16) (by decide) (by decide)) (mix_skip (T.exm (i := 20) (j := 17) (by decide) (by decide)) (mix_skip (T.exm (i := 20) (j := 18) (by decide) (by decide)) (mix_skip (T.exm (i := 20) (j := 19) (by decide) (by decide)) (mix_take (T.exm (i := 20) (j := 20) (by decide) (by decide)) fun a ha => ⟨_, rfl, (by show 2 ≤ sizeLine; decide), fun p hp => fin 20 x q H (Same.refl H) (by decide) p hp⟩))))⟩⟩
    | n + 21, h, _, _ => exact absurd h (by omega)
theorem ok_is_base {f fP : Addr} {fd fdP : FuncData} {k : Nat} (F : Fun K "_law_is_base" "_law_is_base" s_law_is_base f fd) (T : Txt K mg C fi S) (FP : Fun K "_law_raise" "_law_raise" s_law_raise fP fdP) (b : Binds K fdP ["number", "thing"] []) (g : mg "_law_raise" = some (.ref fP))
    (G : FnOk P w K mg base (L2.CX P w) (k + 3) fP fdP ["number", "thing"] (spRaise C 0 20)) : FnOk P w K mg base CX0 (k + 4) f fd ["number", "thing"] spIsBase := by
  refine F.ok sc_law_is_base (fun vs H Q E h => ?_) (fun cdv A outer s H vs Q E hr h => ?_)
  · obtain ⟨i, x, rfl, _⟩ := h
    rfl
  · obtain ⟨i, x, rfl, l1, q⟩ := h
    refine ⟨_, pss_cons (by exact (ps_try_mix (tb := fun W => tDrop (tCallS (spRaise C 0 20) (WE W) (tCons (tVar 0) (tCons (tVar 1) tNil)))) (W0 := (fun _ _ _ _ => False)) (l := [⟨.ref S, none, fun _ _ _ => tRet (tC (.bl true))⟩]) rfl rfl sc_law_is_base.nd takes0
      (fun W pn xe tk _ => pss_one (ps_expr (by exact (pe_callS G hr rfl g FP.kp b (fun σ => passAt tk σ) (by exact (pa_cons (pv 0) (pa_cons (pv 1) pa_nil)))))))
      (.bare ⟨rfl, by decide, .inl T.gS⟩ (fun a oe cls d pn hz hf => pss_one (ps_ret pe_bl)) .nil))) (pss_one (ps_ret pe_bl)), ?_⟩
    refine ⟨_, rfl, _, rfl, i, x, rfl, Nat.zero_le _, l1, fun h d hd => mix_take (T.exS l1) fun a ha => q _ (same_new hd), fun h => ?_⟩
    subst h
    exact mix_take (T.exS (by decide)) fun a ha => q _ (Same.refl H)
end
end Kx

set_option Elab.async false
set_option linter.all false
set_option maxRecDepth 100000
set_option maxHeartbeats 4000000
namespace Kx
open PySem PySem.Spec PyProof.Rows L2
/-! ### the law -/
def Good (K : PySem.W.Frag) (H : Hp) (v : V) : Prop := ∃ d, Dp K H v d ∧ ∀ i : Int, SeqAt.shaped (.tuple [.int i, d]) = true
theorem sqL_same {K : PySem.W.Frag} {H H' : Hp} {a : Addr} {xs : List V} (s : Same H H') (h : SqL K H a xs) : SqL K H' a xs := s.seq h
theorem sqT_same {K : PySem.W.Frag} {H H' : Hp} {a : Addr} {xs : List V} (s : Same H H') (h : SqT K H a xs) : SqT K H' a xs := by
  rcases h with (h | ⟨o, h⟩) | h
  · exact .inl (.inl (s _ _ h))
  · exact .inl (.inr ⟨o, s _ _ h⟩)
  · exact .inr h
mutual
theorem dp_same {K : PySem.W.Frag} {H H' : Hp} (s : Same H H') : ∀ (d : PyData) (v : V), Dp K H v d → Dp K H' v d
  | .none, _, h => by cases h; exact .non
  | .bool _, _, h => by cases h; exact .bl _
  | .int _, _, h => by cases h; exact .int _
  | .str _, _, h => by cases h; exact .str _
  | .list ds, _, h => by
    cases h with
    | lst q r => exact .lst (sqL_same s q) (dps_same s ds _ r)
  | .tuple ds, _, h => by
    cases h with
    | tup q r => exact .tup (sqT_same s q) (dps_same s ds _ r)
  | .dict _, _, h => by cases h
theorem dps_same {K : PySem.W.Frag} {H H' : Hp} (s : Same H H') : ∀ (ds : List PyData) (vs : List V), DpAll K H vs ds → DpAll K H' vs ds
  | [], _, h => by cases h; exact .nil
  | d :: ds, _, h => by
    cases h with
    | cons q r => exact .cons (dp_same s d _ q) (dps_same s ds _ r)
end
theorem Good.same {K : PySem.W.Frag} {H H' : Hp} {v : V} (s : Same H H') (g : Good K H v) : Good K H' v := by
  obtain ⟨d, h, q⟩ := g
  exact ⟨d, dp_same s d v h, q⟩
theorem shaped_words (i : Int) : SeqAt.shaped (.tuple [.int i, .str "words"]) = true := by
  have h : PyData.canLay0 (.str "words") = true := by decide +kernel
  exact Bool.and_eq_true_iff.mpr ⟨(by show (true && (PyData.canLay0 (.str "words") && true)) = true; rw [h]; rfl), by rfl⟩
theorem shaped_rows (i : Int) : SeqAt.shaped (.tuple [.int i, .tuple [.str "rows", .int 0, .int 7]]) = true := by
  have h : PyData.canLay0 (.str "rows") = true := by decide +kernel
  exact Bool.and_eq_true_iff.mpr ⟨(by show (true && ((PyData.canLay0 (.str "rows") && (true && (true && true))) && true)) = true; rw [h]; rfl), by rfl⟩
def spLaw (K : PySem.W.Frag) : Sp := fun vs H Q _ => ∃ (a : Addr) (ns : List Int), vs = [.ref a] ∧ SqL K H a (ns.map V.int) ∧ ns.length ≤ 63 ∧ ∀ H', Q (.bl true) H'
section
variable {P : Program} {w : World} {K : PySem.W.Frag} {mg : Str → Option Value} {base : Heap} {C fi : Nat → Addr} {S : Addr}
theorem ok_law {f fB fT fP fC fI : Addr} {fd fdB fdT fdP fdC fdI : FuncData} (F : Fun K "law" "law" s_law f fd) (B : Bi mg) (T : Txt K mg C fi S)
    (FB : Fun K "_law_box" "_law_box" s_law_box fB fdB) (bB : Binds K fdB ["script", "k"] []) (gB : mg "_law_box" = some (.ref fB))
    (FT : Fun K "_law_take" "_law_take" s_law_take fT fdT) (bT : Binds K fdT ["box", "many"] []) (gT : mg "_law_take" = some (.ref fT))
    (FP : Fun K "_law_pick" "_law_pick" s_law_pick fP fdP) (bP : Binds K fdP ["box", "some"] []) (gP : mg "_law_pick" = some (.ref fP))
    (FC : Fun K "_law_caught_c" "_law_caught_c" s_law_caught_c fC fdC) (bC : Binds K fdC ["number", "thing"] []) (gC : mg "_law_caught_c" = some (.ref fC)) (GC : FnOk P w K mg base CX0 6 fC fdC ["number", "thing"] (spCaught C 20))
    (FI : Fun K "_law_is_base" "_law_is_base" s_law_is_base fI fdI) (bI : Binds K fdI ["number", "thing"] []) (gI : mg "_law_is_base" = some (.ref fI)) (GI : FnOk P w K mg base CX0 4 fI fdI ["number", "thing"] spIsBase) :
    FnOk P w K mg base CX0 7 f fd ["script"] (spLaw K) := by
  have GB : FnOk P w K mg base CX0 1 fB fdB ["script", "k"] (spBox K) := ok_box FB B
  have GP : FnOk P w K mg base CX0 2 fP fdP ["box", "some"] (spPick K) := ok_pick FP FT bT gT B
  refine F.ok sc_law (fun vs H Q E h => ?_) (fun cdv A outer s H vs Q E hr h => ?_)
  · obtain ⟨a, ns, rfl, _⟩ := h
    rfl
  · obtain ⟨a, ns, rfl, hS, hl, q⟩ := h
    have hr1 : Room 1 _ := hr.mono (by decide)
    have hr2 : Room 2 _ := hr.mono (by decide)
    have hr4 : Room 4 _ := hr.mono (by decide)
    have hu := hr.units
    refine ⟨_, pss_cons (ps_set (i := 1) sc_law.nd rfl (.inl rfl) (pe_call GB hr1 rfl gB FB.kp bB .nil pass0 (pa_cons (pv 0) (pa_cons pe_int pa_nil))))
      (pss_cons (ps_for PassesOwn.never rfl (pi_range1 rfl B.range (pa_cons pe_int pa_nil)) (pg_name (i := 2) sc_law.nd rfl (.inl rfl))
        (pss_cons (ps_set (i := 3) sc_law.nd rfl (.inl rfl) (pe_call GP hr2 rfl gP FP.kp bP .nil pass0 (pa_cons (pv 1) (pa_cons (pe_lst (pa_cons pe_int (pa_cons (pe_un un_neg pe_int) (pa_cons pe_non (pa_cons pe_str
            (pa_cons (pe_tup (pa_cons pe_int (pa_cons pe_int pa_nil))) (pa_cons (pe_lst (pa_cons pe_int pa_nil)) (pa_cons pe_bl (pa_cons (pe_tup (pa_cons pe_str (pa_cons pe_int (pa_cons pe_int pa_nil)))) pa_nil))))))))) pa_nil))))
        (pss_one (ps_if (PW.pt (pw_or (pt_cmpR (op_neD hu) (pe_call GC hr rfl gC FC.kp bC .nil pass0 (pa_cons (pv 2) (pa_cons (pv 3) pa_nil))) (pe_tup (pa_cons (pv 2) (pa_cons (pv 3) pa_nil))) (nomark _))
            (pw_or1 (pt_not (pt_val (pe_call GI hr4 rfl gI FI.kp bI .nil pass0 (pa_cons (pv 2) (pa_cons (pv 3) pa_nil)))))))) (pss_one (ps_ret pe_bl)) pss_nil))))
      (pss_cons (ps_set (i := 4) sc_law.nd rfl (.inl rfl) (pe_tup (pa_cons (pe_kw_word T.e0 hr1 pe_str) (pa_cons (pe_kw_at T.e1 hr1 (pe_tup (pa_cons pe_str pa_nil))) (pa_cons (pe_kw_at T.e18 hr1 (pe_un un_neg pe_int)) (pa_cons (pe_kw_name T.e19 hr1 pe_str) pa_nil))))))
      (pss_one (ps_ret (pe_and (pe_cmpR (op_eqD hu) (pv 4) (pe_tup (pa_cons pe_str (pa_cons (pe_tup (pa_cons pe_str pa_nil)) (pa_cons (pe_un un_neg pe_int) (pa_cons pe_str pa_nil))))) (nomark _))
        (pe_one (pe_cmpR op_eq (pe_kw_many T.e17 hr1 pe_int) pe_int (nomark _)))))))), ?_⟩
    refine ⟨_, rfl, a, ns, 0, rfl, hS, hl, by decide, by decide, fun H1 b s1 nb hb => ?_⟩
    refine ⟨21, rfl, by decide, by decide, for_range (n := 21) (fun i σ H' => ∃ v2 v3, σ = [some (.ref a), some (.ref b), v2, v3, none] ∧ BoxAt H' b) ⟨_, _, rfl, hb⟩ ?_ ?_⟩
    · rintro i σ H2 hi ⟨v2, v3, rfl, x, y, z, hx, hb2⟩
      have ei : (0 : Int) + (i : Int) = (i : Int) := by omega
      show gName 2 (.int (0 + (i : Int))) _ H2 _
      rw [ei]
      -- thing = _law_pick(box, [..])
      refine ⟨_, rfl, _, rfl, ⟨by show 2 ≤ sizeLine; decide, fun t1 h1 => ⟨by show 1 ≤ sizeLine; decide, fun l1 g1 => ⟨by show 3 ≤ sizeLine; decide, fun t2 h2 => ⟨by show 8 ≤ sizeLine; decide, fun l gl => ?_⟩⟩⟩⟩⟩
      have b1 : b ≠ t1 := ne_of_none hb2 h1
      have b2 : b ≠ l1 := ne_of_none (show (upd H2 t1 _) b = _ by rw [upd_ne b1]; exact hb2) g1
      have b3 : b ≠ t2 := ne_of_none (show (upd (upd H2 t1 _) l1 _) b = _ by rw [upd_ne b2, upd_ne b1]; exact hb2) h2
      have b4 : b ≠ l := ne_of_none (show (upd (upd (upd H2 t1 _) l1 _) t2 _) b = _ by rw [upd_ne b3, upd_ne b2, upd_ne b1]; exact hb2) gl
      have s1' := same_new (o := .tup [.int 1, .int 2]) h1
      have s2' := same_new (o := .lst [.int 3]) g1
      have s3' := same_new (o := .tup [.str "rows", .int 0, .int 7]) h2
      have k1 : ∀ o, (upd (upd (upd (upd H2 t1 (.tup [.int 1, .int 2])) l1 (.lst [.int 3])) t2 (.tup [.str "rows", .int 0, .int 7])) l o) b = some (.lst [.int x, .int y, .int z]) := fun o => by
        rw [upd_ne b4, upd_ne b3, upd_ne b2, upd_ne b1]
        exact hb2
      have t1l : t1 ≠ l1 := ne_of_none upd_same g1
      have t12 : t1 ≠ t2 := ne_of_none (show (upd (upd H2 t1 _) l1 _) t1 = _ by rw [upd_ne t1l, upd_same]) h2
      have t1n : t1 ≠ l := ne_of_none (show (upd (upd (upd H2 t1 _) l1 _) t2 _) t1 = _ by rw [upd_ne t12, upd_ne t1l, upd_same]) gl
      have l12 : l1 ≠ t2 := ne_of_none upd_same h2
      have l1n : l1 ≠ l := ne_of_none (show (upd (upd (upd H2 t1 _) l1 _) t2 _) l1 = _ by rw [upd_ne l12, upd_same]) gl
      have t2n : t2 ≠ l := ne_of_none upd_same gl
      refine ⟨b, l, _, rfl, ⟨x, y, z, hx, k1 _⟩, SqL.of upd_same, fun _ _ _ => SqL.of (by rw [upd_ne b4.symm, upd_same]), (by show 0 < 8; decide), (by show 8 < 1000; decide), fun j v x' y' z' hv hx' => ?_⟩
      generalize hH : upd (upd (upd (upd (upd H2 t1 (.tup [.int 1, .int 2])) l1 (.lst [.int 3])) t2 (.tup [.str "rows", .int 0, .int 7])) l
        (.lst [.int 0, .int (-1), .non, .str "words", .ref t1, .ref l1, .bl true, .ref t2])) b (.lst [.int x', .int y', .int z']) = H3
      have hb3 : BoxAt H3 b := ⟨x', y', z', hx', by rw [← hH, upd_same]⟩
      have e1 : H3 t1 = some (.tup [.int 1, .int 2]) := by rw [← hH, upd_ne b1.symm, upd_ne t1n, upd_ne t12, upd_ne t1l, upd_same]
      have e2 : H3 l1 = some (.lst [.int 3]) := by rw [← hH, upd_ne b2.symm, upd_ne l1n, upd_ne l12, upd_same]
      have e3 : H3 t2 = some (.tup [.str "rows", .int 0, .int 7]) := by rw [← hH, upd_ne b3.symm, upd_ne t2n, upd_same]
      have good : Good K H3 v := by
        match j, hv with
        | 0, hv => cases hv; exact ⟨_, .int _, fun _ => rfl⟩
        | 1, hv => cases hv; exact ⟨_, .int _, fun _ => rfl⟩
        | 2, hv => cases hv; exact ⟨_, .non, fun _ => rfl⟩
        | 3, hv => cases hv; exact ⟨_, .str _, fun i => shaped_words i⟩
        | 4, hv => cases hv; exact ⟨_, .tup (.inl (.inl e1)) (.cons (.int _) (.cons (.int _) .nil)), fun _ => rfl⟩
        | 5, hv => cases hv; exact ⟨_, .lst (SqL.of e2) (.cons (.int _) .nil), fun _ => rfl⟩
        | 6, hv => cases hv; exact ⟨_, .bl _, fun _ => rfl⟩
        | 7, hv => cases hv; exact ⟨_, .tup (.inl (.inl e3)) (.cons (.str _) (.cons (.int _) (.cons (.int _) .nil))), fun i => shaped_rows i⟩
        | n + 8, hv => cases hv
      clear e1 e2 e3 hH
      -- _law_caught_c(number, thing) != (number, thing) or not _law_is_base(number, thing)
      refine ⟨_, rfl, _, rfl, i, v, rfl, by omega, fun _ H4 p s4 e4 => ?_, fun h => absurd h (by omega)⟩
      have g4 := good.same s4
      refine ⟨_, rfl, _, rfl, by show 2 ≤ sizeLine; decide, fun p2 hp2 => ?_⟩
      have s5 : Same H4 (upd H4 p2 (.tup [.int (i : Int), v])) := same_new hp2
      obtain ⟨d, hd, hs⟩ := g4.same s5
      have D1 : Dp K (upd H4 p2 (.tup [.int (i : Int), v])) (.ref p) (.tuple [.int (i : Int), d]) := .tup (.inl (.inl (s5 _ _ e4))) (.cons (.int _) (.cons hd .nil))
      have D2 : Dp K (upd H4 p2 (.tup [.int (i : Int), v])) (.ref p2) (.tuple [.int (i : Int), d]) := .tup (.inl (.inl upd_same)) (.cons (.int _) (.cons hd .nil))
      refine ⟨_, _, D1, D2, hs _, hs _, _, rfl, ?_⟩
      rw [PySem.SeqAt.eqv_refl _ (PySem.SeqAt.canLay_of_shaped (hs _))]
      refine iteF ?_
      refine ⟨_, rfl, _, rfl, i, v, rfl, by omega, fun H5 s5' => ⟨true, rfl, ?_⟩⟩
      refine iteF ?_
      refine ⟨_, _, rfl, ?_⟩
      obtain ⟨x5, y5, z5, q1, q2⟩ := hb3
      exact ⟨x5, y5, z5, q1, s5' _ _ (s5 _ _ (s4 _ _ q2))⟩
    · rintro σ H2 ⟨v2, v3, rfl, hb2⟩
      -- kept = (..)
      refine ⟨by show 1 ≤ sizeLine; decide, fun t ht => ?_⟩
      refine ⟨1, rfl, by show 4 ≤ sizeLine; decide, fun k hk => ?_⟩
      have s1' := same_new (o := .tup [.str "name"]) ht
      have htk : (upd (upd H2 t (.tup [.str "name"])) k (.tup [.str "x", .ref t, .int (-1), .str "e"])) t = some (.tup [.str "name"]) := by
        rw [upd_ne (ne_of_none upd_same hk), upd_same]
      refine ⟨_, rfl, by show 1 ≤ sizeLine; decide, fun t' ht' => ?_⟩
      refine ⟨1, rfl, by show 4 ≤ sizeLine; decide, fun k' hk' => ?_⟩
      generalize hH : upd (upd H2 t (.tup [.str "name"])) k _ = H3 at *
      have s3 : Same H3 (upd H3 t' (.tup [.str "name"])) := same_new ht'
      have e3 : H3 k = some (.tup [.str "x", .ref t, .int (-1), .str "e"]) := by rw [← hH, upd_same]
      generalize hG : upd H3 t' (.tup [.str "name"]) = H4 at *
      have e4 : H4 t' = some (.tup [.str "name"]) := by rw [← hG, upd_same]
      have s5 : Same H4 (upd H4 k' (.tup [.str "x", .ref t', .int (-1), .str "e"])) := same_new hk'
      have D1 : Dp K (upd H4 k' (.tup [.str "x", .ref t', .int (-1), .str "e"])) (.ref k) (.tuple [.str "x", .tuple [.str "name"], .int (-1), .str "e"]) :=
        .tup (.inl (.inl (s5 _ _ (s3 _ _ e3)))) (.cons (.str _) (.cons (.tup (.inl (.inl (s5 _ _ (s3 _ _ htk)))) (.cons (.str _) .nil)) (.cons (.int _) (.cons (.str _) .nil))))
      have D2 : Dp K (upd H4 k' (.tup [.str "x", .ref t', .int (-1), .str "e"])) (.ref k') (.tuple [.str "x", .tuple [.str "name"], .int (-1), .str "e"]) :=
        .tup (.inl (.inl upd_same)) (.cons (.str _) (.cons (.tup (.inl (.inl (s5 _ _ e4))) (.cons (.str _) .nil)) (.cons (.int _) (.cons (.str _) .nil))))
      have sh : SeqAt.shaped (.tuple [.str "x", .tuple [.str "name"], .int (-1), .str "e"]) = true := by decide +kernel
      refine ⟨_, _, D1, D2, sh, sh, _, rfl, ?_⟩
      rw [PySem.SeqAt.eqv_refl _ (PySem.SeqAt.canLay_of_shaped sh)]
      refine iteT ⟨rfl, ?_⟩
      rw [decide_eq_true rfl]
      exact q _
end
end Kx

set_option Elab.async false
set_option linter.all false
set_option maxRecDepth 100000
set_option maxHeartbeats 4000000
namespace Kx
open PySem PySem.Spec PyProof.Rows L2
theorem mro_of {K : PySem.W.Frag} {nm q : Str} {C N : Addr} {bs bm : List Value} {hd : Bool} {sn : List Str} {sub : List Value} {ab : Bool} {col : Option Bool} {dd : Option Addr} {m0 m1 m2 m3 m5 : Option Value} {nid : String}
    (h : K.lookup C = some (excClassObj nm q C N bs bm hd sn sub ab col dd m0 m1 m2 m3 m5 nid)) : (PySem.W.clsIn K C).map (·.mro) = some (.ref C :: bm) := by
  unfold PySem.W.clsIn
  rw [h]
  rfl
/-! ### what the top has written -/
theorem all_mk {l : PySem.W.OpenLaw} {w : World} {K : PySem.W.Frag} {h : Heap} {mg : Str → Option Value} {fa S c0 c1 c2 c3 c4 c5 c6 c7 c8 c9 c10 c11 c12 c13 c14 c15 c16 c17 c18 c19 c20 f0 f1 f2 f3 f4 f5 f6 f7 f8 f9 f10 f11 f12 f13 f14 f15 f16 f17 f18 f19 g0 g1 g2 g3 g4 g5 g6 g7 g8 g9 g10 g11 : Addr} (X : K.In h) (G : h.Ns mainGlobals mg) (hfa : mg "law" = some (.ref fa))
    {nm0 q0 : Str} {N0 : Addr} {bs0 : List Value} {sn0 : List Str} {sub0 : List Value} {ab0 : Bool} {col0 : Option Bool} {dd0 : Option Addr} {ma0 mb0 mc0 md0 mf0 : Option Value}
    {nm1 q1 : Str} {N1 : Addr} {bs1 : List Value} {sn1 : List Str} {sub1 : List Value} {ab1 : Bool} {col1 : Option Bool} {dd1 : Option Addr} {ma1 mb1 mc1 md1 mf1 : Option Value}
    {nm2 q2 : Str} {N2 : Addr} {bs2 : List Value} {sn2 : List Str} {sub2 : List Value} {ab2 : Bool} {col2 : Option Bool} {dd2 : Option Addr} {ma2 mb2 mc2 md2 mf2 : Option Value}
    {nm3 q3 : Str} {N3 : Addr} {bs3 : List Value} {sn3 : List Str} {sub3 : List Value} {ab3 : Bool} {col3 : Option Bool} {dd3 : Option Addr} {ma3 mb3 mc3 md3 mf3 : Option Value}
    {nm4 q4 : Str} {N4 : Addr} {bs4 : List Value} {sn4 : List Str} {sub4 : List Value} {ab4 : Bool} {col4 : Option Bool} {dd4 : Option Addr} {ma4 mb4 mc4 md4 mf4 : Option Value}
    {nm5 q5 : Str} {N5 : Addr} {bs5 : List Value} {sn5 : List Str} {sub5 : List Value} {ab5 : Bool} {col5 : Option Bool} {dd5 : Option Addr} {ma5 mb5 mc5 md5 mf5 : Option Value}
    {nm6 q6 : Str} {N6 : Addr} {bs6 : List Value} {sn6 : List Str} {sub6 : List Value} {ab6 : Bool} {col6 : Option Bool} {dd6 : Option Addr} {ma6 mb6 mc6 md6 mf6 : Option Value}
    {nm7 q7 : Str} {N7 : Addr} {bs7 : List Value} {sn7 : List Str} {sub7 : List Value} {ab7 : Bool} {col7 : Option Bool} {dd7 : Option Addr} {ma7 mb7 mc7 md7 mf7 : Option Value}
    {nm8 q8 : Str} {N8 : Addr} {bs8 : List Value} {sn8 : List Str} {sub8 : List Value} {ab8 : Bool} {col8 : Option Bool} {dd8 : Option Addr} {ma8 mb8 mc8 md8 mf8 : Option Value}
    {nm9 q9 : Str} {N9 : Addr} {bs9 : List Value} {sn9 : List Str} {sub9 : List Value} {ab9 : Bool} {col9 : Option Bool} {dd9 : Option Addr} {ma9 mb9 mc9 md9 mf9 : Option Value}
    {nm10 q10 : Str} {N10 : Addr} {bs10 : List Value} {sn10 : List Str} {sub10 : List Value} {ab10 : Bool} {col10 : Option Bool} {dd10 : Option Addr} {ma10 mb10 mc10 md10 mf10 : Option Value}
    {nm11 q11 : Str} {N11 : Addr} {bs11 : List Value} {sn11 : List Str} {sub11 : List Value} {ab11 : Bool} {col11 : Option Bool} {dd11 : Option Addr} {ma11 mb11 mc11 md11 mf11 : Option Value}
    {nm12 q12 : Str} {N12 : Addr} {bs12 : List Value} {sn12 : List Str} {sub12 : List Value} {ab12 : Bool} {col12 : Option Bool} {dd12 : Option Addr} {ma12 mb12 mc12 md12 mf12 : Option Value}
    {nm13 q13 : Str} {N13 : Addr} {bs13 : List Value} {sn13 : List Str} {sub13 : List Value} {ab13 : Bool} {col13 : Option Bool} {dd13 : Option Addr} {ma13 mb13 mc13 md13 mf13 : Option Value}
    {nm14 q14 : Str} {N14 : Addr} {bs14 : List Value} {sn14 : List Str} {sub14 : List Value} {ab14 : Bool} {col14 : Option Bool} {dd14 : Option Addr} {ma14 mb14 mc14 md14 mf14 : Option Value}
    {nm15 q15 : Str} {N15 : Addr} {bs15 : List Value} {sn15 : List Str} {sub15 : List Value} {ab15 : Bool} {col15 : Option Bool} {dd15 : Option Addr} {ma15 mb15 mc15 md15 mf15 : Option Value}
    {nm16 q16 : Str} {N16 : Addr} {bs16 : List Value} {sn16 : List Str} {sub16 : List Value} {ab16 : Bool} {col16 : Option Bool} {dd16 : Option Addr} {ma16 mb16 mc16 md16 mf16 : Option Value}
    {nm17 q17 : Str} {N17 : Addr} {bs17 : List Value} {sn17 : List Str} {sub17 : List Value} {ab17 : Bool} {col17 : Option Bool} {dd17 : Option Addr} {ma17 mb17 mc17 md17 mf17 : Option Value}
    {nm18 q18 : Str} {N18 : Addr} {bs18 : List Value} {sn18 : List Str} {sub18 : List Value} {ab18 : Bool} {col18 : Option Bool} {dd18 : Option Addr} {ma18 mb18 mc18 md18 mf18 : Option Value}
    {nm19 q19 : Str} {N19 : Addr} {bs19 : List Value} {sn19 : List Str} {sub19 : List Value} {ab19 : Bool} {col19 : Option Bool} {dd19 : Option Addr} {ma19 mb19 mc19 md19 mf19 : Option Value}
    {nm20 q20 : Str} {N20 : Addr} {bs20 : List Value} {sn20 : List Str} {sub20 : List Value} {ab20 : Bool} {col20 : Option Bool} {dd20 : Option Addr} {ma20 mb20 mc20 md20 mf20 : Option Value}
    {od0 an0 : Option Addr} {sl0 : Array (Option Value)} {oc0 dc0 pm0 cd0 ct0 : Value}
    {od1 an1 : Option Addr} {sl1 : Array (Option Value)} {oc1 dc1 pm1 cd1 ct1 : Value}
    {od2 an2 : Option Addr} {sl2 : Array (Option Value)} {oc2 dc2 pm2 cd2 ct2 : Value}
    {od3 an3 : Option Addr} {sl3 : Array (Option Value)} {oc3 dc3 pm3 cd3 ct3 : Value}
    {od4 an4 : Option Addr} {sl4 : Array (Option Value)} {oc4 dc4 pm4 cd4 ct4 : Value}
    {od5 an5 : Option Addr} {sl5 : Array (Option Value)} {oc5 dc5 pm5 cd5 ct5 : Value}
    {od6 an6 : Option Addr} {sl6 : Array (Option Value)} {oc6 dc6 pm6 cd6 ct6 : Value}
    {od7 an7 : Option Addr} {sl7 : Array (Option Value)} {oc7 dc7 pm7 cd7 ct7 : Value}
    {od8 an8 : Option Addr} {sl8 : Array (Option Value)} {oc8 dc8 pm8 cd8 ct8 : Value}
    {od9 an9 : Option Addr} {sl9 : Array (Option Value)} {oc9 dc9 pm9 cd9 ct9 : Value}
    {od10 an10 : Option Addr} {sl10 : Array (Option Value)} {oc10 dc10 pm10 cd10 ct10 : Value}
    {od11 an11 : Option Addr} {sl11 : Array (Option Value)} {oc11 dc11 pm11 cd11 ct11 : Value}
    {od12 an12 : Option Addr} {sl12 : Array (Option Value)} {oc12 dc12 pm12 cd12 ct12 : Value}
    {od13 an13 : Option Addr} {sl13 : Array (Option Value)} {oc13 dc13 pm13 cd13 ct13 : Value}
    {od14 an14 : Option Addr} {sl14 : Array (Option Value)} {oc14 dc14 pm14 cd14 ct14 : Value}
    {od15 an15 : Option Addr} {sl15 : Array (Option Value)} {oc15 dc15 pm15 cd15 ct15 : Value}
    {od16 an16 : Option Addr} {sl16 : Array (Option Value)} {oc16 dc16 pm16 cd16 ct16 : Value}
    {od17 an17 : Option Addr} {sl17 : Array (Option Value)} {oc17 dc17 pm17 cd17 ct17 : Value}
    {od18 an18 : Option Addr} {sl18 : Array (Option Value)} {oc18 dc18 pm18 cd18 ct18 : Value}
    {od19 an19 : Option Addr} {sl19 : Array (Option Value)} {oc19 dc19 pm19 cd19 ct19 : Value}
    {god0 gan0 : Option Addr} {gsl0 : Array (Option Value)} {goc0 gkV0 gdc0 gpm0 gcd0 gct0 : Value}
    {god1 gan1 : Option Addr} {gsl1 : Array (Option Value)} {goc1 gkV1 gdc1 gpm1 gcd1 gct1 : Value}
    {god2 gan2 : Option Addr} {gsl2 : Array (Option Value)} {goc2 gkV2 gdc2 gpm2 gcd2 gct2 : Value}
    {god3 gan3 : Option Addr} {gsl3 : Array (Option Value)} {goc3 gkV3 gdc3 gpm3 gcd3 gct3 : Value}
    {god4 gan4 : Option Addr} {gsl4 : Array (Option Value)} {goc4 gkV4 gdc4 gpm4 gcd4 gct4 : Value}
    {god5 gan5 : Option Addr} {gsl5 : Array (Option Value)} {goc5 gkV5 gdc5 gpm5 gcd5 gct5 : Value}
    {god6 gan6 : Option Addr} {gsl6 : Array (Option Value)} {goc6 gkV6 gdc6 gpm6 gcd6 gct6 : Value}
    {god7 gan7 : Option Addr} {gsl7 : Array (Option Value)} {goc7 gkV7 gdc7 gpm7 gcd7 gct7 : Value}
    {god8 gan8 : Option Addr} {gsl8 : Array (Option Value)} {goc8 gkV8 gdc8 gpm8 gcd8 gct8 : Value}
    {god9 gan9 : Option Addr} {gsl9 : Array (Option Value)} {goc9 gkV9 gdc9 gpm9 gcd9 gct9 : Value}
    {god10 gan10 : Option Addr} {gsl10 : Array (Option Value)} {goc10 gkV10 gdc10 gpm10 gcd10 gct10 : Value}
    {god11 gan11 : Option Addr} {gsl11 : Array (Option Value)} {goc11 gkV11 gdc11 gpm11 gcd11 gct11 : Value}
    (aS : PySem.W.nsIn K mainGlobals "SeamError" = some (some (.ref S)))
    (bS : PySem.W.subIn K (.ref S) (.type "BaseException") = some true)
    (tS : PySem.W.typeIn K (.ref S) = some (.type "type"))
    (iS : PySem.W.isClsIn K S = true)
    (a0 : PySem.W.nsIn K mainGlobals "InvalidBook" = some (some (.ref c0)))
    (x0 : K.lookup c0 = some (excClassObj nm0 q0 c0 N0 bs0 [.ref S, .type "Exception", .type "BaseException", .type "object"] true sn0 sub0 ab0 col0 dd0 ma0 mb0 mc0 md0 mf0 "Exception.__new__"))
    (kk0 : PySem.W.keepIn K (.ref c0) = true)
    (eb0 : PySem.W.subIn K (.ref c0) (.type "BaseException") = some true)
    (ty0 : PySem.W.typeIn K (.ref c0) = some (.type "type"))
    (ei0 : PySem.W.excInitIn K c0 PySem.ErrX.tailE "Exception.__new__" = true)
    (ov0 : PySem.W.excOver K c0 PySem.ErrX.tailE = true)
    (sa0 : PySem.W.findIn K (.ref c0) "__setattr__" = some (some (.builtin "object.__setattr__")))
    (ga0 : PySem.W.findIn K (.ref c0) "__getattribute__" = some (some (.builtin "BaseException.__getattribute__")))
    (gg0 : PySem.W.findIn K (.ref c0) "__getattr__" = some none)
    (nb0 : PySem.W.findIn K (.ref c0) "word" = some none)
    (ii0 : PySem.W.findIn K (.ref c0) "__init__" = some (some (.ref f0)))
    (tt0 : PySem.W.typeIn K (.ref f0) = some (.type "function"))
    (l0 : K.lookup f0 = some ⟨oc0, od0, .func (PySem.W.fnOf "__init__" "InvalidBook.__init__" (PySem.ErrWord.iA ⟨6, 17, 6, 21⟩ ⟨6, 23, 6, 27⟩) (PySem.ErrWord.iB ⟨7, 8, 7, 12⟩ ⟨7, 8, 7, 17⟩ ⟨7, 20, 7, 24⟩ ⟨7, 8, 7, 24⟩) (PySem.ErrWord.iS []) .none .none dc0 pm0 an0 cd0 ct0), sl0⟩)
    (cc0 : PySem.W.codeIn K cd0 "InvalidBook.__init__" = true)
    (hd0 : PySem.W.hasDictIn K c0 = true)
    (a1 : PySem.W.nsIn K mainGlobals "InvalidModule" = some (some (.ref c1)))
    (x1 : K.lookup c1 = some (excClassObj nm1 q1 c1 N1 bs1 [.ref S, .type "Exception", .type "BaseException", .type "object"] true sn1 sub1 ab1 col1 dd1 ma1 mb1 mc1 md1 mf1 "Exception.__new__"))
    (kk1 : PySem.W.keepIn K (.ref c1) = true)
    (eb1 : PySem.W.subIn K (.ref c1) (.type "BaseException") = some true)
    (ty1 : PySem.W.typeIn K (.ref c1) = some (.type "type"))
    (ei1 : PySem.W.excInitIn K c1 PySem.ErrX.tailE "Exception.__new__" = true)
    (ov1 : PySem.W.excOver K c1 PySem.ErrX.tailE = true)
    (sa1 : PySem.W.findIn K (.ref c1) "__setattr__" = some (some (.builtin "object.__setattr__")))
    (ga1 : PySem.W.findIn K (.ref c1) "__getattribute__" = some (some (.builtin "BaseException.__getattribute__")))
    (gg1 : PySem.W.findIn K (.ref c1) "__getattr__" = some none)
    (nb1 : PySem.W.findIn K (.ref c1) "at" = some none)
    (ii1 : PySem.W.findIn K (.ref c1) "__init__" = some (some (.ref f1)))
    (tt1 : PySem.W.typeIn K (.ref f1) = some (.type "function"))
    (l1 : K.lookup f1 = some ⟨oc1, od1, .func (PySem.W.fnOf "__init__" "InvalidModule.__init__" (PySem.ErrAt.iA ⟨10, 17, 10, 21⟩ ⟨10, 23, 10, 25⟩) (PySem.ErrAt.iB ⟨11, 8, 11, 12⟩ ⟨11, 8, 11, 15⟩ ⟨11, 18, 11, 20⟩ ⟨11, 8, 11, 20⟩) (PySem.ErrAt.iS []) .none .none dc1 pm1 an1 cd1 ct1), sl1⟩)
    (cc1 : PySem.W.codeIn K cd1 "InvalidModule.__init__" = true)
    (hd1 : PySem.W.hasDictIn K c1 = true)
    (a2 : PySem.W.nsIn K mainGlobals "InvalidSecrets" = some (some (.ref c2)))
    (x2 : K.lookup c2 = some (excClassObj nm2 q2 c2 N2 bs2 [.ref S, .type "Exception", .type "BaseException", .type "object"] true sn2 sub2 ab2 col2 dd2 ma2 mb2 mc2 md2 mf2 "Exception.__new__"))
    (kk2 : PySem.W.keepIn K (.ref c2) = true)
    (eb2 : PySem.W.subIn K (.ref c2) (.type "BaseException") = some true)
    (ty2 : PySem.W.typeIn K (.ref c2) = some (.type "type"))
    (ei2 : PySem.W.excInitIn K c2 PySem.ErrX.tailE "Exception.__new__" = true)
    (ov2 : PySem.W.excOver K c2 PySem.ErrX.tailE = true)
    (sa2 : PySem.W.findIn K (.ref c2) "__setattr__" = some (some (.builtin "object.__setattr__")))
    (ga2 : PySem.W.findIn K (.ref c2) "__getattribute__" = some (some (.builtin "BaseException.__getattribute__")))
    (gg2 : PySem.W.findIn K (.ref c2) "__getattr__" = some none)
    (nb2 : PySem.W.findIn K (.ref c2) "at" = some none)
    (ii2 : PySem.W.findIn K (.ref c2) "__init__" = some (some (.ref f2)))
    (tt2 : PySem.W.typeIn K (.ref f2) = some (.type "function"))
    (l2 : K.lookup f2 = some ⟨oc2, od2, .func (PySem.W.fnOf "__init__" "InvalidSecrets.__init__" (PySem.ErrAt.iA ⟨14, 17, 14, 21⟩ ⟨14, 23, 14, 25⟩) (PySem.ErrAt.iB ⟨15, 8, 15, 12⟩ ⟨15, 8, 15, 15⟩ ⟨15, 18, 15, 20⟩ ⟨15, 8, 15, 20⟩) (PySem.ErrAt.iS []) .none .none dc2 pm2 an2 cd2 ct2), sl2⟩)
    (cc2 : PySem.W.codeIn K cd2 "InvalidSecrets.__init__" = true)
    (hd2 : PySem.W.hasDictIn K c2 = true)
    (a3 : PySem.W.nsIn K mainGlobals "InvalidState" = some (some (.ref c3)))
    (x3 : K.lookup c3 = some (excClassObj nm3 q3 c3 N3 bs3 [.ref S, .type "Exception", .type "BaseException", .type "object"] true sn3 sub3 ab3 col3 dd3 ma3 mb3 mc3 md3 mf3 "Exception.__new__"))
    (kk3 : PySem.W.keepIn K (.ref c3) = true)
    (eb3 : PySem.W.subIn K (.ref c3) (.type "BaseException") = some true)
    (ty3 : PySem.W.typeIn K (.ref c3) = some (.type "type"))
    (ei3 : PySem.W.excInitIn K c3 PySem.ErrX.tailE "Exception.__new__" = true)
    (ov3 : PySem.W.excOver K c3 PySem.ErrX.tailE = true)
    (sa3 : PySem.W.findIn K (.ref c3) "__setattr__" = some (some (.builtin "object.__setattr__")))
    (ga3 : PySem.W.findIn K (.ref c3) "__getattribute__" = some (some (.builtin "BaseException.__getattribute__")))
    (gg3 : PySem.W.findIn K (.ref c3) "__getattr__" = some none)
    (nb3 : PySem.W.findIn K (.ref c3) "at" = some none)
    (ii3 : PySem.W.findIn K (.ref c3) "__init__" = some (some (.ref f3)))
    (tt3 : PySem.W.typeIn K (.ref f3) = some (.type "function"))
    (l3 : K.lookup f3 = some ⟨oc3, od3, .func (PySem.W.fnOf "__init__" "InvalidState.__init__" (PySem.ErrAt.iA ⟨18, 17, 18, 21⟩ ⟨18, 23, 18, 25⟩) (PySem.ErrAt.iB ⟨19, 8, 19, 12⟩ ⟨19, 8, 19, 15⟩ ⟨19, 18, 19, 20⟩ ⟨19, 8, 19, 20⟩) (PySem.ErrAt.iS []) .none .none dc3 pm3 an3 cd3 ct3), sl3⟩)
    (cc3 : PySem.W.codeIn K cd3 "InvalidState.__init__" = true)
    (hd3 : PySem.W.hasDictIn K c3 = true)
    (a4 : PySem.W.nsIn K mainGlobals "InvalidPlay" = some (some (.ref c4)))
    (x4 : K.lookup c4 = some (excClassObj nm4 q4 c4 N4 bs4 [.ref S, .type "Exception", .type "BaseException", .type "object"] true sn4 sub4 ab4 col4 dd4 ma4 mb4 mc4 md4 mf4 "Exception.__new__"))
    (kk4 : PySem.W.keepIn K (.ref c4) = true)
    (eb4 : PySem.W.subIn K (.ref c4) (.type "BaseException") = some true)
    (ty4 : PySem.W.typeIn K (.ref c4) = some (.type "type"))
    (ei4 : PySem.W.excInitIn K c4 PySem.ErrX.tailE "Exception.__new__" = true)
    (ov4 : PySem.W.excOver K c4 PySem.ErrX.tailE = true)
    (sa4 : PySem.W.findIn K (.ref c4) "__setattr__" = some (some (.builtin "object.__setattr__")))
    (ga4 : PySem.W.findIn K (.ref c4) "__getattribute__" = some (some (.builtin "BaseException.__getattribute__")))
    (gg4 : PySem.W.findIn K (.ref c4) "__getattr__" = some none)
    (nb4 : PySem.W.findIn K (.ref c4) "at" = some none)
    (ii4 : PySem.W.findIn K (.ref c4) "__init__" = some (some (.ref f4)))
    (tt4 : PySem.W.typeIn K (.ref f4) = some (.type "function"))
    (l4 : K.lookup f4 = some ⟨oc4, od4, .func (PySem.W.fnOf "__init__" "InvalidPlay.__init__" (PySem.ErrAt.iA ⟨22, 17, 22, 21⟩ ⟨22, 23, 22, 25⟩) (PySem.ErrAt.iB ⟨23, 8, 23, 12⟩ ⟨23, 8, 23, 15⟩ ⟨23, 18, 23, 20⟩ ⟨23, 8, 23, 20⟩) (PySem.ErrAt.iS []) .none .none dc4 pm4 an4 cd4 ct4), sl4⟩)
    (cc4 : PySem.W.codeIn K cd4 "InvalidPlay.__init__" = true)
    (hd4 : PySem.W.hasDictIn K c4 = true)
    (a5 : PySem.W.nsIn K mainGlobals "InvalidScript" = some (some (.ref c5)))
    (x5 : K.lookup c5 = some (excClassObj nm5 q5 c5 N5 bs5 [.ref S, .type "Exception", .type "BaseException", .type "object"] true sn5 sub5 ab5 col5 dd5 ma5 mb5 mc5 md5 mf5 "Exception.__new__"))
    (kk5 : PySem.W.keepIn K (.ref c5) = true)
    (eb5 : PySem.W.subIn K (.ref c5) (.type "BaseException") = some true)
    (ty5 : PySem.W.typeIn K (.ref c5) = some (.type "type"))
    (ei5 : PySem.W.excInitIn K c5 PySem.ErrX.tailE "Exception.__new__" = true)
    (ov5 : PySem.W.excOver K c5 PySem.ErrX.tailE = true)
    (sa5 : PySem.W.findIn K (.ref c5) "__setattr__" = some (some (.builtin "object.__setattr__")))
    (ga5 : PySem.W.findIn K (.ref c5) "__getattribute__" = some (some (.builtin "BaseException.__getattribute__")))
    (gg5 : PySem.W.findIn K (.ref c5) "__getattr__" = some none)
    (nb5 : PySem.W.findIn K (.ref c5) "at" = some none)
    (ii5 : PySem.W.findIn K (.ref c5) "__init__" = some (some (.ref f5)))
    (tt5 : PySem.W.typeIn K (.ref f5) = some (.type "function"))
    (l5 : K.lookup f5 = some ⟨oc5, od5, .func (PySem.W.fnOf "__init__" "InvalidScript.__init__" (PySem.ErrAt.iA ⟨26, 17, 26, 21⟩ ⟨26, 23, 26, 25⟩) (PySem.ErrAt.iB ⟨27, 8, 27, 12⟩ ⟨27, 8, 27, 15⟩ ⟨27, 18, 27, 20⟩ ⟨27, 8, 27, 20⟩) (PySem.ErrAt.iS []) .none .none dc5 pm5 an5 cd5 ct5), sl5⟩)
    (cc5 : PySem.W.codeIn K cd5 "InvalidScript.__init__" = true)
    (hd5 : PySem.W.hasDictIn K c5 = true)
    (a6 : PySem.W.nsIn K mainGlobals "InvalidStranger" = some (some (.ref c6)))
    (x6 : K.lookup c6 = some (excClassObj nm6 q6 c6 N6 bs6 [.ref S, .type "Exception", .type "BaseException", .type "object"] true sn6 sub6 ab6 col6 dd6 ma6 mb6 mc6 md6 mf6 "Exception.__new__"))
    (kk6 : PySem.W.keepIn K (.ref c6) = true)
    (eb6 : PySem.W.subIn K (.ref c6) (.type "BaseException") = some true)
    (ty6 : PySem.W.typeIn K (.ref c6) = some (.type "type"))
    (ei6 : PySem.W.excInitIn K c6 PySem.ErrX.tailE "Exception.__new__" = true)
    (ov6 : PySem.W.excOver K c6 PySem.ErrX.tailE = true)
    (sa6 : PySem.W.findIn K (.ref c6) "__setattr__" = some (some (.builtin "object.__setattr__")))
    (ga6 : PySem.W.findIn K (.ref c6) "__getattribute__" = some (some (.builtin "BaseException.__getattribute__")))
    (gg6 : PySem.W.findIn K (.ref c6) "__getattr__" = some none)
    (nb6 : PySem.W.findIn K (.ref c6) "at" = some none)
    (ii6 : PySem.W.findIn K (.ref c6) "__init__" = some (some (.ref f6)))
    (tt6 : PySem.W.typeIn K (.ref f6) = some (.type "function"))
    (l6 : K.lookup f6 = some ⟨oc6, od6, .func (PySem.W.fnOf "__init__" "InvalidStranger.__init__" (PySem.ErrAt.iA ⟨30, 17, 30, 21⟩ ⟨30, 23, 30, 25⟩) (PySem.ErrAt.iB ⟨31, 8, 31, 12⟩ ⟨31, 8, 31, 15⟩ ⟨31, 18, 31, 20⟩ ⟨31, 8, 31, 20⟩) (PySem.ErrAt.iS []) .none .none dc6 pm6 an6 cd6 ct6), sl6⟩)
    (cc6 : PySem.W.codeIn K cd6 "InvalidStranger.__init__" = true)
    (hd6 : PySem.W.hasDictIn K c6 = true)
    (a7 : PySem.W.nsIn K mainGlobals "InvalidText" = some (some (.ref c7)))
    (x7 : K.lookup c7 = some (excClassObj nm7 q7 c7 N7 bs7 [.ref S, .type "Exception", .type "BaseException", .type "object"] true sn7 sub7 ab7 col7 dd7 ma7 mb7 mc7 md7 mf7 "Exception.__new__"))
    (kk7 : PySem.W.keepIn K (.ref c7) = true)
    (eb7 : PySem.W.subIn K (.ref c7) (.type "BaseException") = some true)
    (ty7 : PySem.W.typeIn K (.ref c7) = some (.type "type"))
    (ei7 : PySem.W.excInitIn K c7 PySem.ErrX.tailE "Exception.__new__" = true)
    (ov7 : PySem.W.excOver K c7 PySem.ErrX.tailE = true)
    (sa7 : PySem.W.findIn K (.ref c7) "__setattr__" = some (some (.builtin "object.__setattr__")))
    (ga7 : PySem.W.findIn K (.ref c7) "__getattribute__" = some (some (.builtin "BaseException.__getattribute__")))
    (gg7 : PySem.W.findIn K (.ref c7) "__getattr__" = some none)
    (nb7 : PySem.W.findIn K (.ref c7) "at" = some none)
    (ii7 : PySem.W.findIn K (.ref c7) "__init__" = some (some (.ref f7)))
    (tt7 : PySem.W.typeIn K (.ref f7) = some (.type "function"))
    (l7 : K.lookup f7 = some ⟨oc7, od7, .func (PySem.W.fnOf "__init__" "InvalidText.__init__" (PySem.ErrAt.iA ⟨34, 17, 34, 21⟩ ⟨34, 23, 34, 25⟩) (PySem.ErrAt.iB ⟨35, 8, 35, 12⟩ ⟨35, 8, 35, 15⟩ ⟨35, 18, 35, 20⟩ ⟨35, 8, 35, 20⟩) (PySem.ErrAt.iS []) .none .none dc7 pm7 an7 cd7 ct7), sl7⟩)
    (cc7 : PySem.W.codeIn K cd7 "InvalidText.__init__" = true)
    (hd7 : PySem.W.hasDictIn K c7 = true)
    (a8 : PySem.W.nsIn K mainGlobals "InvalidSpots" = some (some (.ref c8)))
    (x8 : K.lookup c8 = some (excClassObj nm8 q8 c8 N8 bs8 [.ref S, .type "Exception", .type "BaseException", .type "object"] true sn8 sub8 ab8 col8 dd8 ma8 mb8 mc8 md8 mf8 "Exception.__new__"))
    (kk8 : PySem.W.keepIn K (.ref c8) = true)
    (eb8 : PySem.W.subIn K (.ref c8) (.type "BaseException") = some true)
    (ty8 : PySem.W.typeIn K (.ref c8) = some (.type "type"))
    (ei8 : PySem.W.excInitIn K c8 PySem.ErrX.tailE "Exception.__new__" = true)
    (ov8 : PySem.W.excOver K c8 PySem.ErrX.tailE = true)
    (sa8 : PySem.W.findIn K (.ref c8) "__setattr__" = some (some (.builtin "object.__setattr__")))
    (ga8 : PySem.W.findIn K (.ref c8) "__getattribute__" = some (some (.builtin "BaseException.__getattribute__")))
    (gg8 : PySem.W.findIn K (.ref c8) "__getattr__" = some none)
    (nb8 : PySem.W.findIn K (.ref c8) "at" = some none)
    (ii8 : PySem.W.findIn K (.ref c8) "__init__" = some (some (.ref f8)))
    (tt8 : PySem.W.typeIn K (.ref f8) = some (.type "function"))
    (l8 : K.lookup f8 = some ⟨oc8, od8, .func (PySem.W.fnOf "__init__" "InvalidSpots.__init__" (PySem.ErrAt.iA ⟨38, 17, 38, 21⟩ ⟨38, 23, 38, 25⟩) (PySem.ErrAt.iB ⟨39, 8, 39, 12⟩ ⟨39, 8, 39, 15⟩ ⟨39, 18, 39, 20⟩ ⟨39, 8, 39, 20⟩) (PySem.ErrAt.iS []) .none .none dc8 pm8 an8 cd8 ct8), sl8⟩)
    (cc8 : PySem.W.codeIn K cd8 "InvalidSpots.__init__" = true)
    (hd8 : PySem.W.hasDictIn K c8 = true)
    (a9 : PySem.W.nsIn K mainGlobals "InvalidCode" = some (some (.ref c9)))
    (x9 : K.lookup c9 = some (excClassObj nm9 q9 c9 N9 bs9 [.ref S, .type "Exception", .type "BaseException", .type "object"] true sn9 sub9 ab9 col9 dd9 ma9 mb9 mc9 md9 mf9 "Exception.__new__"))
    (kk9 : PySem.W.keepIn K (.ref c9) = true)
    (eb9 : PySem.W.subIn K (.ref c9) (.type "BaseException") = some true)
    (ty9 : PySem.W.typeIn K (.ref c9) = some (.type "type"))
    (ei9 : PySem.W.excInitIn K c9 PySem.ErrX.tailE "Exception.__new__" = true)
    (ov9 : PySem.W.excOver K c9 PySem.ErrX.tailE = true)
    (sa9 : PySem.W.findIn K (.ref c9) "__setattr__" = some (some (.builtin "object.__setattr__")))
    (ga9 : PySem.W.findIn K (.ref c9) "__getattribute__" = some (some (.builtin "BaseException.__getattribute__")))
    (gg9 : PySem.W.findIn K (.ref c9) "__getattr__" = some none)
    (nb9 : PySem.W.findIn K (.ref c9) "at" = some none)
    (ii9 : PySem.W.findIn K (.ref c9) "__init__" = some (some (.ref f9)))
    (tt9 : PySem.W.typeIn K (.ref f9) = some (.type "function"))
    (l9 : K.lookup f9 = some ⟨oc9, od9, .func (PySem.W.fnOf "__init__" "InvalidCode.__init__" (PySem.ErrAt.iA ⟨42, 17, 42, 21⟩ ⟨42, 23, 42, 25⟩) (PySem.ErrAt.iB ⟨43, 8, 43, 12⟩ ⟨43, 8, 43, 15⟩ ⟨43, 18, 43, 20⟩ ⟨43, 8, 43, 20⟩) (PySem.ErrAt.iS []) .none .none dc9 pm9 an9 cd9 ct9), sl9⟩)
    (cc9 : PySem.W.codeIn K cd9 "InvalidCode.__init__" = true)
    (hd9 : PySem.W.hasDictIn K c9 = true)
    (a10 : PySem.W.nsIn K mainGlobals "InvalidRoom" = some (some (.ref c10)))
    (x10 : K.lookup c10 = some (excClassObj nm10 q10 c10 N10 bs10 [.ref S, .type "Exception", .type "BaseException", .type "object"] true sn10 sub10 ab10 col10 dd10 ma10 mb10 mc10 md10 mf10 "Exception.__new__"))
    (kk10 : PySem.W.keepIn K (.ref c10) = true)
    (eb10 : PySem.W.subIn K (.ref c10) (.type "BaseException") = some true)
    (ty10 : PySem.W.typeIn K (.ref c10) = some (.type "type"))
    (ei10 : PySem.W.excInitIn K c10 PySem.ErrX.tailE "Exception.__new__" = true)
    (ov10 : PySem.W.excOver K c10 PySem.ErrX.tailE = true)
    (sa10 : PySem.W.findIn K (.ref c10) "__setattr__" = some (some (.builtin "object.__setattr__")))
    (ga10 : PySem.W.findIn K (.ref c10) "__getattribute__" = some (some (.builtin "BaseException.__getattribute__")))
    (gg10 : PySem.W.findIn K (.ref c10) "__getattr__" = some none)
    (nb10 : PySem.W.findIn K (.ref c10) "at" = some none)
    (ii10 : PySem.W.findIn K (.ref c10) "__init__" = some (some (.ref f10)))
    (tt10 : PySem.W.typeIn K (.ref f10) = some (.type "function"))
    (l10 : K.lookup f10 = some ⟨oc10, od10, .func (PySem.W.fnOf "__init__" "InvalidRoom.__init__" (PySem.ErrAt.iA ⟨46, 17, 46, 21⟩ ⟨46, 23, 46, 25⟩) (PySem.ErrAt.iB ⟨47, 8, 47, 12⟩ ⟨47, 8, 47, 15⟩ ⟨47, 18, 47, 20⟩ ⟨47, 8, 47, 20⟩) (PySem.ErrAt.iS []) .none .none dc10 pm10 an10 cd10 ct10), sl10⟩)
    (cc10 : PySem.W.codeIn K cd10 "InvalidRoom.__init__" = true)
    (hd10 : PySem.W.hasDictIn K c10 = true)
    (a11 : PySem.W.nsIn K mainGlobals "InvalidFrames" = some (some (.ref c11)))
    (x11 : K.lookup c11 = some (excClassObj nm11 q11 c11 N11 bs11 [.ref S, .type "Exception", .type "BaseException", .type "object"] true sn11 sub11 ab11 col11 dd11 ma11 mb11 mc11 md11 mf11 "Exception.__new__"))
    (kk11 : PySem.W.keepIn K (.ref c11) = true)
    (eb11 : PySem.W.subIn K (.ref c11) (.type "BaseException") = some true)
    (ty11 : PySem.W.typeIn K (.ref c11) = some (.type "type"))
    (ei11 : PySem.W.excInitIn K c11 PySem.ErrX.tailE "Exception.__new__" = true)
    (ov11 : PySem.W.excOver K c11 PySem.ErrX.tailE = true)
    (sa11 : PySem.W.findIn K (.ref c11) "__setattr__" = some (some (.builtin "object.__setattr__")))
    (ga11 : PySem.W.findIn K (.ref c11) "__getattribute__" = some (some (.builtin "BaseException.__getattribute__")))
    (gg11 : PySem.W.findIn K (.ref c11) "__getattr__" = some none)
    (nb11 : PySem.W.findIn K (.ref c11) "at" = some none)
    (ii11 : PySem.W.findIn K (.ref c11) "__init__" = some (some (.ref f11)))
    (tt11 : PySem.W.typeIn K (.ref f11) = some (.type "function"))
    (l11 : K.lookup f11 = some ⟨oc11, od11, .func (PySem.W.fnOf "__init__" "InvalidFrames.__init__" (PySem.ErrAt.iA ⟨50, 17, 50, 21⟩ ⟨50, 23, 50, 25⟩) (PySem.ErrAt.iB ⟨51, 8, 51, 12⟩ ⟨51, 8, 51, 15⟩ ⟨51, 18, 51, 20⟩ ⟨51, 8, 51, 20⟩) (PySem.ErrAt.iS []) .none .none dc11 pm11 an11 cd11 ct11), sl11⟩)
    (cc11 : PySem.W.codeIn K cd11 "InvalidFrames.__init__" = true)
    (hd11 : PySem.W.hasDictIn K c11 = true)
    (a12 : PySem.W.nsIn K mainGlobals "InvalidWeb" = some (some (.ref c12)))
    (x12 : K.lookup c12 = some (excClassObj nm12 q12 c12 N12 bs12 [.ref S, .type "Exception", .type "BaseException", .type "object"] true sn12 sub12 ab12 col12 dd12 ma12 mb12 mc12 md12 mf12 "Exception.__new__"))
    (kk12 : PySem.W.keepIn K (.ref c12) = true)
    (eb12 : PySem.W.subIn K (.ref c12) (.type "BaseException") = some true)
    (ty12 : PySem.W.typeIn K (.ref c12) = some (.type "type"))
    (ei12 : PySem.W.excInitIn K c12 PySem.ErrX.tailE "Exception.__new__" = true)
    (ov12 : PySem.W.excOver K c12 PySem.ErrX.tailE = true)
    (sa12 : PySem.W.findIn K (.ref c12) "__setattr__" = some (some (.builtin "object.__setattr__")))
    (ga12 : PySem.W.findIn K (.ref c12) "__getattribute__" = some (some (.builtin "BaseException.__getattribute__")))
    (gg12 : PySem.W.findIn K (.ref c12) "__getattr__" = some none)
    (nb12 : PySem.W.findIn K (.ref c12) "at" = some none)
    (ii12 : PySem.W.findIn K (.ref c12) "__init__" = some (some (.ref f12)))
    (tt12 : PySem.W.typeIn K (.ref f12) = some (.type "function"))
    (l12 : K.lookup f12 = some ⟨oc12, od12, .func (PySem.W.fnOf "__init__" "InvalidWeb.__init__" (PySem.ErrAt.iA ⟨54, 17, 54, 21⟩ ⟨54, 23, 54, 25⟩) (PySem.ErrAt.iB ⟨55, 8, 55, 12⟩ ⟨55, 8, 55, 15⟩ ⟨55, 18, 55, 20⟩ ⟨55, 8, 55, 20⟩) (PySem.ErrAt.iS []) .none .none dc12 pm12 an12 cd12 ct12), sl12⟩)
    (cc12 : PySem.W.codeIn K cd12 "InvalidWeb.__init__" = true)
    (hd12 : PySem.W.hasDictIn K c12 = true)
    (a13 : PySem.W.nsIn K mainGlobals "InvalidLots" = some (some (.ref c13)))
    (x13 : K.lookup c13 = some (excClassObj nm13 q13 c13 N13 bs13 [.ref S, .type "Exception", .type "BaseException", .type "object"] true sn13 sub13 ab13 col13 dd13 ma13 mb13 mc13 md13 mf13 "Exception.__new__"))
    (kk13 : PySem.W.keepIn K (.ref c13) = true)
    (eb13 : PySem.W.subIn K (.ref c13) (.type "BaseException") = some true)
    (ty13 : PySem.W.typeIn K (.ref c13) = some (.type "type"))
    (ei13 : PySem.W.excInitIn K c13 PySem.ErrX.tailE "Exception.__new__" = true)
    (ov13 : PySem.W.excOver K c13 PySem.ErrX.tailE = true)
    (sa13 : PySem.W.findIn K (.ref c13) "__setattr__" = some (some (.builtin "object.__setattr__")))
    (ga13 : PySem.W.findIn K (.ref c13) "__getattribute__" = some (some (.builtin "BaseException.__getattribute__")))
    (gg13 : PySem.W.findIn K (.ref c13) "__getattr__" = some none)
    (nb13 : PySem.W.findIn K (.ref c13) "at" = some none)
    (ii13 : PySem.W.findIn K (.ref c13) "__init__" = some (some (.ref f13)))
    (tt13 : PySem.W.typeIn K (.ref f13) = some (.type "function"))
    (l13 : K.lookup f13 = some ⟨oc13, od13, .func (PySem.W.fnOf "__init__" "InvalidLots.__init__" (PySem.ErrAt.iA ⟨58, 17, 58, 21⟩ ⟨58, 23, 58, 25⟩) (PySem.ErrAt.iB ⟨59, 8, 59, 12⟩ ⟨59, 8, 59, 15⟩ ⟨59, 18, 59, 20⟩ ⟨59, 8, 59, 20⟩) (PySem.ErrAt.iS []) .none .none dc13 pm13 an13 cd13 ct13), sl13⟩)
    (cc13 : PySem.W.codeIn K cd13 "InvalidLots.__init__" = true)
    (hd13 : PySem.W.hasDictIn K c13 = true)
    (a14 : PySem.W.nsIn K mainGlobals "InvalidLink" = some (some (.ref c14)))
    (x14 : K.lookup c14 = some (excClassObj nm14 q14 c14 N14 bs14 [.ref S, .type "Exception", .type "BaseException", .type "object"] true sn14 sub14 ab14 col14 dd14 ma14 mb14 mc14 md14 mf14 "Exception.__new__"))
    (kk14 : PySem.W.keepIn K (.ref c14) = true)
    (eb14 : PySem.W.subIn K (.ref c14) (.type "BaseException") = some true)
    (ty14 : PySem.W.typeIn K (.ref c14) = some (.type "type"))
    (ei14 : PySem.W.excInitIn K c14 PySem.ErrX.tailE "Exception.__new__" = true)
    (ov14 : PySem.W.excOver K c14 PySem.ErrX.tailE = true)
    (sa14 : PySem.W.findIn K (.ref c14) "__setattr__" = some (some (.builtin "object.__setattr__")))
    (ga14 : PySem.W.findIn K (.ref c14) "__getattribute__" = some (some (.builtin "BaseException.__getattribute__")))
    (gg14 : PySem.W.findIn K (.ref c14) "__getattr__" = some none)
    (nb14 : PySem.W.findIn K (.ref c14) "at" = some none)
    (ii14 : PySem.W.findIn K (.ref c14) "__init__" = some (some (.ref f14)))
    (tt14 : PySem.W.typeIn K (.ref f14) = some (.type "function"))
    (l14 : K.lookup f14 = some ⟨oc14, od14, .func (PySem.W.fnOf "__init__" "InvalidLink.__init__" (PySem.ErrAt.iA ⟨62, 17, 62, 21⟩ ⟨62, 23, 62, 25⟩) (PySem.ErrAt.iB ⟨63, 8, 63, 12⟩ ⟨63, 8, 63, 15⟩ ⟨63, 18, 63, 20⟩ ⟨63, 8, 63, 20⟩) (PySem.ErrAt.iS []) .none .none dc14 pm14 an14 cd14 ct14), sl14⟩)
    (cc14 : PySem.W.codeIn K cd14 "InvalidLink.__init__" = true)
    (hd14 : PySem.W.hasDictIn K c14 = true)
    (a15 : PySem.W.nsIn K mainGlobals "InvalidIndex" = some (some (.ref c15)))
    (x15 : K.lookup c15 = some (excClassObj nm15 q15 c15 N15 bs15 [.ref S, .type "Exception", .type "BaseException", .type "object"] true sn15 sub15 ab15 col15 dd15 ma15 mb15 mc15 md15 mf15 "Exception.__new__"))
    (kk15 : PySem.W.keepIn K (.ref c15) = true)
    (eb15 : PySem.W.subIn K (.ref c15) (.type "BaseException") = some true)
    (ty15 : PySem.W.typeIn K (.ref c15) = some (.type "type"))
    (ei15 : PySem.W.excInitIn K c15 PySem.ErrX.tailE "Exception.__new__" = true)
    (ov15 : PySem.W.excOver K c15 PySem.ErrX.tailE = true)
    (sa15 : PySem.W.findIn K (.ref c15) "__setattr__" = some (some (.builtin "object.__setattr__")))
    (ga15 : PySem.W.findIn K (.ref c15) "__getattribute__" = some (some (.builtin "BaseException.__getattribute__")))
    (gg15 : PySem.W.findIn K (.ref c15) "__getattr__" = some none)
    (nb15 : PySem.W.findIn K (.ref c15) "at" = some none)
    (ii15 : PySem.W.findIn K (.ref c15) "__init__" = some (some (.ref f15)))
    (tt15 : PySem.W.typeIn K (.ref f15) = some (.type "function"))
    (l15 : K.lookup f15 = some ⟨oc15, od15, .func (PySem.W.fnOf "__init__" "InvalidIndex.__init__" (PySem.ErrAt.iA ⟨66, 17, 66, 21⟩ ⟨66, 23, 66, 25⟩) (PySem.ErrAt.iB ⟨67, 8, 67, 12⟩ ⟨67, 8, 67, 15⟩ ⟨67, 18, 67, 20⟩ ⟨67, 8, 67, 20⟩) (PySem.ErrAt.iS []) .none .none dc15 pm15 an15 cd15 ct15), sl15⟩)
    (cc15 : PySem.W.codeIn K cd15 "InvalidIndex.__init__" = true)
    (hd15 : PySem.W.hasDictIn K c15 = true)
    (a16 : PySem.W.nsIn K mainGlobals "InvalidSize" = some (some (.ref c16)))
    (x16 : K.lookup c16 = some (excClassObj nm16 q16 c16 N16 bs16 [.ref S, .type "Exception", .type "BaseException", .type "object"] true sn16 sub16 ab16 col16 dd16 ma16 mb16 mc16 md16 mf16 "Exception.__new__"))
    (kk16 : PySem.W.keepIn K (.ref c16) = true)
    (eb16 : PySem.W.subIn K (.ref c16) (.type "BaseException") = some true)
    (ty16 : PySem.W.typeIn K (.ref c16) = some (.type "type"))
    (ei16 : PySem.W.excInitIn K c16 PySem.ErrX.tailE "Exception.__new__" = true)
    (ov16 : PySem.W.excOver K c16 PySem.ErrX.tailE = true)
    (sa16 : PySem.W.findIn K (.ref c16) "__setattr__" = some (some (.builtin "object.__setattr__")))
    (ga16 : PySem.W.findIn K (.ref c16) "__getattribute__" = some (some (.builtin "BaseException.__getattribute__")))
    (gg16 : PySem.W.findIn K (.ref c16) "__getattr__" = some none)
    (nb16 : PySem.W.findIn K (.ref c16) "word" = some none)
    (ii16 : PySem.W.findIn K (.ref c16) "__init__" = some (some (.ref f16)))
    (tt16 : PySem.W.typeIn K (.ref f16) = some (.type "function"))
    (l16 : K.lookup f16 = some ⟨oc16, od16, .func (PySem.W.fnOf "__init__" "InvalidSize.__init__" (PySem.ErrWord.iA ⟨70, 17, 70, 21⟩ ⟨70, 23, 70, 27⟩) (PySem.ErrWord.iB ⟨71, 8, 71, 12⟩ ⟨71, 8, 71, 17⟩ ⟨71, 20, 71, 24⟩ ⟨71, 8, 71, 24⟩) (PySem.ErrWord.iS []) .none .none dc16 pm16 an16 cd16 ct16), sl16⟩)
    (cc16 : PySem.W.codeIn K cd16 "InvalidSize.__init__" = true)
    (hd16 : PySem.W.hasDictIn K c16 = true)
    (a17 : PySem.W.nsIn K mainGlobals "LargeTable" = some (some (.ref c17)))
    (x17 : K.lookup c17 = some (excClassObj nm17 q17 c17 N17 bs17 [.ref S, .type "Exception", .type "BaseException", .type "object"] true sn17 sub17 ab17 col17 dd17 ma17 mb17 mc17 md17 mf17 "Exception.__new__"))
    (kk17 : PySem.W.keepIn K (.ref c17) = true)
    (eb17 : PySem.W.subIn K (.ref c17) (.type "BaseException") = some true)
    (ty17 : PySem.W.typeIn K (.ref c17) = some (.type "type"))
    (ei17 : PySem.W.excInitIn K c17 PySem.ErrX.tailE "Exception.__new__" = true)
    (ov17 : PySem.W.excOver K c17 PySem.ErrX.tailE = true)
    (sa17 : PySem.W.findIn K (.ref c17) "__setattr__" = some (some (.builtin "object.__setattr__")))
    (ga17 : PySem.W.findIn K (.ref c17) "__getattribute__" = some (some (.builtin "BaseException.__getattribute__")))
    (gg17 : PySem.W.findIn K (.ref c17) "__getattr__" = some none)
    (nb17 : PySem.W.findIn K (.ref c17) "many" = some none)
    (ii17 : PySem.W.findIn K (.ref c17) "__init__" = some (some (.ref f17)))
    (tt17 : PySem.W.typeIn K (.ref f17) = some (.type "function"))
    (l17 : K.lookup f17 = some ⟨oc17, od17, .func (PySem.W.fnOf "__init__" "LargeTable.__init__" (PySem.ErrMany.iA ⟨74, 17, 74, 21⟩ ⟨74, 23, 74, 27⟩) (PySem.ErrMany.iB ⟨75, 8, 75, 12⟩ ⟨75, 8, 75, 17⟩ ⟨75, 20, 75, 24⟩ ⟨75, 8, 75, 24⟩) (PySem.ErrMany.iS []) .none .none dc17 pm17 an17 cd17 ct17), sl17⟩)
    (cc17 : PySem.W.codeIn K cd17 "LargeTable.__init__" = true)
    (hd17 : PySem.W.hasDictIn K c17 = true)
    (a18 : PySem.W.nsIn K mainGlobals "Refused" = some (some (.ref c18)))
    (x18 : K.lookup c18 = some (excClassObj nm18 q18 c18 N18 bs18 [.ref S, .type "Exception", .type "BaseException", .type "object"] true sn18 sub18 ab18 col18 dd18 ma18 mb18 mc18 md18 mf18 "Exception.__new__"))
    (kk18 : PySem.W.keepIn K (.ref c18) = true)
    (eb18 : PySem.W.subIn K (.ref c18) (.type "BaseException") = some true)
    (ty18 : PySem.W.typeIn K (.ref c18) = some (.type "type"))
    (ei18 : PySem.W.excInitIn K c18 PySem.ErrX.tailE "Exception.__new__" = true)
    (ov18 : PySem.W.excOver K c18 PySem.ErrX.tailE = true)
    (sa18 : PySem.W.findIn K (.ref c18) "__setattr__" = some (some (.builtin "object.__setattr__")))
    (ga18 : PySem.W.findIn K (.ref c18) "__getattribute__" = some (some (.builtin "BaseException.__getattribute__")))
    (gg18 : PySem.W.findIn K (.ref c18) "__getattr__" = some none)
    (nb18 : PySem.W.findIn K (.ref c18) "at" = some none)
    (ii18 : PySem.W.findIn K (.ref c18) "__init__" = some (some (.ref f18)))
    (tt18 : PySem.W.typeIn K (.ref f18) = some (.type "function"))
    (l18 : K.lookup f18 = some ⟨oc18, od18, .func (PySem.W.fnOf "__init__" "Refused.__init__" (PySem.ErrAt.iA ⟨78, 17, 78, 21⟩ ⟨78, 23, 78, 25⟩) (PySem.ErrAt.iB ⟨79, 8, 79, 12⟩ ⟨79, 8, 79, 15⟩ ⟨79, 18, 79, 20⟩ ⟨79, 8, 79, 20⟩) (PySem.ErrAt.iS []) .none .none dc18 pm18 an18 cd18 ct18), sl18⟩)
    (cc18 : PySem.W.codeIn K cd18 "Refused.__init__" = true)
    (hd18 : PySem.W.hasDictIn K c18 = true)
    (a19 : PySem.W.nsIn K mainGlobals "NoName" = some (some (.ref c19)))
    (x19 : K.lookup c19 = some (excClassObj nm19 q19 c19 N19 bs19 [.ref S, .type "Exception", .type "BaseException", .type "object"] true sn19 sub19 ab19 col19 dd19 ma19 mb19 mc19 md19 mf19 "Exception.__new__"))
    (kk19 : PySem.W.keepIn K (.ref c19) = true)
    (eb19 : PySem.W.subIn K (.ref c19) (.type "BaseException") = some true)
    (ty19 : PySem.W.typeIn K (.ref c19) = some (.type "type"))
    (ei19 : PySem.W.excInitIn K c19 PySem.ErrX.tailE "Exception.__new__" = true)
    (ov19 : PySem.W.excOver K c19 PySem.ErrX.tailE = true)
    (sa19 : PySem.W.findIn K (.ref c19) "__setattr__" = some (some (.builtin "object.__setattr__")))
    (ga19 : PySem.W.findIn K (.ref c19) "__getattribute__" = some (some (.builtin "BaseException.__getattribute__")))
    (gg19 : PySem.W.findIn K (.ref c19) "__getattr__" = some none)
    (nb19 : PySem.W.findIn K (.ref c19) "name" = some none)
    (ii19 : PySem.W.findIn K (.ref c19) "__init__" = some (some (.ref f19)))
    (tt19 : PySem.W.typeIn K (.ref f19) = some (.type "function"))
    (l19 : K.lookup f19 = some ⟨oc19, od19, .func (PySem.W.fnOf "__init__" "NoName.__init__" (PySem.ErrName.iA ⟨82, 17, 82, 21⟩ ⟨82, 23, 82, 27⟩) (PySem.ErrName.iB ⟨83, 8, 83, 12⟩ ⟨83, 8, 83, 17⟩ ⟨83, 20, 83, 24⟩ ⟨83, 8, 83, 24⟩) (PySem.ErrName.iS []) .none .none dc19 pm19 an19 cd19 ct19), sl19⟩)
    (cc19 : PySem.W.codeIn K cd19 "NoName.__init__" = true)
    (hd19 : PySem.W.hasDictIn K c19 = true)
    (a20 : PySem.W.nsIn K mainGlobals "InvalidCommand" = some (some (.ref c20)))
    (x20 : K.lookup c20 = some (excClassObj nm20 q20 c20 N20 bs20 [.ref S, .type "Exception", .type "BaseException", .type "object"] true sn20 sub20 ab20 col20 dd20 ma20 mb20 mc20 md20 mf20 "Exception.__new__"))
    (kk20 : PySem.W.keepIn K (.ref c20) = true)
    (eb20 : PySem.W.subIn K (.ref c20) (.type "BaseException") = some true)
    (ty20 : PySem.W.typeIn K (.ref c20) = some (.type "type"))
    (xx20 : PySem.W.excIn K c20 PySem.ErrX.tailE "Exception.__new__" = true)
    (ag0 : PySem.W.nsIn K mainGlobals "_law_box" = some (some (.ref g0)))
    (lg0 : K.lookup g0 = some ⟨goc0, god0, .func (PySem.W.fnOf "_law_box" "_law_box" (defArgs s_law_box) (defBody s_law_box) (defScope s_law_box) .none gkV0 gdc0 gpm0 gan0 gcd0 gct0), gsl0⟩)
    (cg0 : PySem.W.codeIn K gcd0 "_law_box" = true)
    (kg0 : PySem.W.keepIn K (.ref g0) = true)
    (ag1 : PySem.W.nsIn K mainGlobals "_law_take" = some (some (.ref g1)))
    (lg1 : K.lookup g1 = some ⟨goc1, god1, .func (PySem.W.fnOf "_law_take" "_law_take" (defArgs s_law_take) (defBody s_law_take) (defScope s_law_take) .none gkV1 gdc1 gpm1 gan1 gcd1 gct1), gsl1⟩)
    (cg1 : PySem.W.codeIn K gcd1 "_law_take" = true)
    (kg1 : PySem.W.keepIn K (.ref g1) = true)
    (ag2 : PySem.W.nsIn K mainGlobals "_law_pick" = some (some (.ref g2)))
    (lg2 : K.lookup g2 = some ⟨goc2, god2, .func (PySem.W.fnOf "_law_pick" "_law_pick" (defArgs s_law_pick) (defBody s_law_pick) (defScope s_law_pick) .none gkV2 gdc2 gpm2 gan2 gcd2 gct2), gsl2⟩)
    (cg2 : PySem.W.codeIn K gcd2 "_law_pick" = true)
    (kg2 : PySem.W.keepIn K (.ref g2) = true)
    (ag3 : PySem.W.nsIn K mainGlobals "_law_raise_a" = some (some (.ref g3)))
    (lg3 : K.lookup g3 = some ⟨goc3, god3, .func (PySem.W.fnOf "_law_raise_a" "_law_raise_a" (defArgs s_law_raise_a) (defBody s_law_raise_a) (defScope s_law_raise_a) .none gkV3 gdc3 gpm3 gan3 gcd3 gct3), gsl3⟩)
    (cg3 : PySem.W.codeIn K gcd3 "_law_raise_a" = true)
    (kg3 : PySem.W.keepIn K (.ref g3) = true)
    (ag4 : PySem.W.nsIn K mainGlobals "_law_raise_b" = some (some (.ref g4)))
    (lg4 : K.lookup g4 = some ⟨goc4, god4, .func (PySem.W.fnOf "_law_raise_b" "_law_raise_b" (defArgs s_law_raise_b) (defBody s_law_raise_b) (defScope s_law_raise_b) .none gkV4 gdc4 gpm4 gan4 gcd4 gct4), gsl4⟩)
    (cg4 : PySem.W.codeIn K gcd4 "_law_raise_b" = true)
    (kg4 : PySem.W.keepIn K (.ref g4) = true)
    (ag5 : PySem.W.nsIn K mainGlobals "_law_raise_c" = some (some (.ref g5)))
    (lg5 : K.lookup g5 = some ⟨goc5, god5, .func (PySem.W.fnOf "_law_raise_c" "_law_raise_c" (defArgs s_law_raise_c) (defBody s_law_raise_c) (defScope s_law_raise_c) .none gkV5 gdc5 gpm5 gan5 gcd5 gct5), gsl5⟩)
    (cg5 : PySem.W.codeIn K gcd5 "_law_raise_c" = true)
    (kg5 : PySem.W.keepIn K (.ref g5) = true)
    (ag6 : PySem.W.nsIn K mainGlobals "_law_raise" = some (some (.ref g6)))
    (lg6 : K.lookup g6 = some ⟨goc6, god6, .func (PySem.W.fnOf "_law_raise" "_law_raise" (defArgs s_law_raise) (defBody s_law_raise) (defScope s_law_raise) .none gkV6 gdc6 gpm6 gan6 gcd6 gct6), gsl6⟩)
    (cg6 : PySem.W.codeIn K gcd6 "_law_raise" = true)
    (kg6 : PySem.W.keepIn K (.ref g6) = true)
    (ag7 : PySem.W.nsIn K mainGlobals "_law_caught_a" = some (some (.ref g7)))
    (lg7 : K.lookup g7 = some ⟨goc7, god7, .func (PySem.W.fnOf "_law_caught_a" "_law_caught_a" (defArgs s_law_caught_a) (defBody s_law_caught_a) (defScope s_law_caught_a) .none gkV7 gdc7 gpm7 gan7 gcd7 gct7), gsl7⟩)
    (cg7 : PySem.W.codeIn K gcd7 "_law_caught_a" = true)
    (kg7 : PySem.W.keepIn K (.ref g7) = true)
    (ag8 : PySem.W.nsIn K mainGlobals "_law_caught_b" = some (some (.ref g8)))
    (lg8 : K.lookup g8 = some ⟨goc8, god8, .func (PySem.W.fnOf "_law_caught_b" "_law_caught_b" (defArgs s_law_caught_b) (defBody s_law_caught_b) (defScope s_law_caught_b) .none gkV8 gdc8 gpm8 gan8 gcd8 gct8), gsl8⟩)
    (cg8 : PySem.W.codeIn K gcd8 "_law_caught_b" = true)
    (kg8 : PySem.W.keepIn K (.ref g8) = true)
    (ag9 : PySem.W.nsIn K mainGlobals "_law_caught_c" = some (some (.ref g9)))
    (lg9 : K.lookup g9 = some ⟨goc9, god9, .func (PySem.W.fnOf "_law_caught_c" "_law_caught_c" (defArgs s_law_caught_c) (defBody s_law_caught_c) (defScope s_law_caught_c) .none gkV9 gdc9 gpm9 gan9 gcd9 gct9), gsl9⟩)
    (cg9 : PySem.W.codeIn K gcd9 "_law_caught_c" = true)
    (kg9 : PySem.W.keepIn K (.ref g9) = true)
    (ag10 : PySem.W.nsIn K mainGlobals "_law_is_base" = some (some (.ref g10)))
    (lg10 : K.lookup g10 = some ⟨goc10, god10, .func (PySem.W.fnOf "_law_is_base" "_law_is_base" (defArgs s_law_is_base) (defBody s_law_is_base) (defScope s_law_is_base) .none gkV10 gdc10 gpm10 gan10 gcd10 gct10), gsl10⟩)
    (cg10 : PySem.W.codeIn K gcd10 "_law_is_base" = true)
    (kg10 : PySem.W.keepIn K (.ref g10) = true)
    (ag11 : PySem.W.nsIn K mainGlobals "law" = some (some (.ref g11)))
    (lg11 : K.lookup g11 = some ⟨goc11, god11, .func (PySem.W.fnOf "law" "law" (defArgs s_law) (defBody s_law) (defScope s_law) .none gkV11 gdc11 gpm11 gan11 gcd11 gct11), gsl11⟩)
    (cg11 : PySem.W.codeIn K gcd11 "law" = true)
    (kg11 : PySem.W.keepIn K (.ref g11) = true)
    (zlen : PySem.W.nsIn K mainGlobals "len" = some none)
    (zabs : PySem.W.nsIn K mainGlobals "abs" = some none)
    (zint : PySem.W.nsIn K mainGlobals "int" = some none)
    (zrange : PySem.W.nsIn K mainGlobals "range" = some none)
    (nd : ([c0, c1, c2, c3, c4, c5, c6, c7, c8, c9, c10, c11, c12, c13, c14, c15, c16, c17, c18, c19, c20, S] : List Addr).Nodup)
    : ∃ fd : FuncData, (∀ (s : Shared) (v : Value), BindsTo s fd ⟨[v], []⟩ [("script", v)]) ∧ ∀ base : Heap, K.In base → base.Ns mainGlobals mg → FnOk l.prog w K mg base CX0 7 fa fd ["script"] (spLaw K) := by
  have e := hfa.symm.trans (PySem.W.mg_of X G ag11)
  cases e
  have hB : Bi mg := ⟨PySem.W.mg_none_of X G zlen, PySem.W.mg_none_of X G zabs, PySem.W.mg_none_of X G zint, PySem.W.mg_none_of X G zrange⟩
  have iS' : (PySem.W.clsIn K S).isSome = true := iS
  have g : ∀ i (hi : i ≤ 20), (fun i => ([c0, c1, c2, c3, c4, c5, c6, c7, c8, c9, c10, c11, c12, c13, c14, c15, c16, c17, c18, c19, c20] : List Addr).getD i 0) i = ([c0, c1, c2, c3, c4, c5, c6, c7, c8, c9, c10, c11, c12, c13, c14, c15, c16, c17, c18, c19, c20, S] : List Addr)[i]'(by show i < 22; omega) := fun i hi => by
    match i, hi with
    | 0, _ => rfl
    | 1, _ => rfl
    | 2, _ => rfl
    | 3, _ => rfl
    | 4, _ => rfl
    | 5, _ => rfl
    | 6, _ => rfl
    | 7, _ => rfl
    | 8, _ => rfl
    | 9, _ => rfl
    | 10, _ => rfl
    | 11, _ => rfl
    | 12, _ => rfl
    | 13, _ => rfl
    | 14, _ => rfl
    | 15, _ => rfl
    | 16, _ => rfl
    | 17, _ => rfl
    | 18, _ => rfl
    | 19, _ => rfl
    | 20, _ => rfl
    | n + 21, h => exact absurd h (by omega)
  have T : Txt K mg (fun i => ([c0, c1, c2, c3, c4, c5, c6, c7, c8, c9, c10, c11, c12, c13, c14, c15, c16, c17, c18, c19, c20] : List Addr).getD i 0) (fun i => ([f0, f1, f2, f3, f4, f5, f6, f7, f8, f9, f10, f11, f12, f13, f14, f15, f16, f17, f18, f19] : List Addr).getD i 0) S := {
    e0 := { gC := PySem.W.mg_of X G a0, ei := ei0, ov := ov0, sa := sa0, ga := ga0, gg := gg0, noN := nb0, iC := ii0, tC := tt0, kC := kk0, exC := eb0, tyC := ty0, hdC := hd0, fn := ⟨_, _, _, _, _, _, _, _, _, _, _, _, _, _, _, _, l0, cc0⟩ }
    e1 := { gC := PySem.W.mg_of X G a1, ei := ei1, ov := ov1, sa := sa1, ga := ga1, gg := gg1, noN := nb1, iC := ii1, tC := tt1, kC := kk1, exC := eb1, tyC := ty1, hdC := hd1, fn := ⟨_, _, _, _, _, _, _, _, _, _, _, _, _, _, _, _, l1, cc1⟩ }
    e2 := { gC := PySem.W.mg_of X G a2, ei := ei2, ov := ov2, sa := sa2, ga := ga2, gg := gg2, noN := nb2, iC := ii2, tC := tt2, kC := kk2, exC := eb2, tyC := ty2, hdC := hd2, fn := ⟨_, _, _, _, _, _, _, _, _, _, _, _, _, _, _, _, l2, cc2⟩ }
    e3 := { gC := PySem.W.mg_of X G a3, ei := ei3, ov := ov3, sa := sa3, ga := ga3, gg := gg3, noN := nb3, iC := ii3, tC := tt3, kC := kk3, exC := eb3, tyC := ty3, hdC := hd3, fn := ⟨_, _, _, _, _, _, _, _, _, _, _, _, _, _, _, _, l3, cc3⟩ }
    e4 := { gC := PySem.W.mg_of X G a4, ei := ei4, ov := ov4, sa := sa4, ga := ga4, gg := gg4, noN := nb4, iC := ii4, tC := tt4, kC := kk4, exC := eb4, tyC := ty4, hdC := hd4, fn := ⟨_, _, _, _, _, _, _, _, _, _, _, _, _, _, _, _, l4, cc4⟩ }
    e5 := { gC := PySem.W.mg_of X G a5, ei := ei5, ov := ov5, sa := sa5, ga := ga5, gg := gg5, noN := nb5, iC := ii5, tC := tt5, kC := kk5, exC := eb5, tyC := ty5, hdC := hd5, fn := ⟨_, _, _, _, _, _, _, _, _, _, _, _, _, _, _, _, l5, cc5⟩ }
    e6 := { gC := PySem.W.mg_of X G a6, ei := ei6, ov := ov6, sa := sa6, ga := ga6, gg := gg6, noN := nb6, iC := ii6, tC := tt6, kC := kk6, exC := eb6, tyC := ty6, hdC := hd6, fn := ⟨_, _, _, _, _, _, _, _, _, _, _, _, _, _, _, _, l6, cc6⟩ }
    e7 := { gC := PySem.W.mg_of X G a7, ei := ei7, ov := ov7, sa := sa7, ga := ga7, gg := gg7, noN := nb7, iC := ii7, tC := tt7, kC := kk7, exC := eb7, tyC := ty7, hdC := hd7, fn := ⟨_, _, _, _, _, _, _, _, _, _, _, _, _, _, _, _, l7, cc7⟩ }
    e8 := { gC := PySem.W.mg_of X G a8, ei := ei8, ov := ov8, sa := sa8, ga := ga8, gg := gg8, noN := nb8, iC := ii8, tC := tt8, kC := kk8, exC := eb8, tyC := ty8, hdC := hd8, fn := ⟨_, _, _, _, _, _, _, _, _, _, _, _, _, _, _, _, l8, cc8⟩ }
    e9 := { gC := PySem.W.mg_of X G a9, ei := ei9, ov := ov9, sa := sa9, ga := ga9, gg := gg9, noN := nb9, iC := ii9, tC := tt9, kC := kk9, exC := eb9, tyC := ty9, hdC := hd9, fn := ⟨_, _, _, _, _, _, _, _, _, _, _, _, _, _, _, _, l9, cc9⟩ }
    e10 := { gC := PySem.W.mg_of X G a10, ei := ei10, ov := ov10, sa := sa10, ga := ga10, gg := gg10, noN := nb10, iC := ii10, tC := tt10, kC := kk10, exC := eb10, tyC := ty10, hdC := hd10, fn := ⟨_, _, _, _, _, _, _, _, _, _, _, _, _, _, _, _, l10, cc10⟩ }
    e11 := { gC := PySem.W.mg_of X G a11, ei := ei11, ov := ov11, sa := sa11, ga := ga11, gg := gg11, noN := nb11, iC := ii11, tC := tt11, kC := kk11, exC := eb11, tyC := ty11, hdC := hd11, fn := ⟨_, _, _, _, _, _, _, _, _, _, _, _, _, _, _, _, l11, cc11⟩ }
    e12 := { gC := PySem.W.mg_of X G a12, ei := ei12, ov := ov12, sa := sa12, ga := ga12, gg := gg12, noN := nb12, iC := ii12, tC := tt12, kC := kk12, exC := eb12, tyC := ty12, hdC := hd12, fn := ⟨_, _, _, _, _, _, _, _, _, _, _, _, _, _, _, _, l12, cc12⟩ }
    e13 := { gC := PySem.W.mg_of X G a13, ei := ei13, ov := ov13, sa := sa13, ga := ga13, gg := gg13, noN := nb13, iC := ii13, tC := tt13, kC := kk13, exC := eb13, tyC := ty13, hdC := hd13, fn := ⟨_, _, _, _, _, _, _, _, _, _, _, _, _, _, _, _, l13, cc13⟩ }
    e14 := { gC := PySem.W.mg_of X G a14, ei := ei14, ov := ov14, sa := sa14, ga := ga14, gg := gg14, noN := nb14, iC := ii14, tC := tt14, kC := kk14, exC := eb14, tyC := ty14, hdC := hd14, fn := ⟨_, _, _, _, _, _, _, _, _, _, _, _, _, _, _, _, l14, cc14⟩ }
    e15 := { gC := PySem.W.mg_of X G a15, ei := ei15, ov := ov15, sa := sa15, ga := ga15, gg := gg15, noN := nb15, iC := ii15, tC := tt15, kC := kk15, exC := eb15, tyC := ty15, hdC := hd15, fn := ⟨_, _, _, _, _, _, _, _, _, _, _, _, _, _, _, _, l15, cc15⟩ }
    e16 := { gC := PySem.W.mg_of X G a16, ei := ei16, ov := ov16, sa := sa16, ga := ga16, gg := gg16, noN := nb16, iC := ii16, tC := tt16, kC := kk16, exC := eb16, tyC := ty16, hdC := hd16, fn := ⟨_, _, _, _, _, _, _, _, _, _, _, _, _, _, _, _, l16, cc16⟩ }
    e17 := { gC := PySem.W.mg_of X G a17, ei := ei17, ov := ov17, sa := sa17, ga := ga17, gg := gg17, noN := nb17, iC := ii17, tC := tt17, kC := kk17, exC := eb17, tyC := ty17, hdC := hd17, fn := ⟨_, _, _, _, _, _, _, _, _, _, _, _, _, _, _, _, l17, cc17⟩ }
    e18 := { gC := PySem.W.mg_of X G a18, ei := ei18, ov := ov18, sa := sa18, ga := ga18, gg := gg18, noN := nb18, iC := ii18, tC := tt18, kC := kk18, exC := eb18, tyC := ty18, hdC := hd18, fn := ⟨_, _, _, _, _, _, _, _, _, _, _, _, _, _, _, _, l18, cc18⟩ }
    e19 := { gC := PySem.W.mg_of X G a19, ei := ei19, ov := ov19, sa := sa19, ga := ga19, gg := gg19, noN := nb19, iC := ii19, tC := tt19, kC := kk19, exC := eb19, tyC := ty19, hdC := hd19, fn := ⟨_, _, _, _, _, _, _, _, _, _, _, _, _, _, _, _, l19, cc19⟩ }
    x20 := xx20, g20 := PySem.W.mg_of X G a20, k20 := kk20, b20 := eb20, t20 := ty20
    gS := PySem.W.mg_of X G aS, bS := bS, tS := tS, iS := iS'
    mro := fun i hi => by
      match i, hi with
      | 0, _ => exact mro_of x0
      | 1, _ => exact mro_of x1
      | 2, _ => exact mro_of x2
      | 3, _ => exact mro_of x3
      | 4, _ => exact mro_of x4
      | 5, _ => exact mro_of x5
      | 6, _ => exact mro_of x6
      | 7, _ => exact mro_of x7
      | 8, _ => exact mro_of x8
      | 9, _ => exact mro_of x9
      | 10, _ => exact mro_of x10
      | 11, _ => exact mro_of x11
      | 12, _ => exact mro_of x12
      | 13, _ => exact mro_of x13
      | 14, _ => exact mro_of x14
      | 15, _ => exact mro_of x15
      | 16, _ => exact mro_of x16
      | 17, _ => exact mro_of x17
      | 18, _ => exact mro_of x18
      | 19, _ => exact mro_of x19
      | 20, _ => exact mro_of x20
      | n + 21, h => exact absurd h (by omega)
    inj := fun i j hi hj z => (List.getElem_inj nd).mp (((g i hi).symm.trans z).trans (g j hj))
    neS := fun i hi z => by
      have q : i = 21 := (List.getElem_inj (i := i) (j := 21) (h₀ := by show i < 22; omega) (h₁ := by show 21 < 22; omega) nd).mp ((g i hi).symm.trans z)
      omega }
  have F0 := fun_mk (st := s_law_box) lg0 cg0 kg0
  have F1 := fun_mk (st := s_law_take) lg1 cg1 kg1
  have F2 := fun_mk (st := s_law_pick) lg2 cg2 kg2
  have F3 := fun_mk (st := s_law_raise_a) lg3 cg3 kg3
  have F4 := fun_mk (st := s_law_raise_b) lg4 cg4 kg4
  have F5 := fun_mk (st := s_law_raise_c) lg5 cg5 kg5
  have F6 := fun_mk (st := s_law_raise) lg6 cg6 kg6
  have F7 := fun_mk (st := s_law_caught_a) lg7 cg7 kg7
  have F8 := fun_mk (st := s_law_caught_b) lg8 cg8 kg8
  have F9 := fun_mk (st := s_law_caught_c) lg9 cg9 kg9
  have F10 := fun_mk (st := s_law_is_base) lg10 cg10 kg10
  have F11 := fun_mk (st := s_law) lg11 cg11 kg11
  have b0 := F0.binds (ps := ["script", "k"]) fun _ _ _ _ _ _ us hl => match us, hl with | [_, _], _ => rfl
  have b1 := F1.binds (ps := ["box", "many"]) fun _ _ _ _ _ _ us hl => match us, hl with | [_, _], _ => rfl
  have b2 := F2.binds (ps := ["box", "some"]) fun _ _ _ _ _ _ us hl => match us, hl with | [_, _], _ => rfl
  have b3 := F3.binds (ps := ["number", "thing"]) fun _ _ _ _ _ _ us hl => match us, hl with | [_, _], _ => rfl
  have b4 := F4.binds (ps := ["number", "thing"]) fun _ _ _ _ _ _ us hl => match us, hl with | [_, _], _ => rfl
  have b5 := F5.binds (ps := ["number", "thing"]) fun _ _ _ _ _ _ us hl => match us, hl with | [_, _], _ => rfl
  have b6 := F6.binds (ps := ["number", "thing"]) fun _ _ _ _ _ _ us hl => match us, hl with | [_, _], _ => rfl
  have b7 := F7.binds (ps := ["number", "thing"]) fun _ _ _ _ _ _ us hl => match us, hl with | [_, _], _ => rfl
  have b8 := F8.binds (ps := ["number", "thing"]) fun _ _ _ _ _ _ us hl => match us, hl with | [_, _], _ => rfl
  have b9 := F9.binds (ps := ["number", "thing"]) fun _ _ _ _ _ _ us hl => match us, hl with | [_, _], _ => rfl
  have b10 := F10.binds (ps := ["number", "thing"]) fun _ _ _ _ _ _ us hl => match us, hl with | [_, _], _ => rfl
  refine ⟨PySem.W.fnOf "law" "law" (defArgs s_law) (defBody s_law) (defScope s_law) .none gkV11 gdc11 gpm11 gan11 gcd11 gct11, fun s v => .of_eq rfl, fun base _ _ => ?_⟩
  have GR : FnOk l.prog w K mg base (L2.CX l.prog w) 3 g6 _ ["number", "thing"] (spRaise _ 0 20) := ok_raise (k := 0) F6 T F3 b3 (PySem.W.mg_of X G ag3) F4 b4 (PySem.W.mg_of X G ag4) F5 b5 (PySem.W.mg_of X G ag5)
  have GA := ok_caught_a (P := l.prog) (w := w) (base := base) (k := 0) F7 T F6 b6 (PySem.W.mg_of X G ag6) GR
  have GBb := ok_caught_b (P := l.prog) (w := w) (base := base) (k := 0) F8 T F7 b7 (PySem.W.mg_of X G ag7) GA
  have GC := ok_caught_c (P := l.prog) (w := w) (base := base) (k := 0) F9 T F8 b8 (PySem.W.mg_of X G ag8) GBb
  have GI := ok_is_base (P := l.prog) (w := w) (base := base) (k := 0) F10 T F6 b6 (PySem.W.mg_of X G ag6) GR
  exact ok_law F11 hB T F0 b0 (PySem.W.mg_of X G ag0) F1 b1 (PySem.W.mg_of X G ag1) F2 b2 (PySem.W.mg_of X G ag2) F9 b9 (PySem.W.mg_of X G ag9) GC F10 b10 (PySem.W.mg_of X G ag10) GI
end Kx

set_option Elab.async false
set_option maxRecDepth 100000
open PySem PySem.W PyProof.Rows
set_option maxHeartbeats 0 in
theorem PySem.Challenge.cw_nomoreseen_k00_whole_errors_and_what_the_holds : PySem.Challenge.rw_nomoreseen_k00_whole_errors_and_what_the.Holds := by
  w_on; o_law; k_head; (case hw => w_witness2)
  k_fill
  refine L2.walk_of (l := PySem.Challenge.rw_nomoreseen_k00_whole_errors_and_what_the) (n := 63) (k := 7) (x := "script") (CX := fun _ => L2.CX0) (sp := fun w => Kx.spLaw _) rfl (by decide) rfl ⟨rfl, by decide, by decide⟩ (fun w h Y => PySem.W.kIn_of Y) ?F (fun _ _ a ns hl _ hS => ⟨a, ns, rfl, hS, hl, fun _ => rfl⟩) (fun _ _ _ _ _ h => h)
  case F =>
    intro w mg fa h KX G hmg
    refine' Kx.all_mk KX G hmg ?aS ?bS ?tS ?iS ?a0 ?x0 ?kk0 ?eb0 ?ty0 ?ei0 ?ov0 ?sa0 ?ga0 ?gg0 ?nb0 ?ii0 ?tt0 ?l0 ?cc0 ?hd0 ?a1 ?x1 ?kk1 ?eb1 ?ty1 ?ei1 ?ov1 ?sa1 ?ga1 ?gg1 ?nb1 ?ii1 ?tt1 ?l1 ?cc1 ?hd1 ?a2 ?x2 ?kk2 ?eb2 ?ty2 ?ei2 ?ov2 ?sa2 ?ga2 ?gg2 ?nb2 ?ii2 ?tt2 ?l2 ?cc2 ?hd2 ?a3 ?x3 ?kk3 ?eb3 ?ty3 ?ei3 ?ov3 ?sa3 ?ga3 ?gg3 ?nb3 ?ii3 ?tt3 ?l3 ?cc3 ?hd3 ?a4 ?x4 ?kk4 ?eb4 ?ty4 ?ei4 ?ov4 ?sa4 ?ga4 ?gg4 ?nb4 ?ii4 ?tt4 ?l4 ?cc4 ?hd4 ?a5 ?x5 ?kk5 ?eb5 ?ty5 ?ei5 ?ov5 ?sa5 ?ga5 ?gg5 ?nb5 ?ii5 ?tt5 ?l5 ?cc5 ?hd5 ?a6 ?x6 ?kk6 ?eb6 ?ty6 ?ei6 ?ov6 ?sa6 ?ga6 ?gg6 ?nb6 ?ii6 ?tt6 ?l6 ?cc6 ?hd6 ?a7 ?x7 ?kk7 ?eb7 ?ty7 ?ei7 ?ov7 ?sa7 ?ga7 ?gg7 ?nb7 ?ii7 ?tt7 ?l7 ?cc7 ?hd7 ?a8 ?x8 ?kk8 ?eb8 ?ty8 ?ei8 ?ov8 ?sa8 ?ga8 ?gg8 ?nb8 ?ii8 ?tt8 ?l8 ?cc8 ?hd8 ?a9 ?x9 ?kk9 ?eb9 ?ty9 ?ei9 ?ov9 ?sa9 ?ga9 ?gg9 ?nb9 ?ii9 ?tt9 ?l9 ?cc9 ?hd9 ?a10 ?x10 ?kk10 ?eb10 ?ty10 ?ei10 ?ov10 ?sa10 ?ga10 ?gg10 ?nb10 ?ii10 ?tt10 ?l10 ?cc10 ?hd10 ?a11 ?x11 ?kk11 ?eb11 ?ty11 ?ei11 ?ov11 ?sa11 ?ga11 ?gg11 ?nb11 ?ii11 ?tt11 ?l11 ?cc11 ?hd11 ?a12 ?x12 ?kk12 ?eb12 ?ty12 ?ei12 ?ov12 ?sa12 ?ga12 ?gg12 ?nb12 ?ii12 ?tt12 ?l12 ?cc12 ?hd12 ?a13 ?x13 ?kk13 ?eb13 ?ty13 ?ei13 ?ov13 ?sa13 ?ga13 ?gg13 ?nb13 ?ii13 ?tt13 ?l13 ?cc13 ?hd13 ?a14 ?x14 ?kk14 ?eb14 ?ty14 ?ei14 ?ov14 ?sa14 ?ga14 ?gg14 ?nb14 ?ii14 ?tt14 ?l14 ?cc14 ?hd14 ?a15 ?x15 ?kk15 ?eb15 ?ty15 ?ei15 ?ov15 ?sa15 ?ga15 ?gg15 ?nb15 ?ii15 ?tt15 ?l15 ?cc15 ?hd15 ?a16 ?x16 ?kk16 ?eb16 ?ty16 ?ei16 ?ov16 ?sa16 ?ga16 ?gg16 ?nb16 ?ii16 ?tt16 ?l16 ?cc16 ?hd16 ?a17 ?x17 ?kk17 ?eb17 ?ty17 ?ei17 ?ov17 ?sa17 ?ga17 ?gg17 ?nb17 ?ii17 ?tt17 ?l17 ?cc17 ?hd17 ?a18 ?x18 ?kk18 ?eb18 ?ty18 ?ei18 ?ov18 ?sa18 ?ga18 ?gg18 ?nb18 ?ii18 ?tt18 ?l18 ?cc18 ?hd18 ?a19 ?x19 ?kk19 ?eb19 ?ty19 ?ei19 ?ov19 ?sa19 ?ga19 ?gg19 ?nb19 ?ii19 ?tt19 ?l19 ?cc19 ?hd19 ?a20 ?x20 ?kk20 ?eb20 ?ty20 ?xx20 ?ag0 ?lg0 ?cg0 ?kg0 ?ag1 ?lg1 ?cg1 ?kg1 ?ag2 ?lg2 ?cg2 ?kg2 ?ag3 ?lg3 ?cg3 ?kg3 ?ag4 ?lg4 ?cg4 ?kg4 ?ag5 ?lg5 ?cg5 ?kg5 ?ag6 ?lg6 ?cg6 ?kg6 ?ag7 ?lg7 ?cg7 ?kg7 ?ag8 ?lg8 ?cg8 ?kg8 ?ag9 ?lg9 ?cg9 ?kg9 ?ag10 ?lg10 ?cg10 ?kg10 ?ag11 ?lg11 ?cg11 ?kg11 ?zlen ?zabs ?zint ?zrange ?nd
    (case aS => k_is)
    (case bS => k_is)
    (case tS => k_is)
    (case iS => k_is)
    (case a0 => k_is)
    (case x0 => k_is)
    (case kk0 => k_is)
    (case eb0 => k_is)
    (case ty0 => k_is)
    (case ei0 => first | k_is | rfl | decide +kernel)
    (case ov0 => first | k_is | rfl | decide +kernel)
    (case sa0 => k_is)
    (case ga0 => k_is)
    (case gg0 => k_is)
    (case nb0 => k_is)
    (case ii0 => k_is)
    (case tt0 => k_is)
    (case l0 => k_is)
    (case cc0 => k_is)
    (case hd0 => k_is)
    (case a1 => k_is)
    (case x1 => k_is)
    (case kk1 => k_is)
    (case eb1 => k_is)
    (case ty1 => k_is)
    (case ei1 => first | k_is | rfl | decide +kernel)
    (case ov1 => first | k_is | rfl | decide +kernel)
    (case sa1 => k_is)
    (case ga1 => k_is)
    (case gg1 => k_is)
    (case nb1 => k_is)
    (case ii1 => k_is)
    (case tt1 => k_is)
    (case l1 => k_is)
    (case cc1 => k_is)
    (case hd1 => k_is)
    (case a2 => k_is)
    (case x2 => k_is)
    (case kk2 => k_is)
    (case eb2 => k_is)
    (case ty2 => k_is)
    (case ei2 => first | k_is | rfl | decide +kernel)
    (case ov2 => first | k_is | rfl | decide +kernel)
    (case sa2 => k_is)
    (case ga2 => k_is)
    (case gg2 => k_is)
    (case nb2 => k_is)
    (case ii2 => k_is)
    (case tt2 => k_is)
    (case l2 => k_is)
    (case cc2 => k_is)
    (case hd2 => k_is)
    (case a3 => k_is)
    (case x3 => k_is)
    (case kk3 => k_is)
    (case eb3 => k_is)
    (case ty3 => k_is)
    (case ei3 => first | k_is | rfl | decide +kernel)
    (case ov3 => first | k_is | rfl | decide +kernel)
    (case sa3 => k_is)
    (case ga3 => k_is)
    (case gg3 => k_is)
    (case nb3 => k_is)
    (case ii3 => k_is)
    (case tt3 => k_is)
    (case l3 => k_is)
    (case cc3 => k_is)
    (case hd3 => k_is)
    (case a4 => k_is)
    (case x4 => k_is)
    (case kk4 => k_is)
    (case eb4 => k_is)
    (case ty4 => k_is)
    (case ei4 => first | k_is | rfl | decide +kernel)
    (case ov4 => first | k_is | rfl | decide +kernel)
    (case sa4 => k_is)
    (case ga4 => k_is)
    (case gg4 => k_is)
    (case nb4 => k_is)
    (case ii4 => k_is)
    (case tt4 => k_is)
    (case l4 => k_is)
    (case cc4 => k_is)
    (case hd4 => k_is)
    (case a5 => k_is)
    (case x5 => k_is)
    (case kk5 => k_is)
    (case eb5 => k_is)
    (case ty5 => k_is)
    (case ei5 => first | k_is | rfl | decide +kernel)
    (case ov5 => first | k_is | rfl | decide +kernel)
    (case sa5 => k_is)
    (case ga5 => k_is)
    (case gg5 => k_is)
    (case nb5 => k_is)
    (case ii5 => k_is)
    (case tt5 => k_is)
    (case l5 => k_is)
    (case cc5 => k_is)
    (case hd5 => k_is)
    (case a6 => k_is)
    (case x6 => k_is)
    (case kk6 => k_is)
    (case eb6 => k_is)
    (case ty6 => k_is)
    (case ei6 => first | k_is | rfl | decide +kernel)
    (case ov6 => first | k_is | rfl | decide +kernel)
    (case sa6 => k_is)
    (case ga6 => k_is)
    (case gg6 => k_is)
    (case nb6 => k_is)
    (case ii6 => k_is)
    (case tt6 => k_is)
    (case l6 => k_is)
    (case cc6 => k_is)
    (case hd6 => k_is)
    (case a7 => k_is)
    (case x7 => k_is)
    (case kk7 => k_is)
    (case eb7 => k_is)
    (case ty7 => k_is)
    (case ei7 => first | k_is | rfl | decide +kernel)
    (case ov7 => first | k_is | rfl | decide +kernel)
    (case sa7 => k_is)
    (case ga7 => k_is)
    (case gg7 => k_is)
    (case nb7 => k_is)
    (case ii7 => k_is)
    (case tt7 => k_is)
    (case l7 => k_is)
    (case cc7 => k_is)
    (case hd7 => k_is)
    (case a8 => k_is)
    (case x8 => k_is)
    (case kk8 => k_is)
    (case eb8 => k_is)
    (case ty8 => k_is)
    (case ei8 => first | k_is | rfl | decide +kernel)
    (case ov8 => first | k_is | rfl | decide +kernel)
    (case sa8 => k_is)
    (case ga8 => k_is)
    (case gg8 => k_is)
    (case nb8 => k_is)
    (case ii8 => k_is)
    (case tt8 => k_is)
    (case l8 => k_is)
    (case cc8 => k_is)
    (case hd8 => k_is)
    (case a9 => k_is)
    (case x9 => k_is)
    (case kk9 => k_is)
    (case eb9 => k_is)
    (case ty9 => k_is)
    (case ei9 => first | k_is | rfl | decide +kernel)
    (case ov9 => first | k_is | rfl | decide +kernel)
    (case sa9 => k_is)
    (case ga9 => k_is)
    (case gg9 => k_is)
    (case nb9 => k_is)
    (case ii9 => k_is)
    (case tt9 => k_is)
    (case l9 => k_is)
    (case cc9 => k_is)
    (case hd9 => k_is)
    (case a10 => k_is)
    (case x10 => k_is)
    (case kk10 => k_is)
    (case eb10 => k_is)
    (case ty10 => k_is)
    (case ei10 => first | k_is | rfl | decide +kernel)
    (case ov10 => first | k_is | rfl | decide +kernel)
    (case sa10 => k_is)
    (case ga10 => k_is)
    (case gg10 => k_is)
    (case nb10 => k_is)
    (case ii10 => k_is)
    (case tt10 => k_is)
    (case l10 => k_is)
    (case cc10 => k_is)
    (case hd10 => k_is)
    (case a11 => k_is)
    (case x11 => k_is)
    (case kk11 => k_is)
    (case eb11 => k_is)
    (case ty11 => k_is)
    (case ei11 => first | k_is | rfl | decide +kernel)
    (case ov11 => first | k_is | rfl | decide +kernel)
    (case sa11 => k_is)
    (case ga11 => k_is)
    (case gg11 => k_is)
    (case nb11 => k_is)
    (case ii11 => k_is)
    (case tt11 => k_is)
    (case l11 => k_is)
    (case cc11 => k_is)
    (case hd11 => k_is)
    (case a12 => k_is)
    (case x12 => k_is)
    (case kk12 => k_is)
    (case eb12 => k_is)
    (case ty12 => k_is)
    (case ei12 => first | k_is | rfl | decide +kernel)
    (case ov12 => first | k_is | rfl | decide +kernel)
    (case sa12 => k_is)
    (case ga12 => k_is)
    (case gg12 => k_is)
    (case nb12 => k_is)
    (case ii12 => k_is)
    (case tt12 => k_is)
    (case l12 => k_is)
    (case cc12 => k_is)
    (case hd12 => k_is)
    (case a13 => k_is)
    (case x13 => k_is)
    (case kk13 => k_is)
    (case eb13 => k_is)
    (case ty13 => k_is)
    (case ei13 => first | k_is | rfl | decide +kernel)
    (case ov13 => first | k_is | rfl | decide +kernel)
    (case sa13 => k_is)
    (case ga13 => k_is)
    (case gg13 => k_is)
    (case nb13 => k_is)
    (case ii13 => k_is)
    (case tt13 => k_is)
    (case l13 => k_is)
    (case cc13 => k_is)
    (case hd13 => k_is)
    (case a14 => k_is)
    (case x14 => k_is)
    (case kk14 => k_is)
    (case eb14 => k_is)
    (case ty14 => k_is)
    (case ei14 => first | k_is | rfl | decide +kernel)
    (case ov14 => first | k_is | rfl | decide +kernel)
    (case sa14 => k_is)
    (case ga14 => k_is)
    (case gg14 => k_is)
    (case nb14 => k_is)
    (case ii14 => k_is)
    (case tt14 => k_is)
    (case l14 => k_is)
    (case cc14 => k_is)
    (case hd14 => k_is)
    (case a15 => k_is)
    (case x15 => k_is)
    (case kk15 => k_is)
    (case eb15 => k_is)
    (case ty15 => k_is)
    (case ei15 => first | k_is | rfl | decide +kernel)
    (case ov15 => first | k_is | rfl | decide +kernel)
    (case sa15 => k_is)
    (case ga15 => k_is)
    (case gg15 => k_is)
    (case nb15 => k_is)
    (case ii15 => k_is)
    (case tt15 => k_is)
    (case l15 => k_is)
    (case cc15 => k_is)
    (case hd15 => k_is)
    (case a16 => k_is)
    (case x16 => k_is)
    (case kk16 => k_is)
    (case eb16 => k_is)
    (case ty16 => k_is)
    (case ei16 => first | k_is | rfl | decide +kernel)
    (case ov16 => first | k_is | rfl | decide +kernel)
    (case sa16 => k_is)
    (case ga16 => k_is)
    (case gg16 => k_is)
    (case nb16 => k_is)
    (case ii16 => k_is)
    (case tt16 => k_is)
    (case l16 => k_is)
    (case cc16 => k_is)
    (case hd16 => k_is)
    (case a17 => k_is)
    (case x17 => k_is)
    (case kk17 => k_is)
    (case eb17 => k_is)
    (case ty17 => k_is)
    (case ei17 => first | k_is | rfl | decide +kernel)
    (case ov17 => first | k_is | rfl | decide +kernel)
    (case sa17 => k_is)
    (case ga17 => k_is)
    (case gg17 => k_is)
    (case nb17 => k_is)
    (case ii17 => k_is)
    (case tt17 => k_is)
    (case l17 => k_is)
    (case cc17 => k_is)
    (case hd17 => k_is)
    (case a18 => k_is)
    (case x18 => k_is)
    (case kk18 => k_is)
    (case eb18 => k_is)
    (case ty18 => k_is)
    (case ei18 => first | k_is | rfl | decide +kernel)
    (case ov18 => first | k_is | rfl | decide +kernel)
    (case sa18 => k_is)
    (case ga18 => k_is)
    (case gg18 => k_is)
    (case nb18 => k_is)
    (case ii18 => k_is)
    (case tt18 => k_is)
    (case l18 => k_is)
    (case cc18 => k_is)
    (case hd18 => k_is)
    (case a19 => k_is)
    (case x19 => k_is)
    (case kk19 => k_is)
    (case eb19 => k_is)
    (case ty19 => k_is)
    (case ei19 => first | k_is | rfl | decide +kernel)
    (case ov19 => first | k_is | rfl | decide +kernel)
    (case sa19 => k_is)
    (case ga19 => k_is)
    (case gg19 => k_is)
    (case nb19 => k_is)
    (case ii19 => k_is)
    (case tt19 => k_is)
    (case l19 => k_is)
    (case cc19 => k_is)
    (case hd19 => k_is)
    (case a20 => k_is)
    (case x20 => k_is)
    (case kk20 => k_is)
    (case eb20 => k_is)
    (case ty20 => k_is)
    (case xx20 => first | k_exc | k_is | rfl | decide +kernel)
    (case ag0 => k_is)
    (case lg0 => k_is)
    (case cg0 => k_is)
    (case kg0 => k_is)
    (case ag1 => k_is)
    (case lg1 => k_is)
    (case cg1 => k_is)
    (case kg1 => k_is)
    (case ag2 => k_is)
    (case lg2 => k_is)
    (case cg2 => k_is)
    (case kg2 => k_is)
    (case ag3 => k_is)
    (case lg3 => k_is)
    (case cg3 => k_is)
    (case kg3 => k_is)
    (case ag4 => k_is)
    (case lg4 => k_is)
    (case cg4 => k_is)
    (case kg4 => k_is)
    (case ag5 => k_is)
    (case lg5 => k_is)
    (case cg5 => k_is)
    (case kg5 => k_is)
    (case ag6 => k_is)
    (case lg6 => k_is)
    (case cg6 => k_is)
    (case kg6 => k_is)
    (case ag7 => k_is)
    (case lg7 => k_is)
    (case cg7 => k_is)
    (case kg7 => k_is)
    (case ag8 => k_is)
    (case lg8 => k_is)
    (case cg8 => k_is)
    (case kg8 => k_is)
    (case ag9 => k_is)
    (case lg9 => k_is)
    (case cg9 => k_is)
    (case kg9 => k_is)
    (case ag10 => k_is)
    (case lg10 => k_is)
    (case cg10 => k_is)
    (case kg10 => k_is)
    (case ag11 => k_is)
    (case lg11 => k_is)
    (case cg11 => k_is)
    (case kg11 => k_is)
    (case zlen => k_is)
    (case zabs => k_is)
    (case zint => k_is)
    (case zrange => k_is)
    (case nd => decide)

